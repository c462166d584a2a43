import PyProof.Rows.All
import Wide.All
import OpenK.AllK
import Wide.FinOn
import Lean
import PyProof.EqAt
import PyProof.EqKinds
import PyProof.TupleCall
import PySem.Challenge.RW_fairdays_k02_refused
set_option Elab.async false
set_option linter.all false
set_option maxRecDepth 100000
namespace L2
open PySem PySem.Spec PyProof.Rows
abbrev Key := Sum Int Str
def keyIs : Key → Value → Bool
  | .inl k, v => Value.isInt k v
  | .inr x, v => Value.isStrOf x v
def keyH (w : World) : Key → Int
  | .inl k => hashInt k
  | .inr x => hashStr w x
theorem keyIs_shape : ∀ {k : Key} {v : Value}, keyIs k v = true → (∃ i t, k = Sum.inl i ∧ v = Value.int i t) ∨ (∃ x t, k = Sum.inr x ∧ v = Value.str x t)
  | .inl i, v, h => by
    obtain ⟨t, e⟩ := Value.isInt_shape (k := i) (v := v) h
    exact .inl ⟨i, t, rfl, e⟩
  | .inr x, v, h => by
    obtain ⟨t, e⟩ := Value.isStrOf_shape (x := x) (v := v) h
    exact .inr ⟨x, t, rfl, e⟩
theorem keyIs_int (i : Int) (t : Tok) : keyIs (.inl i) (.int i t) = true := by simp [keyIs, Value.isInt]
theorem keyIs_str (x : Str) (t : Tok) : keyIs (.inr x) (.str x t) = true := by simp [keyIs, Value.isStrOf]
theorem key_ll (a b : Int) : decide ((Sum.inl a : Key) = Sum.inl b) = (a == b) := by
  by_cases e : a = b
  · subst e; simp
  · have h : ¬ (Sum.inl a : Key) = Sum.inl b := fun q => e (Sum.inl.inj q)
    rw [decide_eq_false h]
    exact (beq_eq_false_iff_ne.mpr e).symm
theorem key_rr (a b : Str) : decide ((Sum.inr a : Key) = Sum.inr b) = decide (a = b) := by
  by_cases e : a = b
  · subst e; simp
  · have h : ¬ (Sum.inr a : Key) = Sum.inr b := fun q => e (Sum.inr.inj q)
    rw [decide_eq_false h, decide_eq_false e]
theorem key_lr (a : Int) (b : Str) : decide ((Sum.inl a : Key) = Sum.inr b) = false := decide_eq_false (fun q => nomatch q)
theorem key_rl (a : Str) (b : Int) : decide ((Sum.inr a : Key) = Sum.inl b) = false := decide_eq_false (fun q => nomatch q)
def mixKind (prog : Program) (w : World) : PySem.KeyKind prog w Key where
  is := keyIs
  hash := keyH w
  inj := fun v a b ha hb => by
    rcases keyIs_shape ha with ⟨i, t, rfl, rfl⟩ | ⟨x, t, rfl, rfl⟩
    · rcases keyIs_shape hb with ⟨j, u, rfl, e⟩ | ⟨y, u, rfl, e⟩
      · injection e with e1 _; rw [e1]
      · exact nomatch e
    · rcases keyIs_shape hb with ⟨j, u, rfl, e⟩ | ⟨y, u, rfl, e⟩
      · exact nomatch e
      · injection e with e1 _; rw [e1]
  byValue := fun k v h => by
    rcases keyIs_shape h with ⟨i, t, rfl, rfl⟩ | ⟨x, t, rfl, rfl⟩ <;> rfl
  pyHash := fun hv h => by
    rcases keyIs_shape hv with ⟨i, t, rfl, rfl⟩ | ⟨x, t, rfl, rfl⟩
    · exact wpAny_pyHash_int h
    · exact wpAny_pyHash_str h
  eqBool := fun hu hv h => by
    rcases keyIs_shape hu with ⟨i, t, rfl, rfl⟩ | ⟨x, t, rfl, rfl⟩
    · rcases keyIs_shape hv with ⟨j, u, rfl, rfl⟩ | ⟨y, u, rfl, rfl⟩
      · rw [key_ll] at h; exact wpAny_eqBool_int h
      · rw [key_lr] at h; exact SeqAt.EqAt.int_str i t y u _ _ _ _ h
    · rcases keyIs_shape hv with ⟨j, u, rfl, rfl⟩ | ⟨y, u, rfl, rfl⟩
      · rw [key_rl] at h; exact SeqAt.EqAt.str_int x t j u _ _ _ _ h
      · rw [key_rr] at h; exact wpAny_eqBool_str h
  «strs» := fun k x t v h => by
    rcases keyIs_shape h with ⟨i, u, rfl, e⟩ | ⟨y, u, rfl, e⟩
    · exact nomatch e
    · injection e with e1 _
      subst e1
      cases v <;> rfl
theorem mixKind_int (prog : Program) (w : World) (i : Int) (t : Tok) : (mixKind prog w).is (.inl i) (.int i t) = true := keyIs_int i t
theorem mixKind_str (prog : Program) (w : World) (x : Str) (t : Tok) : (mixKind prog w).is (.inr x) (.str x t) = true := keyIs_str x t
end L2
namespace L2
open PySem PySem.Spec PyProof.Rows
inductive V where
  | non | bl (b : Bool) | int (i : Int) | str (x : Str) | byt (b : Array UInt8) | flt (b : UInt64) | ref (a : Addr) | ty (n : String)
  deriving DecidableEq
def RelV : V → Value → Prop
  | .non, u => u = Value.none
  | .bl b, u => u = Value.bool b
  | .int i, u => ∃ t, u = Value.int i t
  | .str x, u => ∃ t, u = Value.str x t
  | .byt b, u => ∃ t, u = Value.bytes b t
  | .flt b, u => ∃ t, u = Value.float b t
  | .ref a, u => u = Value.ref a
  | .ty n, u => u = Value.type n
abbrev Vals : List V → List Value → Prop := Paired RelV
theorem Vals.length {xs : List V} {us : List Value} (r : Vals xs us) : xs.length = us.length := Paired.length r
theorem Vals.get : ∀ {xs : List V} {us : List Value} {i : Nat} {x : V}, Vals xs us → xs[i]? = some x → ∃ u, us[i]? = some u ∧ RelV x u
  | _, _, _, _, .nil, e => by simp at e
  | _, _, 0, _, .cons r _, e => by simp at e; subst e; exact ⟨_, rfl, r⟩
  | _, _, i + 1, x, .cons _ t, e => by
    obtain ⟨u, h1, h2⟩ := Vals.get (i := i) (x := x) t (by simpa using e)
    exact ⟨u, by simpa using h1, h2⟩
theorem Vals.set {x : V} {u : Value} (r : RelV x u) : ∀ {xs : List V} {us : List Value} (i : Nat), Vals xs us → Vals (xs.set i x) (us.set i u)
  | _, _, _, .nil => .nil
  | _, _, 0, .cons _ t => .cons r t
  | _, _, i + 1, .cons q t => .cons q (Vals.set r i t)
theorem Vals.append : ∀ {xs ys : List V} {us ws : List Value}, Vals xs us → Vals ys ws → Vals (xs ++ ys) (us ++ ws)
  | _, _, _, _, .nil, s => s
  | _, _, _, _, .cons r t, s => .cons r (Vals.append t s)
theorem Vals.take : ∀ {xs : List V} {us : List Value} (n : Nat), Vals xs us → Vals (xs.take n) (us.take n)
  | _, _, 0, _ => .nil
  | _, _, _ + 1, .nil => .nil
  | _, _, n + 1, .cons r t => .cons r (Vals.take n t)
theorem Vals.drop : ∀ {xs : List V} {us : List Value} (n : Nat), Vals xs us → Vals (xs.drop n) (us.drop n)
  | _, _, 0, r => r
  | _, _, _ + 1, .nil => .nil
  | _, _, n + 1, .cons _ t => Vals.drop n t
theorem Vals.none_of : ∀ {xs : List V} {us : List Value} {i : Nat}, Vals xs us → xs[i]? = none → us[i]? = none := fun {xs us i} r e => by
  have h1 := r.length
  have h2 : xs.length ≤ i := List.getElem?_eq_none_iff.mp e
  exact List.getElem?_eq_none_iff.mpr (by omega)
def RelO : Option V → Option Value → Prop
  | some v, some u => RelV v u
  | none, none => True
  | _, _ => False
def KV {κ : Type} : List (κ × V) → List (κ × Value) → Prop := Paired fun (p : κ × V) (q : κ × Value) => p.1 = q.1 ∧ RelV p.2 q.2
def kV : Key → V
  | .inl i => .int i
  | .inr x => .str x
inductive HO where
  | lst (xs : List V)
  | tup (xs : List V)
  | dK (kvs : List (Key × V)) | dT (kvs : List (List Key × V))
  | set (S : Int → Bool) (n : Nat)
  | ins (C dx : Addr) (fs : List (Str × V))
  | own (x : Addr)
  | xd (fs : List (Str × V))
  | met (f x : Addr)
  | rng (lo hi : Int)
  | frz (o : Obj) (u : HO)
  | tbl (ps : Array Value)
  | ext (φ : Heap → Prop)
abbrev Hp := Addr → Option HO
def upd (H : Hp) (a : Addr) (o : HO) : Hp := fun b => if b = a then some o else H b
theorem upd_same {H : Hp} {a : Addr} {o : HO} : upd H a o a = some o := by unfold upd; rw [if_pos rfl]
theorem upd_ne {H : Hp} {a b : Addr} {o : HO} (h : b ≠ a) : upd H a o b = H b := by unfold upd; rw [if_neg h]
theorem upd_upd {H : Hp} {a : Addr} {o u : HO} : upd (upd H a o) a u = upd H a u := by
  funext b; unfold upd; split <;> rfl
theorem ne_of {H : Hp} {a b : Addr} {o u : HO} (h : H a = some o) (h' : H b = some u) (d : o ≠ u) : a ≠ b := by
  intro e; subst e; rw [h] at h'; exact d (Option.some.inj h')
theorem ne_of_none {H : Hp} {a b : Addr} {o : HO} (h : H a = some o) (h' : H b = none) : a ≠ b := by
  intro e; subst e; rw [h] at h'; cases h'
section
variable (P : Program) (w : World)
def ObjOk (H : Hp) (h : Heap) (a : Addr) : HO → Prop
  | .lst xs => xs.length ≤ sizeLine ∧ ∃ (its : List Value) (n : Nat), Vals xs its ∧ h.get? a = some { cls := .type "list", data := .seq its.toArray n }
  | .tup xs => xs.length ≤ sizeLine ∧ ∃ its : List Value, Vals xs its ∧ IsTup h a its.toArray
  | .dK kvs => kvs.length ≤ sizeLine ∧ (a == sysModules) = false ∧ ∃ vs, KV kvs vs ∧ h.DictOf (mixKind P w) a vs
  | .dT kvs => kvs.length ≤ sizeLine ∧ (a == sysModules) = false ∧ ∃ xs : List (List Key × Addr × Value),
      Paired (fun (p : List Key × V) (q : List Key × Addr × Value) => p.1 = q.1 ∧ H q.2.1 = some (.tup (p.1.map kV)) ∧ RelV p.2 q.2.2) kvs xs ∧
      ∃ o es ep, h.get? a = some o ∧ o.ExactDict ∧ o.data = .dict es ep ∧ es.toList = xs.map (entryOfKey (tupleKind (mixKind P w))) ∧ (xs.map (·.1)).Nodup
  | .set S n => h.SetOf (intKind P w) a S n
  | .ins C dx fs => H dx = some (.own a) ∧ fs.length ≤ 1000 ∧ dx ≠ a ∧ h.get? a = some (PySem.W.instObj C dx) ∧
      ∃ mA, h.Ns1 dx mA ∧ (∀ f, RelO (fs.lookup f) (mA f)) ∧ PySem.Within mA (fs.map (·.1))
  | .own _ => ∃ o, h.get? a = some o
  | .xd fs => ∃ mA, h.Ns1 a mA ∧ ∀ f, RelO (fs.lookup f) (mA f)
  | .rng lo hi => ∃ t u v, h.get? a = some { cls := .type "range", data := .fields #[.int lo t, .int hi u, .int 1 v] }
  | .frz o u => h.get? a = some o ∧ ObjOk H h a u
  | .tbl ps => h.get? a = some { cls := .none, data := .fields ps }
  | .met f x => h.get? a = some (PySem.W.methodObj (.ref f) (.ref x))
  | .ext φ => φ h ∧ (∃ o, h.get? a = some o) ∧ ∀ h1 h2 : Heap, φ h1 → (∀ o, h1.get? a = some o → h2.get? a = some o) → φ h2
def HOk (H : Hp) (h : Heap) : Prop := ∀ a o, H a = some o → ObjOk P w H h a o
end
section
variable {P : Program} {w : World} {H H' : Hp} {h h' : Heap} {a : Addr} {o : HO}
theorem ObjOk.lt (x : ObjOk P w H h a o) : a < h.objs.size := by
  cases o with
  | lst xs => obtain ⟨_, _, _, _, e⟩ := x; exact Heap.lt_size e
  | tup xs => obtain ⟨_, _, _, p⟩ := x; exact p.lt
  | dK kvs => obtain ⟨_, _, _, _, o, _, _, e, _⟩ := x; exact Heap.lt_size e
  | dT kvs => obtain ⟨_, _, _, _, o, _, _, e, _⟩ := x; exact Heap.lt_size e
  | set S n => obtain ⟨o, _, _, _, e, _⟩ := x; exact Heap.lt_size e
  | ins C dx fs => obtain ⟨_, _, _, e, _⟩ := x; exact Heap.lt_size e
  | own y => obtain ⟨_, e⟩ := x; exact Heap.lt_size e
  | xd fs => obtain ⟨_, ⟨_, _, _, e, _⟩, _⟩ := x; exact Heap.lt_size e
  | rng lo hi => obtain ⟨_, _, _, e⟩ := x; exact Heap.lt_size e
  | frz ob u => obtain ⟨e, _⟩ := x; exact Heap.lt_size e
  | tbl ps => exact Heap.lt_size (show h.get? a = some _ from x)
  | met f y => exact Heap.lt_size (show h.get? a = some _ from x)
  | ext φ => obtain ⟨_, ⟨_, e⟩, _⟩ := x; exact Heap.lt_size e
theorem Paired.mapP {α β : Type} {F G : α → β → Prop} : ∀ {l₁ : List α} {l₂ : List β}, Paired F l₁ l₂ → (∀ a b, F a b → G a b) → Paired G l₁ l₂
  | _, _, .nil, _ => .nil
  | _, _, .cons r t, f => .cons (f _ _ r) (Paired.mapP t f)
theorem ObjOk.stay (x : ObjOk P w H h a o) (k : ∀ b u, (b = a ∨ H b = some (.own a)) → h.get? b = some u → h'.get? b = some u)
    (ho : ∀ b, H b = some (.own a) → H' b = some (.own a)) (ht : ∀ b xs, H b = some (.tup xs) → H' b = some (.tup xs)) : ObjOk P w H' h' a o := by
  induction o with
  | lst xs => obtain ⟨z, its, n, r, e⟩ := x; exact ⟨z, its, n, r, k _ _ (.inl rfl) e⟩
  | tup xs => obtain ⟨z, its, r, ob, e, c⟩ := x; exact ⟨z, its, r, ob, k _ _ (.inl rfl) e, c⟩
  | dK kvs => obtain ⟨z, y, vs, r, ob, es, ep, e, c⟩ := x; exact ⟨z, y, vs, r, ob, es, ep, k _ _ (.inl rfl) e, c⟩
  | dT kvs =>
    obtain ⟨z, y, xs, r, ob, es, ep, e, c⟩ := x
    exact ⟨z, y, xs, Paired.mapP r fun p q z => ⟨z.1, ht _ _ z.2.1, z.2.2⟩, ob, es, ep, k _ _ (.inl rfl) e, c⟩
  | set S n => obtain ⟨ob, es, ep, t, e, c⟩ := x; exact ⟨ob, es, ep, t, k _ _ (.inl rfl) e, c⟩
  | ins C dx fs =>
    obtain ⟨d, z, ne, e, mA, ⟨od, es, ep, e2, c⟩, r⟩ := x
    exact ⟨ho _ d, z, ne, k _ _ (.inl rfl) e, mA, ⟨od, es, ep, k _ _ (.inr d) e2, c⟩, r⟩
  | own y => obtain ⟨ob, e⟩ := x; exact ⟨ob, k _ _ (.inl rfl) e⟩
  | xd fs => obtain ⟨mA, ⟨od, es, ep, e, c⟩, r⟩ := x; exact ⟨mA, ⟨od, es, ep, k _ _ (.inl rfl) e, c⟩, r⟩
  | rng lo hi => obtain ⟨t, u, v, e⟩ := x; exact ⟨t, u, v, k _ _ (.inl rfl) e⟩
  | frz ob u ih => obtain ⟨e, q⟩ := x; exact ⟨k _ _ (.inl rfl) e, ih q⟩
  | tbl ps =>
    have e : h.get? a = some { cls := .none, data := .fields ps } := x
    show h'.get? a = some { cls := .none, data := .fields ps }
    exact k a _ (.inl rfl) e
  | met f y =>
    have e : h.get? a = some (PySem.W.methodObj (.ref f) (.ref y)) := x
    show h'.get? a = some (PySem.W.methodObj (.ref f) (.ref y))
    exact k a _ (.inl rfl) e
  | ext φ => obtain ⟨p, ⟨o, e⟩, st⟩ := x; exact ⟨st _ _ p fun o q => k _ _ (.inl rfl) q, ⟨o, k _ _ (.inl rfl) e⟩, st⟩
theorem HOk.lt (x : HOk P w H h) (e : H a = some o) : a < h.objs.size := (x a o e).lt
theorem HOk.fresh (x : HOk P w H h) (e : h.objs.size ≤ a) : H a = none := by
  cases q : H a with
  | none => rfl
  | some u => exact absurd (Nat.lt_of_lt_of_le (x.lt q) e) (Nat.lt_irrefl _)
theorem HOk.kept (x : HOk P w H h) (k : ∀ b u, h.get? b = some u → h'.get? b = some u) : HOk P w H h' := fun a o e =>
  (x a o e).stay (fun b u _ q => k b u q) (fun _ q => q) fun _ _ q => q
theorem HOk.laid (x : HOk P w H h) (k : ∀ b u, h.get? b = some u → h'.get? b = some u) (hp : h.objs.size ≤ a) (new : ObjOk P w (upd H a o) h' a o) : HOk P w (upd H a o) h' := fun b u e => by
  have hn := x.fresh hp
  by_cases hb : b = a
  · subst hb; rw [upd_same] at e; cases e; exact new
  · rw [upd_ne hb] at e
    exact (x b u e).stay (fun c v _ q => k c v q) (fun c q => by rw [upd_ne (ne_of_none q hn)]; exact q) fun c xs q => by rw [upd_ne (ne_of_none q hn)]; exact q
end
def Rd (H : Hp) (a : Addr) (u : HO) : Prop := H a = some u ∨ ∃ o, H a = some (.frz o u)
theorem Rd.of {H : Hp} {a : Addr} {u : HO} (h : H a = some u) : Rd H a u := .inl h
theorem Rd.ok {P : Program} {w : World} {H : Hp} {h : Heap} {a : Addr} {u : HO} (r : Rd H a u) (x : HOk P w H h) : ObjOk P w H h a u := by
  rcases r with r | ⟨o, r⟩
  · exact x a u r
  · obtain ⟨_, q⟩ := x a _ r
    exact q
def Mut : Option HO → Prop
  | some (.lst _) => True
  | some (.dK _) => True
  | some (.dT _) => True
  | some (.set _ _) => True
  | some (.ins _ _ _) => True
  | some (.ext _) => True
  | _ => False
section
variable {P : Program} {w : World} {H : Hp} {h h' : Heap} {x e : Addr} {o' : HO}
theorem HOk.write (ok : HOk P w H h) (mu : Mut (H x)) (he : e = x ∨ H e = some (.own x)) (k : ∀ b u, b ≠ e → h.get? b = some u → h'.get? b = some u) (heo : ∃ u, h'.get? e = some u)
    (new : ObjOk P w (upd H x o') h' x o') : HOk P w (upd H x o') h' := fun b u q => by
  have nown : ∀ c y, H c = some (.own y) → c ≠ x := fun c y r z => by subst z; rw [r] at mu; exact mu
  have ntup : ∀ c xs, H c = some (.tup xs) → c ≠ x := fun c xs r z => by subst z; rw [r] at mu; exact mu
  by_cases hb : b = x
  · subst hb; rw [upd_same] at q; cases q; exact new
  · rw [upd_ne hb] at q
    by_cases hbe : b = e
    · have q' : H b = some (.own x) := by
        rcases he with z | z
        · exact absurd (hbe.trans z) hb
        · rw [hbe]; exact z
      rw [q] at q'; cases q'
      obtain ⟨v, hv⟩ := heo
      exact ⟨v, by rw [hbe]; exact hv⟩
    · refine (ok b u q).stay (fun c v hc r => k c v ?_ r) (fun c r => by rw [upd_ne (nown c b r)]; exact r) fun c xs r => by rw [upd_ne (ntup c xs r)]; exact r
      rcases hc with rfl | hc
      · exact hbe
      · rintro rfl
        rcases he with z | z
        · exact nown c b hc z
        · rw [hc] at z; cases z; exact hb rfl
end
structure Un (fs ex : List Addr) (H H' : Hp) (h h' : Heap) : Prop where
  keep : ∀ b o, h.get? b = some o → H b = none → b ∉ fs → b ∉ ex → h'.get? b = some o
  slot : ∀ b o, h.get? b = some o → H b = none → b ∈ fs → b ∉ ex → ∃ sl, h'.get? b = some { o with slots := sl }
  free : ∀ b o, h.get? b = some o → H b = none → b ∉ ex → H' b = none
  there : ∀ b o, h.get? b = some o → b ∉ ex → ∃ o', h'.get? b = some o'
  tups : ∀ b xs, H b = some (.tup xs) → H' b = some (.tup xs)
  frzs : ∀ b o u, H b = some (.frz o u) → H' b = some (.frz o u)
  tbls : ∀ b ps, H b = some (.tbl ps) → ∃ more, H' b = some (.tbl (ps ++ more))
section
variable {fs fs' ex ex' : List Addr} {H H1 H2 : Hp} {h h1 h2 h' : Heap} {a x e : Addr} {o : HO}
theorem Un.any (u : Un fs ex H H1 h h1) {b : Addr} {ob : Obj} (q : h.get? b = some ob) (n : H b = none) (hx : b ∉ ex) : ∃ sl, h1.get? b = some { ob with slots := sl } := by
  by_cases hb : b ∈ fs
  · exact u.slot b ob q n hb hx
  · exact ⟨ob.slots, u.keep b ob q n hb hx⟩
theorem Un.trans (a : Un fs ex H H1 h h1) (b : Un fs ex H1 H2 h1 h2) : Un fs ex H H2 h h2 where
  keep := fun c ob q n hc hx => b.keep c ob (a.keep c ob q n hc hx) (a.free c ob q n hx) hc hx
  slot := fun c ob q n hc hx => by
    obtain ⟨sl, e1⟩ := a.slot c ob q n hc hx
    obtain ⟨sl', e2⟩ := b.slot c _ e1 (a.free c ob q n hx) hc hx
    exact ⟨sl', e2⟩
  free := fun c ob q n hx => by
    obtain ⟨o', e1⟩ := a.there c ob q hx
    exact b.free c o' e1 (a.free c ob q n hx) hx
  there := fun c ob q hx => by
    obtain ⟨o', e1⟩ := a.there c ob q hx
    exact b.there c o' e1 hx
  tups := fun c xs q => b.tups c xs (a.tups c xs q)
  frzs := fun c ob xs q => b.frzs c ob xs (a.frzs c ob xs q)
  tbls := fun c ps q => by
    obtain ⟨m1, e1⟩ := a.tbls c ps q
    obtain ⟨m2, e2⟩ := b.tbls c _ e1
    exact ⟨m1 ++ m2, by rw [e2, Array.append_assoc]⟩
theorem Un.kept (k : ∀ b u, h.get? b = some u → h'.get? b = some u) : Un fs ex H H h h' :=
  ⟨fun b ob q _ _ _ => k b ob q, fun b ob q _ _ _ => ⟨ob.slots, k b ob q⟩, fun _ _ _ n _ => n, fun b ob q _ => ⟨ob, k b ob q⟩, fun _ _ q => q, fun _ _ _ q => q, fun _ ps q => ⟨#[], by rw [q]; simp⟩⟩
theorem Un.refl : Un fs ex H H h h := Un.kept fun _ _ q => q
theorem Un.laid (k : ∀ b u, h.get? b = some u → h'.get? b = some u) (hp : h.objs.size ≤ a) (hn : H a = none) : Un fs ex H (upd H a o) h h' where
  keep := fun b u q _ _ _ => k b u q
  slot := fun b u q _ _ _ => ⟨u.slots, k b u q⟩
  free := fun b u q n _ => by rw [upd_ne (Nat.ne_of_lt (Nat.lt_of_lt_of_le (Heap.lt_size q) hp))]; exact n
  there := fun b u q _ => ⟨u, k b u q⟩
  tups := fun b xs q => by rw [upd_ne (ne_of_none q hn)]; exact q
  frzs := fun b u xs q => by rw [upd_ne (ne_of_none q hn)]; exact q
  tbls := fun b ps q => ⟨#[], by rw [upd_ne (ne_of_none q hn), q]; simp⟩
theorem Un.write (mu : Mut (H x)) (he : e = x ∨ H e = some (.own x)) (k : ∀ b u, b ≠ e → h.get? b = some u → h'.get? b = some u) (heo : ∃ u, h'.get? e = some u) : Un fs ex H (upd H x o) h h' := by
  have hx : ∀ b, H b = none → b ≠ x := fun b n z => by subst z; rw [n] at mu; exact mu
  have hb : ∀ b, H b = none → b ≠ e := fun b n z => by
    subst z
    rcases he with r | r
    · exact hx b n r
    · rw [n] at r; cases r
  have hm : ∀ b u, H b = some u → ¬ Mut (some u) → b ≠ x := fun b u q nm z => by subst z; rw [q] at mu; exact nm mu
  refine ⟨fun b u q n _ _ => k b u (hb b n) q, fun b u q n _ _ => ⟨u.slots, k b u (hb b n) q⟩, fun b u q n _ => by rw [upd_ne (hx b n)]; exact n, fun b u q _ => ?_,
    fun b xs q => by rw [upd_ne (hm b _ q fun z => z)]; exact q, fun b u xs q => by rw [upd_ne (hm b _ q fun z => z)]; exact q, fun b ps q => ⟨#[], by rw [upd_ne (hm b _ q fun z => z), q]; simp⟩⟩
  by_cases hbe : b = e
  · subst hbe; exact heo
  · exact ⟨u, k b u hbe q⟩
theorem Un.mono (u : Un fs ex H H1 h h1) (hs : ∀ b ∈ fs, b ∈ fs') (hx : ∀ b ∈ ex, b ∈ ex') : Un fs' ex' H H1 h h1 :=
  ⟨fun b ob q n hb he => u.keep b ob q n (fun z => hb (hs b z)) fun z => he (hx b z), fun _ _ q n _ he => u.any q n fun z => he (hx _ z), fun b ob q n he => u.free b ob q n fun z => he (hx b z), fun b ob q he => u.there b ob q fun z => he (hx b z), u.tups, u.frzs, u.tbls⟩
end
def trk (h : Heap) (H : Hp) : List Addr := (List.range h.objs.size).filter fun a => (H a).isSome
def hidT (h : Heap) (H : Hp) : Heap := PySem.W.hideAll h (trk h H)
theorem hidT_size (h : Heap) (H : Hp) : (hidT h H).objs.size = h.objs.size := PySem.W.hideAll_size _ _
theorem hidT_get {h : Heap} {H : Hp} {b : Addr} {o : Obj} (e : h.get? b = some o) (n : H b = none) : (hidT h H).get? b = some o :=
  PySem.W.hideAll_get _ e fun hm => by
    have q : (H b).isSome = true := (List.mem_filter.mp hm).2
    rw [n] at q; simp at q
theorem of_hidT {h : Heap} {H : Hp} {b : Addr} {o : Obj} (e : (hidT h H).get? b = some o) : h.get? b = some o ∧ H b = none := by
  have e' : h.get? b = some o := PySem.W.of_hideAll (trk h H) e
  refine ⟨e', ?_⟩
  cases q : H b with
  | none => rfl
  | some x =>
    have hm : b ∈ trk h H := List.mem_filter.mpr ⟨List.mem_range.mpr (Heap.lt_size e'), by simp [q]⟩
    have z : (hidT h H).get? b = none := PySem.W.hideAll_none (trk h H) hm
    rw [z] at e; cases e
def allNews (g h : Heap) (L : Addr) : List (Addr × Obj) := (List.range h.objs.size).filterMap fun a => if a = L ∨ (g.get? a).isSome = true then none else (h.get? a).map fun o => (a, o)
def rest (g h : Heap) (L d : Addr) : List (Addr × Obj) := (allNews g h L).filter fun p => decide (p.1 ≠ d)
end L2
namespace L2
open PySem PySem.Spec PyProof.Rows
structure Mod (K : PySem.W.Frag) (mg : Str → Option Value) (base : Heap) : Prop where
  kin : K.In base
  glob : base.Ns mainGlobals mg
  blt : ∃ mb, base.Ns builtinsNs mb ∧ ∀ x : Str, x ≠ "__name__" → mb x = bootBuiltins x
  nolimit : base.NoLimit
structure Cx where
  prog : Program
  w : World
  K : PySem.W.Frag
  mg : Str → Option Value
  base : Heap
  A : Around
  N : List Str
  s₀ : Shared
  H₀ : Hp
  env : Env
  outer : List Env
  stack : List Env
  ex : List Addr
  fn : Str → Bool
  calm : Bool
  pn : List (Addr × Obj)
  xe : Value → Shared → Prop
def frs (l : List Env) : List Addr := l.filterMap (·.frame)
abbrev Cx.fs (X : Cx) : List Addr := frs X.outer
def Vis (sc : Scope) (x : Str) : Prop := sc.names.lookup x = some .local ∨ sc.names.lookup x = some .cell ∨ sc.names.lookup x = some .free
def Loc (sc : Scope) (x : Str) : Prop := sc.names.lookup x = some .local ∨ sc.names.lookup x = some .cell
def Look (env : Env) (h : Heap) (m : Str → Option Value) (x : Str) (u : Value) : Prop :=
  (env.kindOf x = some .local ∧ m x = some u) ∨ ((env.kindOf x = some .cell ∨ env.kindOf x = some .free) ∧ ∃ c, env.cells.lookup x = some c ∧ h.IsCell c (some u))
structure Cx.Ok (X : Cx) : Prop where
  mod : Mod X.K X.mg X.base
  kind : X.env.scope.kind = .function
  glob : X.env.globals = mainGlobals
  blt : X.env.builtins = builtinsNs
  above : X.s₀.heap.objs.size ≤ X.env.locals
  inj : ∀ x y c, X.env.cells.lookup x = some c → X.env.cells.lookup y = some c → x = y
  has : ∀ x, (X.env.kindOf x = some .cell ∨ X.env.kindOf x = some .free) → ∃ c, X.env.cells.lookup x = some c
  cab : ∀ x c, X.fn x = true → X.env.cells.lookup x = some c → X.s₀.heap.objs.size ≤ c
  hd : X.calm = true → X.A.handled = none
  frames : X.A.frames = some X.stack
  stk : X.stack = X.outer ∨ (X.stack = X.env :: X.outer ∧ X.env.frame = some X.env.locals)
  exf : ∀ b ∈ X.ex, b ≠ X.env.locals ∧ ∀ x c, X.env.cells.lookup x = some c → c ≠ b
  bs : ∀ b o, X.base.get? b = some o → X.s₀.heap.get? b = some o ∧ X.H₀ b = none
  bsz : X.base.objs.size ≤ X.s₀.heap.objs.size
  noex : ∀ b o, X.base.get? b = some o → b ∉ X.ex
  exfs : ∀ b ∈ X.ex, b ∉ X.fs
  funs : X.s₀.heap.FunFrames X.base X.outer
  frf : ∀ b ∈ X.fs, X.H₀ b = none
structure Inv (X : Cx) (pins : List (Addr × Obj)) (σ : List (Option V)) (H : Hp) (s : Shared) : Prop where
  ok : X.Ok
  os : s.os = X.s₀.os
  bare : AllBare s.gens
  base : Un X.fs X.ex X.H₀ H X.s₀.heap s.heap
  loc : ∃ m, s.heap.Ns X.env.locals m ∧ ∀ (i : Nat) (x : Str) (v : V), X.N[i]? = some x → σ[i]? = some (some v) → Vis X.env.scope x → ∃ u, RelV v u ∧ Look X.env s.heap m x u
  cell : ∀ x c, X.env.cells.lookup x = some c → ∃ v, s.heap.IsCell c v
  free : H X.env.locals = none
  freeC : ∀ x c, X.env.cells.lookup x = some c → H c = none
  pin : ∀ p ∈ X.pn ++ pins, s.heap.get? p.1 = some p.2 ∧ H p.1 = none ∧ p.1 ≠ X.env.locals ∧ p.1 ∉ X.fs ∧ ∀ v, p.2.data ≠ .cell v
  hok : HOk X.prog X.w H s.heap
  len : σ.length = X.N.length
section
variable {X : Cx} {pins : List (Addr × Obj)} {σ : List (Option V)} {H H' : Hp} {s : Shared} {h' : Heap}
theorem Cx.Ok.nofr (ok : X.Ok) {b : Addr} {o : Obj} (e : X.base.get? b = some o) : b ∉ X.fs := fun hb => by
  have := (ok.funs.mem hb).1
  rw [e] at this; cases this
theorem Inv.bs (I : Inv X pins σ H s) : ∀ b o, X.base.get? b = some o → s.heap.get? b = some o ∧ H b = none := fun b o e =>
  ⟨I.base.keep b o (I.ok.bs b o e).1 (I.ok.bs b o e).2 (I.ok.nofr e) (I.ok.noex b o e), I.base.free b o (I.ok.bs b o e).1 (I.ok.bs b o e).2 (I.ok.noex b o e)⟩
theorem Inv.bk (I : Inv X pins σ H s) : ∀ b o, X.base.get? b = some o → s.heap.get? b = some o := fun b o e => (I.bs b o e).1
theorem Inv.mod (I : Inv X pins σ H s) : Mod X.K X.mg X.base := I.ok.mod
theorem Inv.kIn (I : Inv X pins σ H s) : X.K.In s.heap := I.ok.mod.kin.keeps I.bk
theorem Inv.nolimit (I : Inv X pins σ H s) : s.heap.NoLimit := I.ok.mod.nolimit.keeps I.bk
theorem Inv.fr (I : Inv X pins σ H s) : ∃ m, Fr X.base X.env.locals s.heap m :=
  let ⟨m, hn, _⟩ := I.loc
  ⟨m, hn, I.bk, Nat.le_trans I.ok.bsz I.ok.above⟩
theorem Inv.lt (I : Inv X pins σ H s) : X.env.locals < s.heap.objs.size := let ⟨_, hn, _⟩ := I.loc; hn.lt
theorem Inv.sz (I : Inv X pins σ H s) : X.s₀.heap.objs.size ≤ s.heap.objs.size := Nat.le_trans I.ok.above (Nat.le_of_lt I.lt)
theorem Inv.nofs (I : Inv X pins σ H s) {a : Addr} (h : s.heap.objs.size ≤ a) : a ∉ X.fs := fun hb => by
  obtain ⟨_, o, ho, _⟩ := I.ok.funs.mem hb
  exact absurd (Nat.lt_of_lt_of_le (Heap.lt_size ho) (Nat.le_trans I.sz h)) (Nat.lt_irrefl _)
theorem Inv.cne (I : Inv X pins σ H s) : ∀ x c, X.env.cells.lookup x = some c → c ≠ X.env.locals := fun x c e z => by
  obtain ⟨v, o, ho, hd⟩ := I.cell x c e
  obtain ⟨m, ⟨o', es, ep, ho', hd', _⟩, _⟩ := I.loc
  rw [z, ho'] at ho; cases ho; rw [hd'] at hd; cases hd
theorem Inv.funs (I : Inv X pins σ H s) : s.heap.FunFrames X.base X.outer := by
  have all : ∀ (l : List Env), (∀ b ∈ frs l, b ∈ X.fs) → X.s₀.heap.FunFrames X.base l → s.heap.FunFrames X.base l := by
    intro l
    induction l with
    | nil => intro _ _; trivial
    | cons env r ih =>
      intro hs hl
      obtain ⟨hk, ⟨L, o, hf, hn, ho, hd⟩, hr⟩ := hl
      have hL : L ∈ X.fs := hs L (by unfold frs; rw [List.filterMap_cons, hf]; exact List.mem_cons_self)
      obtain ⟨sl, e⟩ := I.base.slot L o ho (I.ok.frf L hL) hL fun z => I.ok.exfs L z hL
      exact ⟨hk, ⟨L, _, hf, hn, e, hd⟩, ih (fun b hb => hs b (by unfold frs; rw [List.filterMap_cons, hf]; exact List.mem_cons_of_mem _ hb)) hr⟩
  exact all X.outer (fun _ hb => hb) I.ok.funs
theorem Inv.stack (I : Inv X pins σ H s) : s.heap.FunFrames X.base X.stack := by
  rcases I.ok.stk with e | ⟨e, hf⟩
  · rw [e]; exact I.funs
  · rw [e]
    obtain ⟨m, hn, _⟩ := I.loc
    refine .cons (by rw [I.ok.kind]; decide) hf hn ?_ I.funs
    exact Heap.get?_none_of_le (Nat.le_trans I.ok.bsz I.ok.above)
theorem Inv.stkSub (I : Inv X pins σ H s) : ∀ b ∈ frs X.stack, b ∈ X.env.locals :: X.fs := fun b hb => by
  rcases I.ok.stk with e | ⟨e, hf⟩
  · rw [e] at hb; exact List.mem_cons_of_mem _ hb
  · rw [e] at hb
    unfold frs at hb
    rw [List.filterMap_cons, hf] at hb
    exact hb
theorem Inv.stkFree (I : Inv X pins σ H s) : ∀ b ∈ frs X.stack, H b = none := fun b hb => by
  rcases List.mem_cons.mp (I.stkSub b hb) with e | hb
  · rw [e]; exact I.free
  · obtain ⟨_, o, ho, _⟩ := I.ok.funs.mem hb
    exact I.base.free b o ho (I.ok.frf b hb) fun z => I.ok.exfs b z hb
theorem Inv.step {g' : Array GenState} {t' : Nat} {d' : Drawn} {ch : List Addr} (I : Inv X pins σ H s)
    (hch : ∀ b ∈ ch, (b ∈ X.ex ∨ X.s₀.heap.objs.size ≤ b) ∧ b ≠ X.env.locals ∧ (∀ x c, X.env.cells.lookup x = some c → c ≠ b) ∧ ∀ p ∈ X.pn ++ pins, p.1 ≠ b)
    (keep : ∀ b o, b ≠ X.env.locals → b ∉ X.fs → b ∉ ch → s.heap.get? b = some o → H b = none → h'.get? b = some o)
    (slot : ∀ b o, b ≠ X.env.locals → b ∈ X.fs → b ∉ ch → s.heap.get? b = some o → H b = none → ∃ sl, h'.get? b = some { o with slots := sl }) (free : ∀ b o, b ∉ ch → s.heap.get? b = some o → H b = none → H' b = none)
    (there : ∀ b o, b ∉ ch → s.heap.get? b = some o → ∃ o', h'.get? b = some o')
    (tups : ∀ b xs, H b = some (.tup xs) → H' b = some (.tup xs)) (frzs : ∀ b o u, H b = some (.frz o u) → H' b = some (.frz o u)) (tbls : ∀ b ps, H b = some (.tbl ps) → ∃ more, H' b = some (.tbl (ps ++ more)))
    (ns : ∀ m, s.heap.Ns X.env.locals m → h'.Ns X.env.locals m) (hok : HOk X.prog X.w H' h') (hg : AllBare g') :
    Inv X pins σ H' { s with heap := h', gens := g', drawn := d', toks := t' } := by
  have neL : ∀ b o, X.s₀.heap.get? b = some o → b ≠ X.env.locals := fun b o e => Nat.ne_of_lt (Nat.lt_of_lt_of_le (Heap.lt_size e) I.ok.above)
  have neC : ∀ b o, X.s₀.heap.get? b = some o → b ∉ X.ex → b ∉ ch := fun b o e hx hb => by
    rcases (hch b hb).1 with z | z
    · exact hx z
    · exact absurd (Nat.lt_of_lt_of_le (Heap.lt_size e) z) (Nat.lt_irrefl _)
  have cellK : ∀ x c, X.env.cells.lookup x = some c → ∀ v, s.heap.IsCell c v → h'.IsCell c v := fun x c e v ⟨o, ho, hd⟩ => by
    have nch : c ∉ ch := fun z => (hch c z).2.2.1 x c e rfl
    by_cases hc : c ∈ X.fs
    · obtain ⟨sl, q⟩ := slot c o (I.cne x c e) hc nch ho (I.freeC x c e)
      exact ⟨_, q, hd⟩
    · exact ⟨o, keep c o (I.cne x c e) hc nch ho (I.freeC x c e), hd⟩
  refine ⟨I.ok, I.os, hg, ⟨fun b o e n hb hx => ?_, fun b o e n hb hx => ?_, fun b o e n hx => ?_, fun b o e hx => ?_, fun b xs e => tups b xs (I.base.tups b xs e), fun b o xs e => frzs b o xs (I.base.frzs b o xs e), fun b ps e => ?_⟩, ?_, fun x c e => ?_, ?_, fun x c e => ?_, fun p hp => ?_, hok, I.len⟩
  · exact keep b o (neL b o e) hb (neC b o e hx) (I.base.keep b o e n hb hx) (I.base.free b o e n hx)
  · obtain ⟨sl, e1⟩ := I.base.slot b o e n hb hx
    obtain ⟨sl', e2⟩ := slot b _ (neL b o e) hb (neC b o e hx) e1 (I.base.free b o e n hx)
    exact ⟨sl', e2⟩
  · obtain ⟨o', e1⟩ := I.base.there b o e hx
    exact free b o' (neC b o e hx) e1 (I.base.free b o e n hx)
  · obtain ⟨o', e1⟩ := I.base.there b o e hx
    exact there b o' (neC b o e hx) e1
  · obtain ⟨m1, e1⟩ := I.base.tbls b ps e
    obtain ⟨m2, e2⟩ := tbls b _ e1
    exact ⟨m1 ++ m2, by rw [e2, Array.append_assoc]⟩
  · obtain ⟨m, hn, hl⟩ := I.loc
    refine ⟨m, ns m hn, fun i x v e1 e2 e3 => ?_⟩
    obtain ⟨u, r, l⟩ := hl i x v e1 e2 e3
    refine ⟨u, r, ?_⟩
    rcases l with l | ⟨k, c, e, z⟩
    · exact .inl l
    · exact .inr ⟨k, c, e, cellK x c e _ z⟩
  · obtain ⟨v, z⟩ := I.cell x c e
    exact ⟨v, cellK x c e v z⟩
  · obtain ⟨m, ⟨o, _, _, ho, _⟩, _⟩ := I.loc
    exact free _ o (fun z => (hch _ z).2.1 rfl) ho I.free
  · obtain ⟨v, o, ho, hd⟩ := I.cell x c e
    exact free c o (fun z => (hch c z).2.2.1 x c e rfl) ho (I.freeC x c e)
  · obtain ⟨e, n, ne, nf, d⟩ := I.pin p hp
    have nch : p.1 ∉ ch := fun z => (hch p.1 z).2.2.2 p hp rfl
    exact ⟨keep p.1 p.2 ne nf nch e n, free p.1 p.2 nch e n, ne, nf, d⟩
theorem Inv.un {t' : Nat} (I : Inv X pins σ H s) (u : Un X.fs [] H H' s.heap h') (hok : HOk X.prog X.w H' h') : Inv X pins σ H' { s with heap := h', toks := t' } := by
  obtain ⟨m, ⟨o, es, ep, ho, r⟩, _⟩ := id I.loc
  obtain ⟨sl, hL⟩ := u.any ho I.free (by simp)
  exact I.step (g' := s.gens) (d' := s.drawn) (ch := []) (fun _ z => nomatch z) (fun b o _ hb _ e n => u.keep b o e n hb (by simp)) (fun b o _ hb _ e n => u.slot b o e n hb (by simp)) (fun b o _ e n => u.free b o e n (by simp)) (fun b o _ e => u.there b o e (by simp)) u.tups u.frzs u.tbls (fun m' hm => by
    obtain ⟨o', es', ep', ho', r'⟩ := hm
    rw [ho] at ho'; cases ho'
    exact ⟨_, es', ep', hL, r'⟩) hok I.bare
theorem Inv.call {g' : Array GenState} {t' : Nat} {d' : Drawn} {ch : List Addr} (I : Inv X pins σ H s) (u : Un (frs X.stack) ch H H' s.heap h') (hok : HOk X.prog X.w H' h') (hg : AllBare g')
    (hch : ∀ b ∈ ch, (b ∈ X.ex ∨ X.s₀.heap.objs.size ≤ b) ∧ b ≠ X.env.locals ∧ (∀ x c, X.env.cells.lookup x = some c → c ≠ b) ∧ ∀ p ∈ X.pn ++ pins, p.1 ≠ b) :
    Inv X pins σ H' { s with heap := h', gens := g', drawn := d', toks := t' } := by
  obtain ⟨m, ⟨o, es, ep, ho, r⟩, _⟩ := id I.loc
  obtain ⟨sl, hL⟩ := u.any ho I.free fun z => (hch _ z).2.1 rfl
  exact I.step (ch := ch) hch (fun b o hL hb hc e n => u.keep b o e n (fun z => (List.mem_cons.mp (I.stkSub b z)).elim hL hb) hc) (fun b o _ _ hc e n => u.any e n hc) (fun b o hc e n => u.free b o e n hc) (fun b o hc e => u.there b o e hc) u.tups u.frzs u.tbls (fun m' hm => by
    obtain ⟨o', es', ep', ho', r'⟩ := hm
    rw [ho] at ho'; cases ho'
    exact ⟨_, es', ep', hL, r'⟩) hok hg
theorem Inv.turned {t' : Nat} {it : Addr} (I : Inv X pins σ H s) (k : ∀ b o, b ≠ it → s.heap.get? b = some o → h'.get? b = some o) (hn : H it = none) (hL : it ≠ X.env.locals)
    (h1 : it ∈ X.ex ∨ X.s₀.heap.objs.size ≤ it) (h2 : ∀ x c, X.env.cells.lookup x = some c → c ≠ it) (h3 : ∀ p ∈ X.pn ++ pins, p.1 ≠ it) : Inv X pins σ H { s with heap := h', toks := t' } := by
  have nit : ∀ b u, H b = some u → b ≠ it := fun b u e z => by rw [z, hn] at e; cases e
  refine I.step (g' := s.gens) (d' := s.drawn) (ch := [it]) (fun b hb => ?_) (fun b o _ _ hc e _ => k b o (fun z => hc (by simp [z])) e) (fun b o _ _ hc e _ => ⟨o.slots, k b o (fun z => hc (by simp [z])) e⟩) (fun _ _ _ _ n => n)
    (fun b o hc e => ⟨o, k b o (fun z => hc (by simp [z])) e⟩) (fun _ _ e => e) (fun _ _ _ e => e) (fun b ps e => ⟨#[], by rw [e]; simp⟩) (fun m hm => ?_) (fun b u e => ?_) I.bare
  · have e : b = it := by simpa using hb
    subst e
    exact ⟨h1, hL, h2, h3⟩
  · obtain ⟨o, es, ep, ho, r⟩ := hm
    exact ⟨o, es, ep, k _ o (Ne.symm hL) ho, r⟩
  · refine (I.hok b u e).stay (fun c v hc q => k c v ?_ q) (fun _ q => q) fun _ _ q => q
    rcases hc with z | z
    · rw [z]; exact nit b u e
    · exact nit c _ z
theorem Inv.tok (I : Inv X pins σ H s) (t : Nat) : Inv X pins σ H { s with toks := t } := I.un (h' := s.heap) (t' := t) Un.refl I.hok
theorem Inv.kept {t' : Nat} (I : Inv X pins σ H s) (k : ∀ b u, s.heap.get? b = some u → h'.get? b = some u) : Inv X pins σ H { s with heap := h', toks := t' } := I.un (Un.kept k) (I.hok.kept k)
theorem Inv.laid {a : Addr} {o : HO} {t' : Nat} (I : Inv X pins σ H s) (k : ∀ b u, s.heap.get? b = some u → h'.get? b = some u) (hp : s.heap.objs.size ≤ a) (new : ObjOk X.prog X.w (upd H a o) h' a o) :
    Inv X pins σ (upd H a o) { s with heap := h', toks := t' } := I.un (Un.laid k hp (I.hok.fresh hp)) (I.hok.laid k hp new)
theorem Inv.write {x e : Addr} {o : HO} {t' : Nat} (I : Inv X pins σ H s) (mu : Mut (H x)) (he : e = x ∨ H e = some (.own x)) (k : ∀ b u, b ≠ e → s.heap.get? b = some u → h'.get? b = some u) (heo : ∃ u, h'.get? e = some u)
    (new : ObjOk X.prog X.w (upd H x o) h' x o) : Inv X pins σ (upd H x o) { s with heap := h', toks := t' } := I.un (Un.write mu he k heo) (I.hok.write mu he k heo new)
theorem Inv.pins_of {pins' : List (Addr × Obj)} (I : Inv X pins σ H s) (h : ∀ p ∈ pins', s.heap.get? p.1 = some p.2 ∧ H p.1 = none ∧ p.1 ≠ X.env.locals ∧ p.1 ∉ X.fs ∧ ∀ v, p.2.data ≠ .cell v) : Inv X pins' σ H s :=
  ⟨I.ok, I.os, I.bare, I.base, I.loc, I.cell, I.free, I.freeC, fun p hp => (List.mem_append.mp hp).elim (fun z => I.pin p (List.mem_append_left _ z)) (h p), I.hok, I.len⟩
theorem nodup_ix {N : List Str} (hN : N.Nodup) {i j : Nat} {x : Str} (a : N[i]? = some x) (b : N[j]? = some x) : i = j := by
  obtain ⟨h1, e1⟩ := List.getElem?_eq_some_iff.mp a
  obtain ⟨h2, e2⟩ := List.getElem?_eq_some_iff.mp b
  exact (List.getElem_inj hN).mp (e1.trans e2.symm)
theorem store_ok2 {M : Model} {A : Around} {E : Value → Shared → Prop} {i : Nat} {x : Str} {v : V} {u : Value} {Q : Unit → Shared → Prop} (I : Inv X pins σ H s) (hN : X.N.Nodup) (hi : X.N[i]? = some x) (hx : Loc X.env.scope x) (r : RelV v u)
    (h : ∀ s', Inv X pins (σ.set i (some v)) H s' → (∃ a, Heap.SameBut a s.heap s'.heap ∧ (a = X.env.locals ∨ X.env.cells.lookup x = some a)) → Q () s') (hf : X.fn x = true ∨ X.env.scope.names.lookup x = some .local := by first | exact .inl rfl | exact .inr rfl | assumption) : wpAny M A (storeName X.env x u) Q E s := by
  obtain ⟨m, hn, hl⟩ := id I.loc
  have hcls : (X.env.scope.kind == .class || (X.env.scope.kind == .module && X.env.locals != X.env.globals)) = false := by rw [I.ok.kind]; rfl
  have hiσ : i < σ.length := by rw [I.len]; exact (List.getElem?_eq_some_iff.mp hi).1
  have cne := I.cne
  have tracked : ∀ {a : Addr} {h' : Heap}, (∃ o, s.heap.get? a = some o ∧ H a = none) → Heap.SameBut a s.heap h' → HOk X.prog X.w H h' := fun {a h'} ha hs b ob e => by
    obtain ⟨_, _, hfree⟩ := ha
    refine (I.hok b ob e).stay (fun c w' hc q => (hs.2 c ?_).trans q) (fun _ q => q) fun _ _ q => q
    rintro rfl
    rcases hc with rfl | hc
    · rw [hfree] at e; cases e
    · rw [hfree] at hc; cases hc
  rcases hx with hk | hk
  · refine wpAny_storeName_local hk hn (fun h' hn' hs => ?_) hcls
    obtain ⟨oL, _, _, hoL, _⟩ := id hn
    refine h _ ⟨I.ok, I.os, I.bare, ⟨fun b o e n hb hx => ?_, fun b o e n hb hx => ?_, I.base.free, fun b o e hx => ?_, I.base.tups, I.base.frzs, I.base.tbls⟩, ⟨_, hn', fun j y v' e1 e2 e3 => ?_⟩, fun y c e => ?_, I.free, I.freeC, fun p hp => ?_, tracked ⟨oL, hoL, I.free⟩ hs, by simpa using I.len⟩ ⟨_, hs, .inl rfl⟩
    · exact (hs.2 b (Nat.ne_of_lt (Nat.lt_of_lt_of_le (Heap.lt_size e) I.ok.above))).trans (I.base.keep b o e n hb hx)
    · obtain ⟨sl, e1⟩ := I.base.slot b o e n hb hx
      exact ⟨sl, (hs.2 b (Nat.ne_of_lt (Nat.lt_of_lt_of_le (Heap.lt_size e) I.ok.above))).trans e1⟩
    · obtain ⟨o', e1⟩ := I.base.there b o e hx
      exact ⟨o', (hs.2 b (Nat.ne_of_lt (Nat.lt_of_lt_of_le (Heap.lt_size e) I.ok.above))).trans e1⟩
    · by_cases hj : j = i
      · subst hj
        rw [hi] at e1; cases e1
        rw [List.getElem?_set_self hiσ] at e2
        cases e2
        exact ⟨u, r, .inl ⟨hk, by simp⟩⟩
      · rw [List.getElem?_set_ne (Ne.symm hj)] at e2
        obtain ⟨u', r', q⟩ := hl j y v' e1 e2 e3
        refine ⟨u', r', ?_⟩
        rcases q with ⟨k, e⟩ | ⟨k, c, e, z⟩
        · refine .inl ⟨k, ?_⟩
          have : y ≠ x := fun e => hj (nodup_ix hN e1 (e ▸ hi))
          simp [this, e]
        · exact .inr ⟨k, c, e, z.sameBut hs (cne y c e)⟩
    · obtain ⟨w', z⟩ := I.cell y c e
      exact ⟨w', z.sameBut hs (cne y c e)⟩
    · obtain ⟨e, n, ne, nf, d⟩ := I.pin p hp
      exact ⟨(hs.2 p.1 ne).trans e, n, ne, nf, d⟩
  · have hfn : X.fn x = true := by
      rcases hf with z | z
      · exact z
      · rw [z] at hk; cases hk
    obtain ⟨c, hc⟩ := I.ok.has x (.inl hk)
    obtain ⟨w', z⟩ := I.cell x c hc
    refine wpAny_storeName_cell I.ok.kind hk hc z (fun h' hc' hs => ?_)
    obtain ⟨oc, hoc, hocd⟩ := id z
    refine h { s with heap := h' } ⟨I.ok, I.os, I.bare, ⟨fun b o e n hb hx => ?_, fun b o e n hb hx => ?_, I.base.free, fun b o e hx => ?_, I.base.tups, I.base.frzs, I.base.tbls⟩, ⟨m, hn.sameBut hs (Ne.symm (cne x c hc)), fun j y v' e1 e2 e3 => ?_⟩, fun y c' e => ?_, I.free, I.freeC, fun p hp => ?_, tracked ⟨oc, hoc, I.freeC x c hc⟩ hs, by simpa using I.len⟩ ⟨c, hs, .inr hc⟩
    · exact (hs.2 b (Nat.ne_of_lt (Nat.lt_of_lt_of_le (Heap.lt_size e) (I.ok.cab x c hfn hc)))).trans (I.base.keep b o e n hb hx)
    · obtain ⟨sl, e1⟩ := I.base.slot b o e n hb hx
      exact ⟨sl, (hs.2 b (Nat.ne_of_lt (Nat.lt_of_lt_of_le (Heap.lt_size e) (I.ok.cab x c hfn hc)))).trans e1⟩
    · obtain ⟨o', e1⟩ := I.base.there b o e hx
      exact ⟨o', (hs.2 b (Nat.ne_of_lt (Nat.lt_of_lt_of_le (Heap.lt_size e) (I.ok.cab x c hfn hc)))).trans e1⟩
    · by_cases hj : j = i
      · subst hj
        rw [hi] at e1; cases e1
        rw [List.getElem?_set_self hiσ] at e2
        cases e2
        exact ⟨u, r, .inr ⟨.inl hk, c, hc, hc'⟩⟩
      · rw [List.getElem?_set_ne (Ne.symm hj)] at e2
        obtain ⟨u', r', q⟩ := hl j y v' e1 e2 e3
        refine ⟨u', r', ?_⟩
        rcases q with q | ⟨k, c', e, z'⟩
        · exact .inl q
        · refine .inr ⟨k, c', e, z'.sameBut hs ?_⟩
          rintro rfl
          exact hj (nodup_ix hN e1 (I.ok.inj _ _ _ e hc ▸ hi))
    · by_cases hcc : c' = c
      · subst hcc; exact ⟨_, hc'⟩
      · obtain ⟨w2, z2⟩ := I.cell y c' e
        exact ⟨w2, z2.sameBut hs hcc⟩
    · obtain ⟨e, n, ne, nf, d⟩ := I.pin p hp
      refine ⟨(hs.2 p.1 ?_).trans e, n, ne, nf, d⟩
      intro q
      rw [q, hoc] at e
      have q' : oc = p.2 := Option.some.inj e
      exact d w' (by rw [← q']; exact hocd)
theorem store_ok {M : Model} {A : Around} {E : Value → Shared → Prop} {i : Nat} {x : Str} {v : V} {u : Value} {Q : Unit → Shared → Prop} (I : Inv X pins σ H s) (hN : X.N.Nodup) (hi : X.N[i]? = some x) (hx : Loc X.env.scope x) (r : RelV v u)
    (h : ∀ s', Inv X pins (σ.set i (some v)) H s' → Q () s') (hf : X.fn x = true ∨ X.env.scope.names.lookup x = some .local := by first | exact .inl rfl | exact .inr rfl | assumption) : wpAny M A (storeName X.env x u) Q E s :=
  store_ok2 I hN hi hx r (fun s' I' _ => h s' I') hf
theorem Inv.call' {s' : Shared} {ch : List Addr} (I : Inv X pins σ H s) (ho : s'.os = s.os) (u : Un (frs X.stack) ch H H' s.heap s'.heap) (hok : HOk X.prog X.w H' s'.heap) (hg : AllBare s'.gens)
    (hch : ∀ b ∈ ch, (b ∈ X.ex ∨ X.s₀.heap.objs.size ≤ b) ∧ b ≠ X.env.locals ∧ (∀ x c, X.env.cells.lookup x = some c → c ≠ b) ∧ ∀ p ∈ X.pn ++ pins, p.1 ≠ b) : Inv X pins σ H' s' := by
  obtain ⟨h', g', d', t', o'⟩ := s'
  have e : o' = s.os := ho
  subst e
  exact I.call (g' := g') (t' := t') (d' := d') u hok hg hch
end
abbrev XK := Value → Option Addr → Hp → Prop
abbrev St := List (Option V)
abbrev VK := V → Hp → Prop
abbrev TE := St → Hp → VK → Prop
abbrev TT := St → Hp → (Bool → Hp → Prop) → Prop
abbrev TA := St → Hp → (List V → Hp → Prop) → Prop
structure Ends where
  nx : St → Hp → Prop
  rt : VK
  bk : St → Hp → Prop := fun _ _ => False
  ct : St → Hp → Prop := fun _ _ => False
abbrev TS := Ends → St → Hp → Prop
def EP (X : Cx) (pins : List (Addr × Obj)) (σ : St) (Q : VK) (u : Value) (s' : Shared) : Prop := ∃ v H', Inv X pins σ H' s' ∧ RelV v u ∧ Q v H'
def TP (X : Cx) (pins : List (Addr × Obj)) (σ : St) (Q : Bool → Hp → Prop) (b : Bool) (s' : Shared) : Prop := ∃ H', Inv X pins σ H' s' ∧ Q b H'
def AP (X : Cx) (pins : List (Addr × Obj)) (σ : St) (Q : List V → Hp → Prop) (us : List Value) (s' : Shared) : Prop := ∃ vs H', Inv X pins σ H' s' ∧ Vals vs us ∧ Q vs H'
def SP (X : Cx) (pins : List (Addr × Obj)) (D : Ends) (f : Flow) (s' : Shared) : Prop :=
  match f with
  | .next => ∃ σ' H', Inv X pins σ' H' s' ∧ D.nx σ' H'
  | .brk => ∃ σ' H', Inv X pins σ' H' s' ∧ D.bk σ' H'
  | .cont => ∃ σ' H', Inv X pins σ' H' s' ∧ D.ct σ' H'
  | .ret u => ∃ v σ' H', Inv X pins σ' H' s' ∧ RelV v u ∧ D.rt v H'
def PE (X : Cx) (e : Expr) (t : TE) : Prop :=
  ∀ (pins : List (Addr × Obj)) (s : Shared) (σ : St) (H : Hp) (Q : VK), Inv X pins σ H s → t σ H Q → wpAny (model X.prog X.w) X.A (eval e X.env) (EP X pins σ Q) X.xe s
def PT (X : Cx) (e : Expr) (t : TT) : Prop :=
  ∀ (pins : List (Addr × Obj)) (s : Shared) (σ : St) (H : Hp) (Q : Bool → Hp → Prop), Inv X pins σ H s → t σ H Q → wpAny (model X.prog X.w) X.A (isTrue e X.env (eval e X.env)) (TP X pins σ Q) X.xe s
def PW (X : Cx) (e : Expr) (t : TT) : Prop :=
  ∀ (whole : Sem Value) (pins : List (Addr × Obj)) (s : Shared) (σ : St) (H : Hp) (Q : Bool → Hp → Prop), Inv X pins σ H s → t σ H Q → wpAny (model X.prog X.w) X.A (isTrue e X.env whole) (TP X pins σ Q) X.xe s
theorem PW.pt {X : Cx} {e : Expr} {t : TT} (h : PW X e t) : PT X e t := h _
def PA (X : Cx) (es : List Expr) (t : TA) : Prop :=
  ∀ (pos : Pos) (pins : List (Addr × Obj)) (s : Shared) (σ : St) (H : Hp) (Q : List V → Hp → Prop), Inv X pins σ H s → t σ H Q → wpAny (model X.prog X.w) X.A (spliced (backTo pos (starEach es X.env))) (AP X pins σ Q) X.xe s
def PS (X : Cx) (st : Stmt) (t : TS) : Prop :=
  ∀ (pins : List (Addr × Obj)) (s : Shared) (σ : St) (H : Hp) (D : Ends), Inv X pins σ H s → t D σ H → wpAny (model X.prog X.w) X.A (exec st X.env) (SP X pins D) X.xe s
def PSs (X : Cx) (st : List Stmt) (t : TS) : Prop :=
  ∀ (pins : List (Addr × Obj)) (s : Shared) (σ : St) (H : Hp) (D : Ends), Inv X pins σ H s → t D σ H → wpAny (model X.prog X.w) X.A (execs st X.env) (SP X pins D) X.xe s
theorem thn {α : Type} {t : Sem α} {Q Q' : α → Shared → Prop} {M : Model} {A : Around} {E : Value → Shared → Prop} {s : Shared} (h : wpAny M A t Q E s) (hQ : ∀ a s, Q a s → Q' a s) : wpAny M A t Q' E s := wpAny_mono h hQ fun _ _ x => x
end L2
namespace L2
open PySem PySem.Spec PyProof.Rows
section
variable {X : Cx}
theorem bin {a b : Expr} {ta tb : TE} (ha : PE X a ta) (hb : PE X b tb) {pins : List (Addr × Obj)} {s : Shared} {σ : St} {H : Hp} {R : V → V → Hp → Prop} (I : Inv X pins σ H s) (h : ta σ H fun x H1 => tb σ H1 fun y H2 => R x y H2)
    {α : Type} {Q : α → Shared → Prop} {f : Value → Value → Sem α}
    (hf : ∀ v u s2 x y H2, Inv X pins σ H2 s2 → RelV x v → RelV y u → R x y H2 → wpAny (model X.prog X.w) X.A (f v u) Q X.xe s2) :
    wpAny (model X.prog X.w) X.A (eval a X.env) (fun v s₁ => wpAny (model X.prog X.w) X.A (eval b X.env) (fun u s₂ => wpAny (model X.prog X.w) X.A (f v u) Q X.xe s₂) X.xe s₁) X.xe s := by
  refine thn (ha pins s σ H _ I h) fun v s1 ⟨x, H1, I1, r1, q1⟩ => ?_
  refine thn (hb pins s1 σ H1 _ I1 q1) fun u s2 ⟨y, H2, I2, r2, q2⟩ => ?_
  exact hf v u s2 x y H2 I2 r1 r2 q2
def tVar (i : Nat) : TE := fun σ H Q => ∃ v, σ[i]? = some (some v) ∧ Q v H
def tC (v : V) : TE := fun _ H Q => Q v H
theorem pe_var {i : Nat} {x : Str} {pos : Pos} (hN : X.N[i]? = some x) (hv : Vis X.env.scope x) (hd : (x == ("__debug__" : Str)) = false := by decide) (hcd : (x == ("__classdict__" : Str)) = false := by decide) : PE X (.Name x pos) (tVar i) := by
  intro pins s σ H Q I h
  obtain ⟨v, e, h⟩ := h
  obtain ⟨m, hn, hl⟩ := I.loc
  obtain ⟨u, r, l⟩ := hl i x v hN e hv
  have fin : EP X pins σ Q u s := ⟨v, H, I, r, h⟩
  rcases l with ⟨hk, hm⟩ | ⟨hk, c, hc, hcell⟩
  · exact wpAny_Name (wpAny_loadName_local I.ok.kind hk hn hm fin) hd
  · rcases hk with hk | hk
    · exact wpAny_Name (wpAny_loadName_cell I.ok.kind hk hc hcell fin) hd
    · exact wpAny_Name (wpAny_loadName_free I.ok.kind hk hc hcell fin hcd) hd
theorem pe_int {i j pos} : PE X (.Constant (.int i) j pos) (tC (.int i)) := fun _ _ _ H _ I h => wpAny_Constant_int ⟨.int i, H, I.tok _, ⟨_, rfl⟩, h⟩
theorem pe_bl {b j pos} : PE X (.Constant (.bool b) j pos) (tC (.bl b)) := fun _ _ _ H _ I h => Constant_bool ⟨.bl b, H, I, rfl, h⟩
theorem pe_non {j pos} : PE X (.Constant .none j pos) (tC .non) := fun _ _ _ H _ I h => Constant_none ⟨.non, H, I, rfl, h⟩
theorem pe_str {x j pos} : PE X (.Constant (.str x) j pos) (tC (.str x)) := fun _ _ _ H _ I h => Calls.Constant_str ⟨.str x, H, I.tok _, ⟨_, rfl⟩, h⟩
def Gl (X : Cx) (x : Str) : Prop := X.env.kindOf x = some .globalImplicit
theorem ld_glob {E : Value → Shared → Prop} {pins : List (Addr × Obj)} {s : Shared} {σ : St} {H : Hp} {x : Str} {u : Value} {pos : Pos} {Q : Value → Shared → Prop} (I : Inv X pins σ H s) (hg : Gl X x) (hm : X.mg x = some u) (h : Q u s)
    (hd : (x == ("__debug__" : Str)) = false := by decide) : wpAny (model X.prog X.w) X.A (eval (.Name x pos) X.env) Q E s :=
  Calls.Name_function_global I.ok.kind hg (Calls.loadGlobal_global (by rw [I.ok.glob]; exact I.mod.glob.keeps I.bk) hm h) hd
theorem ld_blt {E : Value → Shared → Prop} {pins : List (Addr × Obj)} {s : Shared} {σ : St} {H : Hp} {x : Str} {u : Value} {pos : Pos} {Q : Value → Shared → Prop} (I : Inv X pins σ H s) (hg : Gl X x) (hm : X.mg x = none) (hv : bootBuiltins x = some u) (h : Q u s)
    (hn : x ≠ "__name__" := by decide) (hd : (x == ("__debug__" : Str)) = false := by decide) : wpAny (model X.prog X.w) X.A (eval (.Name x pos) X.env) Q E s := by
  obtain ⟨mb, h1, h2⟩ := I.mod.blt
  exact Calls.Name_function_global I.ok.kind hg (Calls.loadGlobal_builtin (by rw [I.ok.glob]; exact I.mod.glob.keeps I.bk) hm (by rw [I.ok.blt]; exact h1.keeps I.bk) ((h2 x hn).trans hv) h) hd
theorem pe_glob {x : Str} {v : V} {u : Value} {pos : Pos} (hg : Gl X x) (hm : X.mg x = some u) (r : RelV v u) (hd : (x == ("__debug__" : Str)) = false := by decide) : PE X (.Name x pos) (tC v) :=
  fun _ _ _ H _ I h => ld_glob I hg hm ⟨v, H, I, r, h⟩ hd
theorem pe_bltn {x : Str} {v : V} {u : Value} {pos : Pos} (hg : Gl X x) (hm : X.mg x = none) (hv : bootBuiltins x = some u) (r : RelV v u) (hn : x ≠ "__name__" := by decide) (hd : (x == ("__debug__" : Str)) = false := by decide) : PE X (.Name x pos) (tC v) :=
  fun _ _ _ H _ I h => ld_blt I hg hm hv ⟨v, H, I, r, h⟩ hn hd
def t2I (ta tb : TE) (k : Int → Int → Hp → Prop) : St → Hp → Prop := fun σ H => ta σ H fun x H1 => tb σ H1 fun y H2 => ∃ i j, x = .int i ∧ y = .int j ∧ k i j H2
def tAdd (ta tb : TE) : TE := fun σ H Q => t2I ta tb (fun i j H2 => Q (.int (i + j)) H2) σ H
def tSub (ta tb : TE) : TE := fun σ H Q => t2I ta tb (fun i j H2 => Q (.int (i - j)) H2) σ H
def tMul (ta tb : TE) : TE := fun σ H Q => t2I ta tb (fun i j H2 => (-(2 ^ 64) < i ∧ i < 2 ^ 64) ∧ Q (.int (i * j)) H2) σ H
variable {a b : Expr} {ta tb : TE} {pos : Pos}
def PC (X : Cx) (op : CmpOp) (a b : Expr) (t : TE) : Prop :=
  ∀ (pins : List (Addr × Obj)) (s : Shared) (σ : St) (H : Hp) (Q : VK), Inv X pins σ H s → t σ H Q →
    wpAny (model X.prog X.w) X.A (eval a X.env) (fun v s₁ => wpAny (model X.prog X.w) X.A (eval b X.env) (fun u s₂ => wpAny (model X.prog X.w) X.A (compareOp op v u) (EP X pins σ Q) X.xe s₂) X.xe s₁) X.xe s
theorem nobehind (b : Expr) {op : CmpOp} (h : op ≠ .In) (h2 : op ≠ .NotIn) : behindInMarks op b = false := by
  have e1 : (op == CmpOp.In) = false := by cases op <;> first | rfl | exact absurd rfl h
  have e2 : (op == CmpOp.NotIn) = false := by cases op <;> first | rfl | exact absurd rfl h2
  cases b <;> simp [behindInMarks, e1, e2]
def tCmp (p : Int → Int → Bool) (ta tb : TE) : TE := fun σ H Q => t2I ta tb (fun i j H2 => Q (.bl (p i j)) H2) σ H
abbrev tLt : TE → TE → TE := tCmp fun i j => decide (i < j)
abbrev tLe : TE → TE → TE := tCmp fun i j => decide (i ≤ j)
abbrev tGt : TE → TE → TE := tCmp fun i j => decide (j < i)
abbrev tGe : TE → TE → TE := tCmp fun i j => decide (j ≤ i)
abbrev tEqI : TE → TE → TE := tCmp fun i j => decide (i = j)
abbrev tNeI : TE → TE → TE := tCmp fun i j => !decide (i = j)
def tIsN (ta : TE) : TE := fun σ H Q => ta σ H fun x H1 => Q (.bl (decide (x = .non))) H1
def tNotN (ta : TE) : TE := fun σ H Q => ta σ H fun x H1 => Q (.bl (!decide (x = .non))) H1
def tB (t : TE) : TT := fun σ H Q => t σ H fun x H1 => ∃ c, x = .bl c ∧ Q c H1
theorem pt_cmp {op : CmpOp} {t : TE} (h : PC X op a b t) (h1 : behindInMarks op b = false := by first | exact nobehind _ (by decide) (by decide) | rfl) : PT X (.Compare a [op] [b] pos) (tB t) := by
  intro pins s σ H Q I hw
  refine wpAny_isTrue_Compare1 (thn (h pins s σ H _ I hw) fun v s1 h1 => thn h1 fun u s2 h2 => thn h2 fun c s3 ⟨x, H1, I1, r1, q1⟩ => ?_) h1
  obtain ⟨d, rfl, q⟩ := q1
  cases r1
  exact wpAny_truthy_bool ⟨H1, I1, q⟩
theorem pt_val {e : Expr} {t : TE} (h : PE X e t) (he : ∀ whole, isTrue e X.env whole = (do let v ← whole; standAt e.pos; holding [v] (truthy v)) := by intro _; rfl) : PT X e (tB t) := by
  intro pins s σ H Q I hw
  refine isTrue_plain (thn (h pins s σ H _ I hw) fun v s1 ⟨x, H1, I1, r1, q1⟩ => ?_) (he _)
  obtain ⟨d, rfl, q⟩ := q1
  cases r1
  exact wpAny_truthy_bool ⟨H1, I1, q⟩
variable {tA tB' : TT} {rest : List Expr}
def tAnd (t u : TT) : TT := fun σ H Q => t σ H fun c H1 => if c = true then u σ H1 Q else Q false H1
def tOr (t u : TT) : TT := fun σ H Q => t σ H fun c H1 => if c = true then Q true H1 else u σ H1 Q
def tNot (t : TT) : TT := fun σ H Q => t σ H fun c H1 => Q (!c) H1
theorem pw_and1 (ha : PT X a tA) : PW X (.BoolOp .And [a] pos) tA := by
  intro wh pins s σ H Q I h
  refine isTrue_and (thn (ha pins s σ H Q I h) fun c s1 e => ?_)
  cases c with
  | true => exact isTrue_and_nil e
  | false => exact e
theorem pw_or1 (ha : PT X a tA) : PW X (.BoolOp .Or [a] pos) tA := by
  intro wh pins s σ H Q I h
  refine isTrue_or (thn (ha pins s σ H Q I h) fun c s1 e => ?_)
  cases c with
  | false => exact isTrue_or_nil e
  | true => exact e
theorem pw_and (ha : PT X a tA) (hb : PW X (.BoolOp .And (b :: rest) pos) tB') : PW X (.BoolOp .And (a :: b :: rest) pos) (tAnd tA tB') := by
  intro wh pins s σ H Q I h
  refine isTrue_and (thn (ha pins s σ H _ I h) fun c s1 ⟨H1, I1, q1⟩ => ?_)
  cases c with
  | true => exact hb wh pins s1 σ H1 Q I1 q1
  | false => exact ⟨H1, I1, q1⟩
theorem pw_or (ha : PT X a tA) (hb : PW X (.BoolOp .Or (b :: rest) pos) tB') : PW X (.BoolOp .Or (a :: b :: rest) pos) (tOr tA tB') := by
  intro wh pins s σ H Q I h
  refine isTrue_or (thn (ha pins s σ H _ I h) fun c s1 ⟨H1, I1, q1⟩ => ?_)
  cases c with
  | true => exact ⟨H1, I1, q1⟩
  | false => exact hb wh pins s1 σ H1 Q I1 q1
theorem pt_not (ha : PT X a tA) : PT X (.UnaryOp .Not a pos) (tNot tA) := by
  intro pins s σ H Q I h
  exact isTrue_not (ha pins s σ H (fun c H1 => Q (!c) H1) I h)
def tAndV (ta tb : TE) : TE := fun σ H Q => ta σ H fun x H1 => ∃ c, x = .bl c ∧ if c = true then tb σ H1 Q else Q (.bl false) H1
def tOrV (ta tb : TE) : TE := fun σ H Q => ta σ H fun x H1 => ∃ c, x = .bl c ∧ if c = true then Q (.bl true) H1 else tb σ H1 Q
def tNotV (ta : TE) : TE := fun σ H Q => ta σ H fun x H1 => ∃ c, x = .bl c ∧ Q (.bl (!c)) H1
theorem pe_one {op} {t : TE} (h : PE X a t) : PE X (.BoolOp op [a] pos) t := fun pins s σ H Q I hw => BoolOp_one (h pins s σ H Q I hw)
theorem pe_and (ha : PE X a ta) (hb : PE X (.BoolOp .And (b :: rest) pos) tb) : PE X (.BoolOp .And (a :: b :: rest) pos) (tAndV ta tb) := by
  intro pins s σ H Q I h
  refine BoolOp_and (thn (ha pins s σ H _ I h) fun v s1 ⟨x, H1, I1, r1, q1⟩ => ?_)
  obtain ⟨c, rfl, q1⟩ := q1
  cases r1
  refine wpAny_truthy_bool ?_
  cases c with
  | true => exact hb pins s1 σ H1 Q I1 q1
  | false => exact ⟨.bl false, H1, I1, rfl, q1⟩
theorem pe_or (ha : PE X a ta) (hb : PE X (.BoolOp .Or (b :: rest) pos) tb) : PE X (.BoolOp .Or (a :: b :: rest) pos) (tOrV ta tb) := by
  intro pins s σ H Q I h
  refine BoolOp_or (thn (ha pins s σ H _ I h) fun v s1 ⟨x, H1, I1, r1, q1⟩ => ?_)
  obtain ⟨c, rfl, q1⟩ := q1
  cases r1
  refine wpAny_truthy_bool ?_
  cases c with
  | false => exact hb pins s1 σ H1 Q I1 q1
  | true => exact ⟨.bl true, H1, I1, rfl, q1⟩
theorem pe_not (ha : PE X a ta) : PE X (.UnaryOp .Not a pos) (tNotV ta) := by
  intro pins s σ H Q I h
  refine UnaryOp_ (thn (ha pins s σ H _ I h) fun v s1 ⟨x, H1, I1, r1, q1⟩ => ?_)
  obtain ⟨c, rfl, q1⟩ := q1
  cases r1
  exact not_of (wpAny_truthy_bool ⟨.bl (!c), H1, I1, rfl, q1⟩)
def tIf (t : TT) (ta tb : TE) : TE := fun σ H Q => t σ H fun c H1 => if c = true then ta σ H1 Q else tb σ H1 Q
theorem pe_ifExp {c : Expr} (hc : PT X c tA) (ha : PE X a ta) (hb : PE X b tb) : PE X (.IfExp c a b pos) (tIf tA ta tb) := by
  intro pins s σ H Q I h
  refine wpAny_IfExp (thn (hc pins s σ H _ I h) fun d s1 ⟨H1, I1, q1⟩ => ?_)
  cases d with
  | true => exact ha pins s1 σ H1 Q I1 q1
  | false => exact hb pins s1 σ H1 Q I1 q1
end
end L2
namespace L2
open PySem PySem.Spec PyProof.Rows
def SqL (K : PySem.W.Frag) (H : Hp) (a : Addr) (xs : List V) : Prop :=
  Rd H a (.lst xs) ∨
    ∃ (o : Obj) (its : Array Value) (n : Nat), K.lookup a = some o ∧ o.cls = .type "list" ∧ o.dict = none ∧ o.data = .seq its n ∧ its.size ≤ sizeLine ∧ Vals xs its.toList
def SqT (K : PySem.W.Frag) (H : Hp) (a : Addr) (xs : List V) : Prop :=
  Rd H a (.tup xs) ∨
    ∃ (o : Obj) (its : Array Value) (n : Nat), K.lookup a = some o ∧ o.cls = .type "tuple" ∧ o.data = .seq its n ∧ its.size ≤ sizeLine ∧ Vals xs its.toList
def absV : Value → Option V
  | .none => some .non
  | .bool b => some (.bl b)
  | .int i _ => some (.int i)
  | .str x _ => some (.str x)
  | .bytes b _ => some (.byt b)
  | .float b _ => some (.flt b)
  | .ref a => some (.ref a)
  | .type n => some (.ty n)
  | _ => none
theorem RelV.abs {x : V} {u : Value} (r : RelV x u) : absV u = some x := by
  cases x with
  | non => cases r; rfl
  | bl _ => cases r; rfl
  | int _ => obtain ⟨t, rfl⟩ := r; rfl
  | str _ => obtain ⟨t, rfl⟩ := r; rfl
  | byt _ => obtain ⟨t, rfl⟩ := r; rfl
  | flt _ => obtain ⟨t, rfl⟩ := r; rfl
  | ref _ => cases r; rfl
  | ty _ => cases r; rfl
theorem RelV.inj {x y : V} {u : Value} (r : RelV x u) (q : RelV y u) : x = y := Option.some.inj (r.abs.symm.trans q.abs)
theorem Vals.inj : ∀ {xs ys : List V} {us : List Value}, Vals xs us → Vals ys us → xs = ys
  | _, _, _, .nil, .nil => rfl
  | _, _, _, .cons r t, .cons r' t' => by rw [r.inj r', Vals.inj t t']
section
variable {X : Cx} {pins : List (Addr × Obj)} {σ : St} {H : Hp} {s : Shared} {a : Addr} {xs ys : List V}
theorem SqL.of {K : PySem.W.Frag} (h : H a = some (.lst xs)) : SqL K H a xs := .inl (.inl h)
theorem SqT.of {K : PySem.W.Frag} (h : H a = some (.tup xs)) : SqT K H a xs := .inl (.inl h)
theorem Inv.list (I : Inv X pins σ H s) (h : SqL X.K H a xs) : ∃ its : List Value, Vals xs its ∧ PlainL s.heap a its.toArray ∧ xs.length ≤ sizeLine := by
  rcases h with h | ⟨o, its, n, hk, hc, hd, hs, hz, r⟩
  · obtain ⟨z, its, n, r, e⟩ := h.ok I.hok
    exact ⟨its, r, ⟨_, n, e, rfl, rfl, rfl⟩, z⟩
  · refine ⟨its.toList, r, ⟨o, n, I.kIn a o hk, hc, hd, by simpa using hs⟩, ?_⟩
    have e := r.length
    simp only [Array.length_toList] at e
    omega
theorem Inv.tuple (I : Inv X pins σ H s) (h : SqT X.K H a xs) : ∃ its : List Value, Vals xs its ∧ IsTup s.heap a its.toArray ∧ xs.length ≤ sizeLine := by
  rcases h with h | ⟨o, its, n, hk, hc, hs, hz, r⟩
  · obtain ⟨z, its, r, p⟩ := h.ok I.hok
    exact ⟨its, r, p, z⟩
  · refine ⟨its.toList, r, ⟨o, I.kIn a o hk, hc, n, by simpa using hs⟩, ?_⟩
    have e := r.length
    simp only [Array.length_toList] at e
    omega
theorem Inv.list_inj (I : Inv X pins σ H s) (h : SqL X.K H a xs) (h' : SqL X.K H a ys) : xs = ys := by
  obtain ⟨its, r, ⟨o, n, e, _, _, d⟩, _⟩ := I.list h
  obtain ⟨its', r', ⟨o', n', e', _, _, d'⟩, _⟩ := I.list h'
  rw [e] at e'; cases e'
  rw [d] at d'
  injection d' with d1 _
  have : its = its' := by simpa using congrArg Array.toList d1
  subst this
  exact r.inj r'
theorem Inv.tuple_inj (I : Inv X pins σ H s) (h : SqT X.K H a xs) (h' : SqT X.K H a ys) : xs = ys := by
  obtain ⟨its, r, ⟨o, e, _, n, d⟩, _⟩ := I.tuple h
  obtain ⟨its', r', ⟨o', e', _, n', d'⟩, _⟩ := I.tuple h'
  rw [e] at e'; cases e'
  rw [d] at d'
  injection d' with d1 _
  have : its = its' := by simpa using congrArg Array.toList d1
  subst this
  exact r.inj r'
end
abbrev Cx.wish (X : Cx) (E : Value → Shared → Prop) : Cx := { X with xe := E }
abbrev Cx.nox (X : Cx) : Cx := X.wish fun _ _ => False
theorem Cx.Ok.wish {X : Cx} (ok : X.Ok) (E : Value → Shared → Prop) : (X.wish E).Ok :=
  ⟨ok.mod, ok.kind, ok.glob, ok.blt, ok.above, ok.inj, ok.has, ok.cab, ok.hd, ok.frames, ok.stk, ok.exf, ok.bs, ok.bsz, ok.noex, ok.exfs, ok.funs, ok.frf⟩
theorem Cx.Ok.unwish {X : Cx} {E : Value → Shared → Prop} (ok : (X.wish E).Ok) : X.Ok :=
  ⟨ok.mod, ok.kind, ok.glob, ok.blt, ok.above, ok.inj, ok.has, ok.cab, ok.hd, ok.frames, ok.stk, ok.exf, ok.bs, ok.bsz, ok.noex, ok.exfs, ok.funs, ok.frf⟩
section
variable {X : Cx} {pins : List (Addr × Obj)} {σ : St} {H : Hp} {s : Shared} {E : Value → Shared → Prop}
theorem Inv.wish (I : Inv X pins σ H s) (E : Value → Shared → Prop) : Inv (X.wish E) pins σ H s := ⟨I.ok.wish E, I.os, I.bare, I.base, I.loc, I.cell, I.free, I.freeC, I.pin, I.hok, I.len⟩
theorem Inv.unwish (I : Inv (X.wish E) pins σ H s) : Inv X pins σ H s := ⟨I.ok.unwish, I.os, I.bare, I.base, I.loc, I.cell, I.free, I.freeC, I.pin, I.hok, I.len⟩
theorem SP.unwish {D : Ends} {f : Flow} {s' : Shared} (h : SP (X.wish E) pins D f s') : SP X pins D f s' := by
  cases f with
  | next => obtain ⟨σ', H', I, q⟩ := h; exact ⟨σ', H', I.unwish, q⟩
  | brk => obtain ⟨σ', H', I, q⟩ := h; exact ⟨σ', H', I.unwish, q⟩
  | cont => obtain ⟨σ', H', I, q⟩ := h; exact ⟨σ', H', I.unwish, q⟩
  | ret u => obtain ⟨v, σ', H', I, r, q⟩ := h; exact ⟨v, σ', H', I.unwish, r, q⟩
theorem PE.nox {e : Expr} {t : TE} (h : PE X.nox e t) : PE X e t := fun pins s σ H Q I hw =>
  wpAny_mono (h pins s σ H Q (I.wish _) hw) (fun _ _ ⟨v, H', I', r, q⟩ => ⟨v, H', I'.unwish, r, q⟩) fun _ _ z => False.elim z
theorem PT.nox {e : Expr} {t : TT} (h : PT X.nox e t) : PT X e t := fun pins s σ H Q I hw =>
  wpAny_mono (h pins s σ H Q (I.wish _) hw) (fun _ _ ⟨H', I', q⟩ => ⟨H', I'.unwish, q⟩) fun _ _ z => False.elim z
theorem PSs.nox {st : List Stmt} {t : TS} (h : PSs X.nox st t) : PSs X st t := fun pins s σ H D I hw =>
  wpAny_mono (h pins s σ H D (I.wish _) hw) (fun _ _ q => q.unwish) fun _ _ z => False.elim z
end
section
variable {X : Cx} {st : Stmt} {rest : List Stmt} {t u : TS} {e : Expr} {te : TE} {pos : Pos}
def tNext : TS := fun D σ H => D.nx σ H
def tSeq (t u : TS) : TS := fun D σ H => t { D with nx := u D } σ H
theorem pss_nil : PSs X [] tNext := fun _ _ σ H _ I h => wpAny_execs_nil ⟨σ, H, I, h⟩
theorem pss_cons (h1 : PS X st t) (h2 : PSs X rest u) : PSs X (st :: rest) (tSeq t u) := by
  intro pins s σ H D I h
  refine wpAny_execs_cons (thn (h1 pins s σ H { D with nx := u D } I h) fun f s1 q => ?_)
  cases f with
  | next =>
    obtain ⟨σ', H', I', q⟩ := q
    exact h2 pins s1 σ' H' D I' q
  | ret v => exact q
  | brk => exact q
  | cont => exact q
theorem pss_one (h1 : PS X st t) : PSs X [st] t := by
  intro pins s σ H D I h
  refine wpAny_execs_cons (thn (h1 pins s σ H D I h) fun f s1 q => ?_)
  cases f with
  | next => exact wpAny_execs_nil q
  | ret v => exact q
  | brk => exact q
  | cont => exact q
def tBreak : TS := fun D σ H => D.bk σ H
def tCont : TS := fun D σ H => D.ct σ H
theorem Inv.quiet {pins : List (Addr × Obj)} {σ : St} {H : Hp} {s : Shared} (I : Inv X pins σ H s) : interactive X.env = false := by simp [interactive, I.ok.kind]
def tDrop (te : TE) : TS := fun D σ H => te σ H fun _ H1 => D.nx σ H1
theorem ps_expr (he : PE X e te) (hs : swapsWith e none pos.line X.env = pure false := by rfl) : PS X (.Expr e pos) (tDrop te) := by
  intro pins s σ H D I h
  exact wpAny_Expr_any (thn (he pins s σ H _ I h) fun v s1 ⟨x, H1, I1, r1, q1⟩ => ⟨σ, H1, I1, q1⟩) I.quiet hs
def tRet (te : TE) : TS := fun D σ H => te σ H D.rt
theorem ps_ret (he : PE X e te) : PS X (.Return (some e) pos) (tRet te) := by
  intro pins s σ H D I h
  exact wpAny_Return_some (thn (he pins s σ H _ I h) fun v s1 ⟨x, H1, I1, r1, q1⟩ => ⟨x, σ, H1, I1, r1, q1⟩)
def tRetN : TS := fun D _ H => D.rt .non H
def tIfS (c : TT) (t u : TS) : TS := fun D σ H => c σ H fun b H1 => if b = true then t D σ H1 else u D σ H1
theorem ps_if {c : Expr} {a b : List Stmt} {tc : TT} (hc : PT X c tc) (ha : PSs X a t) (hb : PSs X b u) : PS X (.If c a b pos) (tIfS tc t u) := by
  intro pins s σ H D I h
  refine wpAny_If (thn (hc pins s σ H _ I h) fun d s1 ⟨H1, I1, q1⟩ => ?_)
  cases d with
  | true => exact ha pins s1 σ H1 D I1 q1
  | false => exact hb pins s1 σ H1 D I1 q1
def tNever : TS := fun _ _ _ => False
theorem ps_never : PS X st tNever := fun _ _ _ _ _ _ h => h.elim
theorem pss_never {sts : List Stmt} : PSs X sts tNever := fun _ _ _ _ _ _ h => h.elim
end
abbrev TG := V → St → Hp → (St → Hp → Prop) → Prop
abbrev TGs := List V → St → Hp → (St → Hp → Prop) → Prop
def PG (X : Cx) (target : Expr) (t : TG) : Prop :=
  ∀ (pins : List (Addr × Obj)) (s : Shared) (σ : St) (H : Hp) (v : V) (u : Value) (Q : St → Hp → Prop), Inv X pins σ H s → RelV v u → t v σ H Q →
    wpAny (model X.prog X.w) X.A (assign target X.env u) (fun _ s' => ∃ σ' H', Inv X pins σ' H' s' ∧ Q σ' H') X.xe s
def PGs (X : Cx) (ts : List Expr) (t : TGs) : Prop :=
  ∀ (pins : List (Addr × Obj)) (s : Shared) (σ : St) (H : Hp) (vs : List V) (us : List Value) (Q : St → Hp → Prop), Inv X pins σ H s → Vals vs us → t vs σ H Q →
    wpAny (model X.prog X.w) X.A (assignInOrder ((assignEach ts X.env).map (·.2)) us) (fun _ s' => ∃ σ' H', Inv X pins σ' H' s' ∧ Q σ' H') X.xe s
abbrev TSet := V → V → V → Hp → (Hp → Prop) → Prop
def PSet (X : Cx) (t : TSet) : Prop :=
  ∀ (pins : List (Addr × Obj)) (s : Shared) (σ : St) (H : Hp) (o i v : V) (ov iv u : Value) (Q : Hp → Prop), Inv X pins σ H s → RelV o ov → RelV i iv → RelV v u → t o i v H Q →
    wpAny (model X.prog X.w) X.A (setItem ov iv u) (fun _ s' => ∃ H', Inv X pins σ H' s' ∧ Q H') X.xe s
abbrev TIp := V → V → Hp → VK → Prop
def PIp (X : Cx) (op : Operator) (t : TIp) : Prop :=
  ∀ (pins : List (Addr × Obj)) (s : Shared) (σ : St) (H : Hp) (x y : V) (v u : Value) (Q : VK), Inv X pins σ H s → RelV x v → RelV y u → t x y H Q →
    wpAny (model X.prog X.w) X.A (inplaceOp op v u) (EP X pins σ Q) X.xe s
section
variable {X : Cx} {pos : Pos}
def gName (i : Nat) : TG := fun v σ H Q => Q (σ.set i (some v)) H
theorem pg_name {i : Nat} {x : Str} (hN : X.N.Nodup) (hi : X.N[i]? = some x) (hx : Loc X.env.scope x) (hf : X.fn x = true ∨ X.env.scope.names.lookup x = some .local := by first | exact .inl rfl | exact .inr rfl | assumption) : PG X (.Name x pos) (gName i) := by
  intro pins s σ H v u Q I r h
  exact wpAny_assign_Name (store_ok I hN hi hx r (fun s' I' => ⟨_, H, I', h⟩) hf)
def gNil : TGs := fun vs σ H Q => vs = [] ∧ Q σ H
def gCons (t : TG) (u : TGs) : TGs := fun vs σ H Q => ∃ v r, vs = v :: r ∧ t v σ H fun σ' H' => u r σ' H' Q
theorem pgs_nil : PGs X [] gNil := by
  intro pins s σ H vs us Q I r h
  obtain ⟨e, h⟩ := h
  subst e
  cases r
  exact assignInOrder_nil ⟨σ, H, I, h⟩
theorem pgs_cons {e : Expr} {es : List Expr} {t : TG} {u : TGs} (h1 : PG X e t) (h2 : PGs X es u)
    (hs : (assignEach (e :: es) X.env).map (·.2) = assign e X.env :: (assignEach es X.env).map (·.2) := by rfl) : PGs X (e :: es) (gCons t u) := by
  intro pins s σ H vs us Q I r h
  obtain ⟨v, vr, e1, h⟩ := h
  subst e1
  cases r with
  | cons r rr =>
    rw [hs]
    refine assignInOrder_cons (thn (h1 pins s σ H _ _ _ I r h) fun _ s1 ⟨σ1, H1, I1, q1⟩ => ?_)
    exact h2 pins s1 σ1 H1 _ _ Q I1 rr q1
def gTup (K : PySem.W.Frag) (n : Nat) (t : TGs) : TG := fun v σ H Q => ∃ a xs, v = .ref a ∧ SqT K H a xs ∧ xs.length = n ∧ t xs σ H Q
theorem pg_tup {es : List Expr} {k : Nat} {t : TGs} {n : Nat} (hc : X.calm = true) (h : PGs X es t)
    (hn : (assignEach es X.env).length = n := by rfl) (hst : (assignEach es X.env).findIdx? (·.1) = none := by rfl) : PG X (.Tuple es k pos) (gTup X.K n t) := by
  intro pins s σ H v u Q I r hw
  obtain ⟨a, xs, e1, hq, hl, hw⟩ := hw
  subst e1
  cases r
  obtain ⟨its, rv, ht, hz⟩ := I.tuple hq
  refine assign_Tuple_tuple (I.ok.hd hc) ht (by simp [hn, ← hl, rv.length]) hst fun h' hx => ?_
  have I1 : Inv X pins σ H { s with heap := h' } := I.kept (t' := s.toks) fun b o e => hx b o (Nat.ne_of_lt (Heap.lt_size e)) e
  exact h pins _ σ H xs _ Q I1 (by simpa using rv) hw
def gSub (to ti : TE) (t : TSet) : TG := fun v σ H Q => to σ H fun o H1 => ti σ H1 fun i H2 => t o i v H2 fun H3 => Q σ H3
def tAsg (te : TE) (g : TG) : TS := fun D σ H => te σ H fun x H1 => g x σ H1 D.nx
theorem ps_set {i : Nat} {x : Str} {e : Expr} {te : TE} {pos' : Pos} (hN : X.N.Nodup) (hi : X.N[i]? = some x) (hx : Loc X.env.scope x) (he : PE X e te) (hs : swapsWith e (some (.Name x pos')) pos.line X.env = pure false := by rfl) (hf : X.fn x = true ∨ X.env.scope.names.lookup x = some .local := by first | exact .inl rfl | exact .inr rfl | assumption) :
    PS X (.Assign [.Name x pos'] e pos) (tAsg te (gName i)) := by
  intro pins s σ H D I h
  refine wpAny_Assign_Name (thn (he pins s σ H _ I h) fun v s1 ⟨y, H1, I1, r1, q1⟩ => ?_) hs
  exact store_ok I1 hN hi hx r1 (fun s2 I2 => ⟨_, H1, I2, q1⟩) hf
def tPar (i j : Nat) (ta : TA) : TS := fun D σ H => ta σ H fun vs H1 => ∃ v w, vs = [v, w] ∧ D.nx ((σ.set i (some v)).set j (some w)) H1
def tAug (i : Nat) (te : TE) (ti : TIp) : TS := fun D σ H => ∃ x, σ[i]? = some (some x) ∧ te σ H fun y H1 => ti x y H1 fun z H2 => D.nx (σ.set i (some z)) H2
def tAugS (to ti te : TE) (tget : V → V → Hp → VK → Prop) (tip : TIp) (tset : TSet) : TS := fun D σ H => to σ H fun o H1 => ti σ H1 fun i H2 => tget o i H2 fun x H3 => te σ H3 fun y H4 => tip x y H4 fun z H5 => tset o i z H5 fun H6 => D.nx σ H6
def PGet (X : Cx) (t : V → V → Hp → VK → Prop) : Prop :=
  ∀ (pins : List (Addr × Obj)) (s : Shared) (σ : St) (H : Hp) (o i : V) (ov iv : Value) (Q : VK), Inv X pins σ H s → RelV o ov → RelV i iv → t o i H Q →
    wpAny (model X.prog X.w) X.A (getItem ov iv) (EP X pins σ Q) X.xe s
def ipI (f : Int → Int → Int) : TIp := fun x y H Q => ∃ i j, x = .int i ∧ y = .int j ∧ Q (.int (f i j)) H
end
section
variable {X : Cx} {pos : Pos}
def tWhile (c : TT) (tb : TS) : TS := fun D σ H => ∃ W : Nat → St → Hp → Prop, (∃ m, W m σ H) ∧ ∀ m σ H, W m σ H →
  c σ H fun b H1 => if b = true then ∃ N : St → Hp → Prop, (∀ σ' H', N σ' H' → ∃ m', m' < m ∧ W m' σ' H') ∧ tb { D with nx := N, ct := N, bk := D.nx } σ H1 else D.nx σ H1
theorem ps_while {c : Expr} {body : List Stmt} {tc : TT} {tb : TS} (hp : PassesOwn (model X.prog X.w) X.A X.env X.xe) (hc : PT X c tc) (hb : PSs X body tb) : PS X (.While c body [] pos) (tWhile tc tb) := by
  intro pins s σ H D I h
  obtain ⟨W, ⟨m0, w0⟩, turn⟩ := h
  refine wpAny_While (codeAny_whileLoop (fun n s' => ∃ σ' H', Inv X pins σ' H' s' ∧ W n σ' H') ?_ m0 ⟨σ, H, I, w0⟩)
  rintro n s1 ⟨σ1, H1, I1, w1⟩
  refine wpAny_passesOwn hp (thn (hc pins s1 σ1 H1 _ I1 (turn n σ1 H1 w1)) fun b s2 ⟨H2, I2, q2⟩ => ?_)
  cases b with
  | true =>
    obtain ⟨N, hN, q2⟩ := q2
    rw [if_pos rfl]
    refine wpAny_passesOwn hp (thn (hb pins s2 σ1 H2 _ I2 q2) fun f s3 q3 => ?_)
    cases f with
    | next =>
      obtain ⟨σ3, H3, I3, n3⟩ := q3
      obtain ⟨m', hm, w3⟩ := hN σ3 H3 n3
      exact ⟨m', hm, σ3, H3, I3, w3⟩
    | cont =>
      obtain ⟨σ3, H3, I3, n3⟩ := q3
      obtain ⟨m', hm, w3⟩ := hN σ3 H3 n3
      exact ⟨m', hm, σ3, H3, I3, w3⟩
    | brk => exact q3
    | ret v => exact q3
  | false =>
    rw [if_neg Bool.false_ne_true]
    exact wpAny_execs_nil ⟨σ1, H2, I2, q2⟩
end
structure It where
  go : Nat → Hp → Prop
  yld : Nat → Hp → V → Hp → Prop
  stop : Nat → Hp → Prop
def FpOk (X : Cx) (pins : List (Addr × Obj)) (H : Hp) (b : Addr) : Prop :=
  H b = none ∧ b ≠ X.env.locals ∧ b ∉ X.fs ∧ (b ∈ X.ex ∨ X.s₀.heap.objs.size ≤ b) ∧ (∀ x c, X.env.cells.lookup x = some c → c ≠ b) ∧ ∀ p ∈ X.pn ++ pins, p.1 ≠ b
theorem Inv.fpOk {X : Cx} {pins : List (Addr × Obj)} {σ : St} {H H' : Hp} {s : Shared} {b : Addr} (I : Inv X pins σ H s) (hb : s.heap.objs.size ≤ b) (hn : H' b = none) : FpOk X pins H' b := by
  refine ⟨hn, Nat.ne_of_gt (Nat.lt_of_lt_of_le I.lt hb), I.nofs hb, .inr (Nat.le_trans I.sz hb), fun x c e z => ?_, fun p hp z => ?_⟩
  · obtain ⟨v, q⟩ := I.cell x c e
    exact absurd (Nat.lt_of_lt_of_le q.lt (by rw [z]; exact hb)) (Nat.lt_irrefl _)
  · exact absurd (Nat.lt_of_lt_of_le (Heap.lt_size (I.pin p hp).1) (by rw [z]; exact hb)) (Nat.lt_irrefl _)
structure Turn (P : Program) (w : World) (K : PySem.W.Frag) (tg : Expr) (J : It) (fp : List Addr) (it : Addr) (tn : Nat → Heap → Prop) : Prop where
  mem : it ∈ fp
  obj : ∀ i h, tn i h → ∀ b ∈ fp, ∃ o, h.get? b = some o ∧ ∀ v, o.data ≠ .cell v
  keep : ∀ i h h', tn i h → (∀ b ∈ fp, ∀ o, h.get? b = some o → h'.get? b = some o) → tn i h'
  item : ∀ (X : Cx), X.prog = P → X.w = w → X.K = K → X.calm = true → ∀ (i : Nat) (pins : List (Addr × Obj)) (s : Shared) (σ : St) (H : Hp) (E : Value → Shared → Prop), Inv X pins σ H s → (∀ b ∈ fp, FpOk X pins H b) → tn i s.heap → J.go i H →
    wpAny (model P w) X.A (pyNext (.ref it)) (fun r s1 => ∃ u, r = some u ∧
      wpAny (model P w) X.A (letOwnedTupleGo tg (.ref it) u) (fun _ s2 => ∃ x H', Inv X pins σ H' s2 ∧ RelV x u ∧ J.yld i H x H' ∧ tn (i + 1) s2.heap ∧ ∀ b ∈ fp, H' b = none) E s1) E s
  done : ∀ (X : Cx), X.prog = P → X.w = w → X.K = K → X.calm = true → ∀ (i : Nat) (pins : List (Addr × Obj)) (s : Shared) (σ : St) (H : Hp) (E : Value → Shared → Prop), Inv X pins σ H s → (∀ b ∈ fp, FpOk X pins H b) → tn i s.heap → J.stop i H →
    wpAny (model P w) X.A (pyNext (.ref it)) (fun r s1 => r = none ∧ Inv X pins σ H s1) E s
  self : ∀ (A : Around) (i : Nat) (s : Shared) (Q : Value → Shared → Prop) (E : Value → Shared → Prop), tn i s.heap → Q (.ref it) s → wpAny (model P w) A (pyIter (.ref it)) Q E s
abbrev TI := St → Hp → (It → Hp → Prop) → Prop
def PIE (X : Cx) (pins : List (Addr × Obj)) (σ : St) (tg : Expr) (R : It → Hp → Prop) (itv : Value) (s2 : Shared) : Prop :=
  ∃ (it : Addr) (fp : List Addr) (tn : Nat → Heap → Prop) (J : It) (H' : Hp), itv = .ref it ∧ Inv X pins σ H' s2 ∧ Turn X.prog X.w X.K tg J fp it tn ∧ tn 0 s2.heap ∧ (∀ b ∈ fp, FpOk X pins H' b) ∧ R J H'
def PI (X : Cx) (tg iter : Expr) (wi : TI) : Prop :=
  ∀ (pins : List (Addr × Obj)) (s : Shared) (σ : St) (H : Hp) (R : It → Hp → Prop), Inv X pins σ H s → wi σ H R →
    wpAny (model X.prog X.w) X.A (eval iter X.env) (fun v s1 => wpAny (model X.prog X.w) X.A (pyIter v) (PIE X pins σ tg R) X.xe s1) X.xe s
theorem go_of {M : Model} {A : Around} {E : Value → Shared → Prop} {s : Shared} {tg : Expr} {it : Addr} {u : Value} {o : Obj} {n : String} {vs : Array Value} {Q : Unit → Shared → Prop} (ho : s.heap.get? it = some o) (hc : o.cls = .type n) (hd : o.data = .fields vs)
    (hn : ["enumerate", "zip", "dict_itemiterator", "dict_reverseitemiterator", "odict_iterator", "itertools.zip_longest", "itertools.pairwise"].contains n = false) (hQ : Q () s) : wpAny M A (letOwnedTupleGo tg (.ref it) u) Q E s := by
  unfold letOwnedTupleGo
  cases tg <;> first
    | exact wpAny_pure hQ
    | (cases u <;> first
        | exact wpAny_pure hQ
        | (refine wpAny_bind (wpAny_load ho ?_)
           rw [hc, hd]
           show wpAny M A (if (["enumerate", "zip", "dict_itemiterator", "dict_reverseitemiterator", "odict_iterator", "itertools.zip_longest", "itertools.pairwise"].contains n && vs[0]? == some (rawInt _)) = true then _ else _) Q E s
           rw [if_neg (by intro h; rw [hn, Bool.false_and] at h; cases h)]
           exact wpAny_pure hQ))
def Itl (K : PySem.W.Frag) (a : Addr) : It :=
  ⟨fun i H => ∃ xs x, SqL K H a xs ∧ xs[i]? = some x, fun i H x H' => H' = H ∧ ∀ xs, SqL K H a xs → xs[i]? = some x, fun i H => ∃ xs, SqL K H a xs ∧ xs.length ≤ i⟩
def Itt (K : PySem.W.Frag) (a : Addr) : It :=
  ⟨fun i H => ∃ xs x, SqT K H a xs ∧ xs[i]? = some x, fun i H x H' => H' = H ∧ ∀ xs, SqT K H a xs → xs[i]? = some x, fun i H => ∃ xs, SqT K H a xs ∧ xs.length ≤ i⟩
def Itr (lo : Int) (n : Nat) : It := ⟨fun i _ => i < n, fun i H x H' => H' = H ∧ x = .int (lo + i), fun i _ => n ≤ i⟩
theorem turn_list {P : Program} {w : World} {K : PySem.W.Frag} {tg : Expr} (a it : Addr) : Turn P w K tg (Itl K a) [it] it (fun i h => h.IsListIter it a i) where
  mem := by simp
  obj := fun i h st b hb => by
    have e : b = it := by simpa using hb
    subst e
    obtain ⟨o, e, c, d⟩ := st
    exact ⟨o, e, fun v z => by rw [d] at z; cases z⟩
  keep := fun i h h' st k => st.at fun o e => k it (by simp) o e
  item := by
    intro X hP hw hK hc i pins s σ H E I hf st hg
    subst hP hw hK
    obtain ⟨xs, x, hq, hx⟩ := hg
    obtain ⟨its, rv, p, hz⟩ := I.list hq
    obtain ⟨u, hu, ru⟩ := rv.get hx
    obtain ⟨f0, f1, f2, f3, f4, f5⟩ := hf it (by simp)
    refine wpAny_pyNext_list_item st p.isList (x := u) (by simpa using hu) fun h' st' sb => ?_
    have I1 : Inv X pins σ H { s with heap := h' } := I.turned (t' := s.toks) (fun b o hb e => (sb.2 b hb).trans e) f0 f1 f3 f4 f5
    obtain ⟨o, e, c, d⟩ := id st'
    exact ⟨u, rfl, go_of (s := { s with heap := h' }) e c d (by decide) ⟨x, H, I1, ru, ⟨rfl, fun ys hy => by rw [I.list_inj hy hq]; exact hx⟩, st', fun b hb => (hf b hb).1⟩⟩
  done := by
    intro X hP hw hK hc i pins s σ H E I hf st hg
    subst hP hw hK
    obtain ⟨xs, hq, hx⟩ := hg
    obtain ⟨its, rv, p, hz⟩ := I.list hq
    obtain ⟨f0, f1, f2, f3, f4, f5⟩ := hf it (by simp)
    have hl := rv.length
    exact wpAny_pyNext_list_end (I.ok.hd hc) st p.isList (by simp; omega) fun h' eb => ⟨rfl, I.turned (t' := s.toks) (fun b o hb e => eb b o hb e) f0 f1 f3 f4 f5⟩
  self := fun _ _ _ _ _ st h => wpAny_pyIter_listiter st h
theorem turn_tuple {P : Program} {w : World} {K : PySem.W.Frag} {tg : Expr} (a it : Addr) : Turn P w K tg (Itt K a) [it] it (fun i h => h.IsTupleIter it a i) where
  mem := by simp
  obj := fun i h st b hb => by
    have e : b = it := by simpa using hb
    subst e
    obtain ⟨o, e, c, d⟩ := st
    exact ⟨o, e, fun v z => by rw [d] at z; cases z⟩
  keep := fun i h h' st k => st.at fun o e => k it (by simp) o e
  item := by
    intro X hP hw hK hc i pins s σ H E I hf st hg
    subst hP hw hK
    obtain ⟨xs, x, hq, hx⟩ := hg
    obtain ⟨its, rv, p, hz⟩ := I.tuple hq
    obtain ⟨u, hu, ru⟩ := rv.get hx
    obtain ⟨f0, f1, f2, f3, f4, f5⟩ := hf it (by simp)
    refine wpAny_pyNext_tuple_item st (show s.heap.IsTuple a its.toArray from p) (x := u) (by simpa using hu) fun h' st' sb => ?_
    have I1 : Inv X pins σ H { s with heap := h' } := I.turned (t' := s.toks) (fun b o hb e => (sb.2 b hb).trans e) f0 f1 f3 f4 f5
    obtain ⟨o, e, c, d⟩ := id st'
    exact ⟨u, rfl, go_of (s := { s with heap := h' }) e c d (by decide) ⟨x, H, I1, ru, ⟨rfl, fun ys hy => by rw [I.tuple_inj hy hq]; exact hx⟩, st', fun b hb => (hf b hb).1⟩⟩
  done := by
    intro X hP hw hK hc i pins s σ H E I hf st hg
    subst hP hw hK
    obtain ⟨xs, hq, hx⟩ := hg
    obtain ⟨its, rv, p, hz⟩ := I.tuple hq
    obtain ⟨f0, f1, f2, f3, f4, f5⟩ := hf it (by simp)
    have hl := rv.length
    exact wpAny_pyNext_tuple_end (I.ok.hd hc) st (show s.heap.IsTuple a its.toArray from p) (by simp; omega) fun h' eb => ⟨rfl, I.turned (t' := s.toks) (fun b o hb e => eb b o hb e) f0 f1 f3 f4 f5⟩
  self := fun _ _ _ _ _ st h => wpAny_pyIter_tupleiter st h
theorem turn_range {P : Program} {w : World} {K : PySem.W.Frag} {tg : Expr} (it : Addr) (lo : Int) (n : Nat) : Turn P w K tg (Itr lo n) [it] it (fun i h => IsRangeIter h it (lo + (i : Nat) * 1) ((n : Int) - (i : Nat)) 1) where
  mem := by simp
  obj := fun i h st b hb => by
    have e : b = it := by simpa using hb
    subst e
    exact ⟨_, st, fun v z => by
      have z' : Data.fields _ = Data.cell v := z
      cases z'⟩
  keep := fun i h h' st k => k it (by simp) _ st
  item := by
    intro X hP hw hK hc i pins s σ H E I hf st hg
    subst hP hw hK
    obtain ⟨f0, f1, f2, f3, f4, f5⟩ := hf it (by simp)
    have W := Walks.range (prog := X.prog) (w := X.w) (I.ok.hd hc) it lo 1 n
    refine W.item i s _ _ hg st fun v h' tk hv st' kk => ?_
    obtain ⟨t, rfl⟩ := hv
    have I1 : Inv X pins σ H { s with heap := h', toks := tk } := I.turned (fun b o hb e => kk b o (by simpa using hb) e) f0 f1 f3 f4 f5
    refine ⟨_, rfl, go_of (s := { s with heap := h', toks := tk }) (n := "range_iterator") st' rfl rfl (by decide) ⟨.int (lo + i), H, I1, ⟨t, ?_⟩, ⟨rfl, rfl⟩, st', fun b hb => (hf b hb).1⟩⟩
    rw [Int.mul_one]
  done := by
    intro X hP hw hK hc i pins s σ H E I hf st hg
    subst hP hw hK
    obtain ⟨f0, f1, f2, f3, f4, f5⟩ := hf it (by simp)
    exact wpAny_pyNext_range_end (I.ok.hd hc) st (by have : n ≤ i := hg; omega) fun h' eb => ⟨rfl, I.turned (t' := s.toks) (fun b o hb e => eb b o hb e) f0 f1 f3 f4 f5⟩
  self := fun _ _ _ _ _ st h => wpAny_pyIter_rangeiter st h
end L2
namespace L2
open PySem PySem.Spec PyProof.Rows
section
variable {X : Cx} {tg : Expr}
def iList (K : PySem.W.Frag) (tl : TE) : TI := fun σ H R => tl σ H fun x H1 => ∃ a, x = .ref a ∧ (∃ xs, SqL K H1 a xs) ∧ R (Itl K a) H1
def iTup (K : PySem.W.Frag) (tl : TE) : TI := fun σ H R => tl σ H fun x H1 => ∃ a, x = .ref a ∧ (∃ xs, SqT K H1 a xs) ∧ R (Itt K a) H1
theorem pi_list {l : Expr} {tl : TE} (hl : PE X l tl) : PI X tg l (iList X.K tl) := by
  intro pins s σ H R I h
  refine thn (hl pins s σ H _ I h) fun v s1 ⟨x, H1, I1, r1, q1⟩ => ?_
  obtain ⟨a, e, ⟨xs, hq⟩, q⟩ := q1
  subst e
  cases r1
  obtain ⟨its, rv, p, hz⟩ := I1.list hq
  refine wpAny_pyIter_list p.isList ?_
  refine ⟨s1.heap.objs.size, [s1.heap.objs.size], _, _, H1, rfl, I1.kept (t' := s1.toks) fun b o e => Heap.get?_push_of_some _ e, turn_list a _, ⟨_, Heap.get?_push_size _ rfl, rfl, rfl⟩, fun b hb => ?_, q⟩
  have e : b = s1.heap.objs.size := by simpa using hb
  subst e
  exact I1.fpOk (Nat.le_refl _) (I1.hok.fresh (Nat.le_refl _))
theorem pi_tup {l : Expr} {tl : TE} (hl : PE X l tl) : PI X tg l (iTup X.K tl) := by
  intro pins s σ H R I h
  refine thn (hl pins s σ H _ I h) fun v s1 ⟨x, H1, I1, r1, q1⟩ => ?_
  obtain ⟨a, e, ⟨xs, hq⟩, q⟩ := q1
  subst e
  cases r1
  obtain ⟨its, rv, p, hz⟩ := I1.tuple hq
  refine wpAny_pyIter_tuple (show s1.heap.IsTuple a its.toArray from p) ?_
  refine ⟨s1.heap.objs.size, [s1.heap.objs.size], _, _, H1, rfl, I1.kept (t' := s1.toks) fun b o e => Heap.get?_push_of_some _ e, turn_tuple a _, ⟨_, Heap.get?_push_size _ rfl, rfl, rfl⟩, fun b hb => ?_, q⟩
  have e : b = s1.heap.objs.size := by simpa using hb
  subst e
  exact I1.fpOk (Nat.le_refl _) (I1.hok.fresh (Nat.le_refl _))
theorem range_it {pins : List (Addr × Obj)} {σ : St} {H : Hp} {s : Shared} {R : It → Hp → Prop} {E : Value → Shared → Prop} {lo hi : Int} {t u v : Tok} {tk : Nat} (I : Inv X pins σ H s) (h1 : -(2 ^ 62) ≤ lo) (h2 : lo < 2 ^ 62) (h3 : -(2 ^ 62) ≤ hi) (h4 : hi < 2 ^ 62)
    (q : R (Itr lo (hi - lo).toNat) H) : wpAny (model X.prog X.w) X.A (pyIter (.ref s.heap.objs.size)) (PIE X pins σ tg R) E { s with heap := s.heap.push { cls := .type "range", data := .fields #[.int lo t, .int hi u, .int 1 v] }, toks := tk } := by
  refine wpAny_pyIter_range (IsRange.new ..) (small_one h1 h2 h3 h4) ?_
  have I1 : Inv X pins σ H { s with heap := s.heap.push { cls := .type "range", data := .fields #[.int lo t, .int hi u, .int 1 v] }, toks := tk } := I.kept fun b o e => Heap.get?_push_of_some _ e
  refine ⟨(s.heap.push { cls := .type "range", data := .fields #[.int lo t, .int hi u, .int 1 v] }).objs.size, [(s.heap.push { cls := .type "range", data := .fields #[.int lo t, .int hi u, .int 1 v] }).objs.size], _, _, H, rfl,
    I1.kept (t' := tk) fun b o e => Heap.get?_push_of_some _ e, turn_range _ lo (hi - lo).toNat, ?_, fun b hb => ?_, q⟩
  · have e1 : lo + ((0 : Nat) : Int) * 1 = lo := by simp
    have e2 : (((hi - lo).toNat : Nat) : Int) - ((0 : Nat) : Int) = Builtin.Range.rangeSize lo hi 1 := by rw [rangeSize_one]; split <;> omega
    show IsRangeIter _ _ (lo + ((0 : Nat) : Int) * 1) ((((hi - lo).toNat : Nat) : Int) - ((0 : Nat) : Int)) 1
    rw [e1, e2]
    exact Heap.get?_push_size _ rfl
  · have e : b = (s.heap.push { cls := .type "range", data := .fields #[.int lo t, .int hi u, .int 1 v] }).objs.size := by simpa using hb
    subst e
    exact I1.fpOk (Nat.le_refl _) (I1.hok.fresh (Nat.le_refl _))
def iRng1 (ta : TA) : TI := fun σ H R => ta σ H fun vs H1 => ∃ j : Int, vs = [.int j] ∧ -(2 ^ 62) ≤ j ∧ j < 2 ^ 62 ∧ R (Itr 0 j.toNat) H1
def iRng2 (ta : TA) : TI := fun σ H R => ta σ H fun vs H1 => ∃ i j : Int, vs = [.int i, .int j] ∧ (-(2 ^ 62) ≤ i ∧ i < 2 ^ 62 ∧ -(2 ^ 62) ≤ j ∧ j < 2 ^ 62) ∧ R (Itr i (j - i).toNat) H1
theorem pi_range1 {a : Expr} {ta : TA} {p pos : Pos} (hg : Gl X "range") (hm : X.mg "range" = none) (ha : PA X [a] ta) (hs : starEach [a] X.env = [(false, eval a X.env)] := by rfl) : PI X tg (.Call (.Name "range" p) [a] [] pos) (iRng1 ta) := by
  intro pins s σ H R I h
  refine Call_ (ld_blt I hg hm boot_range (PyProof.Rows.callWith_type1 (thn (ha pos pins s σ H _ I h) fun us s1 ⟨vs, H1, I1, r1, q1⟩ => ?_) hs rfl))
  obtain ⟨j, e, q1, q2, q⟩ := q1
  subst e
  cases r1 with
  | cons r rr =>
    cases rr
    obtain ⟨t, rfl⟩ := r
    exact call_range_1 (range_it I1 (by omega) (by omega) q1 q2 (by simpa using q))
def tFor (wi : TI) (g : TG) (tb : TS) : TS := fun D σ H => wi σ H fun J H1 => ∃ W : Nat → Nat → St → Hp → Prop, (∃ m, W 0 m σ H1) ∧ ∀ i m σ H, W i m σ H →
  (J.stop i H ∧ D.nx σ H) ∨ (J.go i H ∧ ∃ N : St → Hp → Prop, (∀ σ' H', N σ' H' → ∃ m', m' < m ∧ W (i + 1) m' σ' H') ∧ ∀ x H', J.yld i H x H' → g x σ H' fun σ2 H2 => tb { D with nx := N, ct := N, bk := D.nx } σ2 H2)
def pinsAt (fp : List Addr) (h : Heap) : List (Addr × Obj) := fp.filterMap fun b => (h.get? b).map fun o => (b, o)
theorem mem_pinsAt {fp : List Addr} {h : Heap} {b : Addr} {o : Obj} (hb : b ∈ fp) (e : h.get? b = some o) : (b, o) ∈ pinsAt fp h := List.mem_filterMap.mpr ⟨b, hb, by rw [e]; rfl⟩
theorem of_pinsAt {fp : List Addr} {h : Heap} {p : Addr × Obj} (hp : p ∈ pinsAt fp h) : p.1 ∈ fp ∧ h.get? p.1 = some p.2 := by
  obtain ⟨b, hb, e⟩ := List.mem_filterMap.mp hp
  cases q : h.get? b with
  | none => rw [q] at e; cases e
  | some o =>
    rw [q] at e
    have e' : (b, o) = p := Option.some.inj e
    subst e'
    exact ⟨hb, q⟩
theorem Inv.pinned {pins : List (Addr × Obj)} {σ : St} {H : Hp} {s : Shared} {fp : List Addr} (I : Inv X pins σ H s) (hf : ∀ b ∈ fp, FpOk X pins H b) (ho : ∀ b ∈ fp, ∃ o, s.heap.get? b = some o ∧ ∀ v, o.data ≠ .cell v) : Inv X (pins ++ pinsAt fp s.heap) σ H s :=
  I.pins_of fun p hp => (List.mem_append.mp hp).elim (fun z => I.pin p (List.mem_append_right _ z)) fun z => by
    obtain ⟨hb, e⟩ := of_pinsAt z
    obtain ⟨f0, f1, f2, _⟩ := hf p.1 hb
    obtain ⟨o, e', d⟩ := ho p.1 hb
    rw [e] at e'; cases e'
    exact ⟨e, f0, f1, f2, d⟩
theorem Inv.unpinned {pins pl : List (Addr × Obj)} {σ : St} {H : Hp} {s : Shared} (I : Inv X (pins ++ pl) σ H s) : Inv X pins σ H s := I.pins_of fun p hp => I.pin p (List.mem_append_right _ (List.mem_append_left _ hp))
theorem ps_for {iter : Expr} {body : List Stmt} {wi : TI} {g : TG} {tb : TS} {pos : Pos} (hp : PassesOwn (model X.prog X.w) X.A X.env X.xe) (hc : X.calm = true) (hi : PI X tg iter wi) (hg : PG X tg g) (hb : PSs X body tb)
    (hs : ∀ x, foldedSetIterable iter X.env x = pure x := by intro _; rfl) : PS X (.For tg iter body [] pos) (tFor wi g tb) := by
  intro pins s σ H D I h
  refine wpAny_For (thn (hi pins s σ H _ I h) fun v s1 h1 => thn h1 fun itv s2 h2 => ?_) hs
  obtain ⟨it, fp, tn, J, H2, e, I2, T, st2, f2, W, ⟨m0, w0⟩, turn⟩ := h2
  subst e
  have stat : ∀ {H' : Hp}, (∀ b ∈ fp, H' b = none) → ∀ b ∈ fp, FpOk X pins H' b := fun hn b hb => ⟨hn b hb, (f2 b hb).2⟩
  refine codeAny_forLoop_any (fun n s' => ∃ i σ' H', Inv X pins σ' H' s' ∧ tn i s'.heap ∧ (∀ b ∈ fp, H' b = none) ∧ W i n σ' H') ?_ m0 ⟨0, σ, H2, I2, st2, fun b hb => (f2 b hb).1, w0⟩
  rintro n s3 ⟨i, σ3, H3, I3, st3, fr3, w3⟩
  rcases turn i n σ3 H3 w3 with ⟨stop, qn⟩ | ⟨go, N, hN, step⟩
  · refine wpAny_passesOwn hp (thn (T.done X rfl rfl rfl hc i pins s3 σ3 H3 X.xe I3 (stat fr3) st3 stop) fun r s4 ⟨hr, I4⟩ => ?_)
    subst hr
    exact wpAny_execs_nil ⟨σ3, H3, I4, qn⟩
  · refine wpAny_passesOwn hp (thn (T.item X rfl rfl rfl hc i pins s3 σ3 H3 X.xe I3 (stat fr3) st3 go) fun r s4 ⟨u, hr, h4⟩ => ?_)
    subst hr
    refine wpAny_passesOwn hp (thn h4 fun _ s5 ⟨x, H5, I5, r5, y5, st5, fr5⟩ => ?_)
    have I5' := I5.pinned (stat fr5) (T.obj _ _ st5)
    refine wpAny_passesOwn hp (thn (hg _ s5 σ3 H5 x u _ I5' r5 (step x H5 y5)) fun _ s6 ⟨σ6, H6, I6, q6⟩ => ?_)
    refine wpAny_passesOwn hp (thn (hb _ s6 σ6 H6 _ I6 q6) fun f s7 q7 => ?_)
    have again : ∀ {σ7 : St} {H7 : Hp}, Inv X (pins ++ pinsAt fp s5.heap) σ7 H7 s7 → N σ7 H7 → ∃ m, m < n ∧ ∃ i σ' H', Inv X pins σ' H' s7 ∧ tn i s7.heap ∧ (∀ b ∈ fp, H' b = none) ∧ W i m σ' H' := fun {σ7 H7} I7 n7 => by
      obtain ⟨m', hm, w7⟩ := hN σ7 H7 n7
      refine ⟨m', hm, i + 1, σ7, H7, I7.unpinned, T.keep _ _ _ st5 fun b hb o e => (I7.pin (b, o) (List.mem_append_right _ (List.mem_append_right _ (mem_pinsAt hb e)))).1, fun b hb => ?_, w7⟩
      obtain ⟨o, e, d⟩ := T.obj _ _ st5 b hb
      exact (I7.pin (b, o) (List.mem_append_right _ (List.mem_append_right _ (mem_pinsAt hb e)))).2.1
    cases f with
    | next => obtain ⟨σ7, H7, I7, n7⟩ := q7; exact again I7 n7
    | cont => obtain ⟨σ7, H7, I7, n7⟩ := q7; exact again I7 n7
    | brk => obtain ⟨σ7, H7, I7, q7⟩ := q7; exact ⟨σ7, H7, I7.unpinned, q7⟩
    | ret v => obtain ⟨x7, σ7, H7, I7, r7, q7⟩ := q7; exact ⟨x7, σ7, H7, I7.unpinned, r7, q7⟩
end
theorem for_list {K : PySem.W.Frag} {a : Addr} {xs : List V} {g : TG} {tb : TS} {D : Ends} {σ : St} {H : Hp} (Pv : Nat → St → Hp → Prop) (h0 : Pv 0 σ H) (hl : ∀ i σ H, i ≤ xs.length → Pv i σ H → SqL K H a xs)
    (hs : ∀ i x σ H, xs[i]? = some x → Pv i σ H → g x σ H fun σ2 H2 => tb { D with nx := Pv (i + 1), ct := Pv (i + 1), bk := D.nx } σ2 H2) (hd : ∀ σ H, Pv xs.length σ H → D.nx σ H) :
    ∃ W : Nat → Nat → St → Hp → Prop, (∃ m, W 0 m σ H) ∧ ∀ i m σ H, W i m σ H →
      ((Itl K a).stop i H ∧ D.nx σ H) ∨ ((Itl K a).go i H ∧ ∃ N : St → Hp → Prop, (∀ σ' H', N σ' H' → ∃ m', m' < m ∧ W (i + 1) m' σ' H') ∧ ∀ x H', (Itl K a).yld i H x H' → g x σ H' fun σ2 H2 => tb { D with nx := N, ct := N, bk := D.nx } σ2 H2) := by
  refine ⟨fun i m σ H => m = xs.length - i ∧ i ≤ xs.length ∧ Pv i σ H, ⟨xs.length, by simp, Nat.zero_le _, h0⟩, ?_⟩
  rintro i m σ H ⟨rfl, hi, p⟩
  have q := hl i σ H hi p
  by_cases hlt : i < xs.length
  · refine .inr ⟨⟨xs, xs[i], q, by simp [hlt]⟩, Pv (i + 1), fun σ' H' p' => ⟨xs.length - (i + 1), by omega, rfl, hlt, p'⟩, fun x H' y => ?_⟩
    obtain ⟨e, y⟩ := y
    subst e
    exact hs i x σ _ (y xs q) p
  · have e : i = xs.length := by omega
    subst e
    exact .inl ⟨⟨xs, q, Nat.le_refl _⟩, hd σ H p⟩
theorem for_tup {K : PySem.W.Frag} {a : Addr} {xs : List V} {g : TG} {tb : TS} {D : Ends} {σ : St} {H : Hp} (Pv : Nat → St → Hp → Prop) (h0 : Pv 0 σ H) (hl : ∀ i σ H, i ≤ xs.length → Pv i σ H → SqT K H a xs)
    (hs : ∀ i x σ H, xs[i]? = some x → Pv i σ H → g x σ H fun σ2 H2 => tb { D with nx := Pv (i + 1), ct := Pv (i + 1), bk := D.nx } σ2 H2) (hd : ∀ σ H, Pv xs.length σ H → D.nx σ H) :
    ∃ W : Nat → Nat → St → Hp → Prop, (∃ m, W 0 m σ H) ∧ ∀ i m σ H, W i m σ H →
      ((Itt K a).stop i H ∧ D.nx σ H) ∨ ((Itt K a).go i H ∧ ∃ N : St → Hp → Prop, (∀ σ' H', N σ' H' → ∃ m', m' < m ∧ W (i + 1) m' σ' H') ∧ ∀ x H', (Itt K a).yld i H x H' → g x σ H' fun σ2 H2 => tb { D with nx := N, ct := N, bk := D.nx } σ2 H2) := by
  refine ⟨fun i m σ H => m = xs.length - i ∧ i ≤ xs.length ∧ Pv i σ H, ⟨xs.length, by simp, Nat.zero_le _, h0⟩, ?_⟩
  rintro i m σ H ⟨rfl, hi, p⟩
  have q := hl i σ H hi p
  by_cases hlt : i < xs.length
  · refine .inr ⟨⟨xs, xs[i], q, by simp [hlt]⟩, Pv (i + 1), fun σ' H' p' => ⟨xs.length - (i + 1), by omega, rfl, hlt, p'⟩, fun x H' y => ?_⟩
    obtain ⟨e, y⟩ := y
    subst e
    exact hs i x σ _ (y xs q) p
  · have e : i = xs.length := by omega
    subst e
    exact .inl ⟨⟨xs, q, Nat.le_refl _⟩, hd σ H p⟩
theorem for_range {lo : Int} {n : Nat} {g : TG} {tb : TS} {D : Ends} {σ : St} {H : Hp} (Pv : Nat → St → Hp → Prop) (h0 : Pv 0 σ H)
    (hs : ∀ i σ H, i < n → Pv i σ H → g (.int (lo + i)) σ H fun σ2 H2 => tb { D with nx := Pv (i + 1), ct := Pv (i + 1), bk := D.nx } σ2 H2) (hd : ∀ σ H, Pv n σ H → D.nx σ H) :
    ∃ W : Nat → Nat → St → Hp → Prop, (∃ m, W 0 m σ H) ∧ ∀ i m σ H, W i m σ H →
      ((Itr lo n).stop i H ∧ D.nx σ H) ∨ ((Itr lo n).go i H ∧ ∃ N : St → Hp → Prop, (∀ σ' H', N σ' H' → ∃ m', m' < m ∧ W (i + 1) m' σ' H') ∧ ∀ x H', (Itr lo n).yld i H x H' → g x σ H' fun σ2 H2 => tb { D with nx := N, ct := N, bk := D.nx } σ2 H2) := by
  refine ⟨fun i m σ H => m = n - i ∧ i ≤ n ∧ Pv i σ H, ⟨n, by simp, Nat.zero_le _, h0⟩, ?_⟩
  rintro i m σ H ⟨rfl, hi, p⟩
  by_cases hlt : i < n
  · refine .inr ⟨hlt, Pv (i + 1), fun σ' H' p' => ⟨n - (i + 1), by omega, rfl, hlt, p'⟩, fun x H' y => ?_⟩
    obtain ⟨e, y⟩ := y
    subst e y
    exact hs i σ _ hlt p
  · have e : i = n := by omega
    subst e
    exact .inl ⟨Nat.le_refl _, hd σ H p⟩
end L2
namespace L2
open PySem PySem.Spec PyProof.Rows
abbrev R2 := V → V → Hp → VK → Prop
def OpR (X : Cx) (f : Value → Value → Sem Value) (r : R2) : Prop :=
  ∀ (pins : List (Addr × Obj)) (s : Shared) (σ : St) (H : Hp) (x y : V) (v u : Value) (Q : VK), Inv X pins σ H s → RelV x v → RelV y u → r x y H Q →
    wpAny (model X.prog X.w) X.A (f v u) (EP X pins σ Q) X.xe s
def UnR (X : Cx) (f : Value → Sem Value) (r : V → Hp → VK → Prop) : Prop :=
  ∀ (pins : List (Addr × Obj)) (s : Shared) (σ : St) (H : Hp) (x : V) (v : Value) (Q : VK), Inv X pins σ H s → RelV x v → r x H Q →
    wpAny (model X.prog X.w) X.A (f v) (EP X pins σ Q) X.xe s
def CallR (X : Cx) (f : Value) (r : List V → Hp → VK → Prop) : Prop :=
  ∀ (pins : List (Addr × Obj)) (s : Shared) (σ : St) (H : Hp) (xs : List V) (us : List Value) (Q : VK), Inv X pins σ H s → Vals xs us → r xs H Q →
    wpAny (model X.prog X.w) X.A (call f us) (EP X pins σ Q) X.xe s
def TruR (X : Cx) (r : V → Hp → (Bool → Hp → Prop) → Prop) : Prop :=
  ∀ (pins : List (Addr × Obj)) (s : Shared) (σ : St) (H : Hp) (x : V) (v : Value) (Q : Bool → Hp → Prop), Inv X pins σ H s → RelV x v → r x H Q →
    wpAny (model X.prog X.w) X.A (truthy v) (TP X pins σ Q) X.xe s
def tOp (r : R2) (ta tb : TE) : TE := fun σ H Q => ta σ H fun x H1 => tb σ H1 fun y H2 => r x y H2 Q
def tUn (r : V → Hp → VK → Prop) (ta : TE) : TE := fun σ H Q => ta σ H fun x H1 => r x H1 Q
def rI (C : Int → Int → Prop) (g : Int → Int → V) : R2 := fun x y H Q => ∃ i j, x = .int i ∧ y = .int j ∧ C i j ∧ Q (g i j) H
def rI0 (g : Int → Int → V) : R2 := fun x y H Q => ∃ i j, x = .int i ∧ y = .int j ∧ Q (g i j) H
def rU (g : Int → V) : V → Hp → VK → Prop := fun x H Q => ∃ i, x = .int i ∧ Q (g i) H
section
variable {X : Cx} {a b c : Expr} {ta tb tc : TE} {pos : Pos}
theorem binT (ha : PE X a ta) (hb : PE X b tb) {pins : List (Addr × Obj)} {s : Shared} {σ : St} {H : Hp} {R : V → V → Hp → Prop} (I : Inv X pins σ H s)
    (h : ta σ H fun x H1 => tb σ H1 fun y H2 => R x y H2) {Q : Value → Shared → Prop} {f : Value → Value → Sem Value}
    (hf : ∀ v u s2 x y H2, Inv X pins σ H2 s2 → RelV x v → RelV y u → R x y H2 → wpAny (model X.prog X.w) X.A (f v u) Q X.xe s2) :
    wpAny (model X.prog X.w) X.A (eval a X.env) (fun v s₁ => wpAny (model X.prog X.w) X.A (eval b X.env) (fun u s₂ => wpAny (model X.prog X.w) X.A (f v u) Q X.xe s₂) X.xe s₁) X.xe s := by
  refine thn (ha pins s σ H _ I h) fun v s1 ⟨x, H1, I1, r1, q1⟩ => ?_
  refine thn (hb pins s1 σ H1 _ I1 q1) fun u s2 ⟨y, H2, I2, r2, q2⟩ => ?_
  exact hf v u s2 x y H2 I2 r1 r2 q2
theorem pe_op {op : Operator} {r : R2} (ho : OpR X (binaryOp op) r) (ha : PE X a ta) (hb : PE X b tb) : PE X (.BinOp a op b pos) (tOp r ta tb) := by
  intro pins s σ H Q I h
  exact wpAny_BinOp (binT ha hb I h fun v u s2 x y H2 I2 rx ry q => ho pins s2 σ H2 x y v u Q I2 rx ry q)
theorem pe_un {op : UnaryOp} {r : V → Hp → VK → Prop} (ho : UnR X (unaryOp op) r) (ha : PE X a ta) : PE X (.UnaryOp op a pos) (tUn r ta) := by
  intro pins s σ H Q I h
  exact UnaryOp_ (thn (ha pins s σ H _ I h) fun v s1 ⟨x, H1, I1, r1, q1⟩ => ho pins s1 σ H1 x v Q I1 r1 q1)
theorem opI {f : Value → Value → Sem Value} {C : Int → Int → Prop} {g : Int → Int → Int}
    (rule : ∀ (i j : Int) (t u : Tok) (s : Shared) (Q : Value → Shared → Prop) (E : Value → Shared → Prop), C i j → Q (.int (g i j) s.toks) { s with toks := s.toks + 1 } → wpAny (model X.prog X.w) X.A (f (.int i t) (.int j u)) Q E s) :
    OpR X f (rI C fun i j => .int (g i j)) := by
  intro pins s σ H x y v u Q I rx ry h
  obtain ⟨i, j, rfl, rfl, hc, q⟩ := h
  obtain ⟨t, rfl⟩ := rx
  obtain ⟨t', rfl⟩ := ry
  exact rule i j t t' s _ _ hc ⟨.int (g i j), H, I.tok _, ⟨_, rfl⟩, q⟩
theorem opI0 {f : Value → Value → Sem Value} {g : Int → Int → Int}
    (rule : ∀ (i j : Int) (t u : Tok) (s : Shared) (Q : Value → Shared → Prop) (E : Value → Shared → Prop), Q (.int (g i j) s.toks) { s with toks := s.toks + 1 } → wpAny (model X.prog X.w) X.A (f (.int i t) (.int j u)) Q E s) :
    OpR X f (rI0 fun i j => .int (g i j)) := by
  intro pins s σ H x y v u Q I rx ry h
  obtain ⟨i, j, rfl, rfl, q⟩ := h
  obtain ⟨t, rfl⟩ := rx
  obtain ⟨t', rfl⟩ := ry
  exact rule i j t t' s _ _ ⟨.int (g i j), H, I.tok _, ⟨_, rfl⟩, q⟩
theorem opB0 {f : Value → Value → Sem Value} {g : Int → Int → Bool}
    (rule : ∀ (i j : Int) (t u : Tok) (s : Shared) (Q : Value → Shared → Prop) (E : Value → Shared → Prop), Q (.bool (g i j)) s → wpAny (model X.prog X.w) X.A (f (.int i t) (.int j u)) Q E s) :
    OpR X f (rI0 fun i j => .bl (g i j)) := by
  intro pins s σ H x y v u Q I rx ry h
  obtain ⟨i, j, rfl, rfl, q⟩ := h
  obtain ⟨t, rfl⟩ := rx
  obtain ⟨t', rfl⟩ := ry
  exact rule i j t t' s _ _ ⟨.bl (g i j), H, I, rfl, q⟩
def CDiv (i j : Int) : Prop := 0 < j ∧ j < 1073741824
def CDivN (i j : Int) : Prop := j ≠ 0 ∧ j.natAbs < 1073741824
def CPow (i j : Int) : Prop := 0 ≤ j ∧ j ≤ 1000000 ∧ i.natAbs < 2 ^ 64
def CMul (i j : Int) : Prop := (-(2 ^ 64) < i ∧ i < 2 ^ 64) ∨ (-(2 ^ 64) < j ∧ j < 2 ^ 64)
theorem CMul.ok {i j : Int} (h : CMul i j) : IntMulOk i j := by
  rcases h with ⟨h1, h2⟩ | ⟨h1, h2⟩
  · exact .of_left (intBits_le_64 h1 h2)
  · exact .of_right (intBits_le_64 h1 h2)
theorem op_add : OpR X (binaryOp .Add) (rI0 fun i j => .int (i + j)) := opI0 fun _ _ _ _ _ _ _ q => add_int q
theorem op_sub : OpR X (binaryOp .Sub) (rI0 fun i j => .int (i - j)) := opI0 fun _ _ _ _ _ _ _ q => sub_int q
theorem op_mul : OpR X (binaryOp .Mult) (rI CMul fun i j => .int (i * j)) := opI fun _ _ _ _ _ _ _ hc q => mul_int q hc.ok
theorem op_fdiv : OpR X (binaryOp .FloorDiv) (rI CDiv fun i j => .int (i / j)) := opI fun i j _ _ _ _ _ hc q => by
  have h1 : (0 : Int) < j := hc.1
  have h2 : j < 1073741824 := hc.2
  exact floordiv_int (by omega) (by rw [Int.fdiv_eq_ediv_of_nonneg i (by omega)]; exact q) (.inl (PyProof.noPylong_small (by omega)))
theorem op_mod : OpR X (binaryOp .Mod) (rI (fun _ j => 0 < j) fun i j => .int (i % j)) := opI fun i j _ _ _ _ _ hc q => by
  have h1 : (0 : Int) < j := hc
  exact mod_int' (by omega) (by rw [Int.fmod_eq_emod_of_nonneg i (by omega)]; exact q)
theorem op_pow : OpR X (binaryOp .Pow) (rI CPow fun i j => .int (i ^ j.toNat)) := opI fun _ _ _ _ _ _ _ hc q => pow_int_small hc.1 hc.2.1 hc.2.2 q
theorem unI {f : Value → Sem Value} {g : Int → Int}
    (rule : ∀ (i : Int) (t : Tok) (s : Shared) (Q : Value → Shared → Prop) (E : Value → Shared → Prop), Q (.int (g i) s.toks) { s with toks := s.toks + 1 } → wpAny (model X.prog X.w) X.A (f (.int i t)) Q E s) :
    UnR X f (rU fun i => .int (g i)) := by
  intro pins s σ H x v Q I rx h
  obtain ⟨i, rfl, q⟩ := h
  obtain ⟨t, rfl⟩ := rx
  exact rule i t s _ _ ⟨.int (g i), H, I.tok _, ⟨_, rfl⟩, q⟩
theorem un_neg : UnR X (unaryOp .USub) (rU fun i => .int (-i)) := unI fun _ _ _ _ _ q => neg_int q
end
def scal : V → V → Bool
  | .non, .non => true | .non, .int _ => true | .int _, .non => true | .non, .bl _ => true | .bl _, .non => true | .non, .str _ => true | .str _, .non => true
  | .int _, .int _ => true | .bl _, .bl _ => true | .str _, .str _ => true | .byt _, .byt _ => true
  | .int _, .str _ => true | .str _, .int _ => true | .bl _, .str _ => true | .str _, .bl _ => true
  | _, _ => false
def rEq : R2 := fun x y H Q => scal x y = true ∧ Q (.bl (decide (x = y))) H
def rNe : R2 := fun x y H Q => scal x y = true ∧ Q (.bl (!decide (x = y))) H
theorem dec_int {i j : Int} : decide (V.int i = V.int j) = (i == j) := by
  rw [Bool.eq_iff_iff]
  simp
theorem dec_bl {i j : Bool} : decide (V.bl i = V.bl j) = (i == j) := by
  rw [Bool.eq_iff_iff]
  simp
theorem dec_str {i j : Str} : decide (V.str i = V.str j) = (i == j) := by
  rw [Bool.eq_iff_iff]
  simp
theorem dec_byt {i j : Array UInt8} : decide (V.byt i = V.byt j) = (i.toList == j.toList) := by
  rw [Bool.eq_iff_iff]
  cases i
  cases j
  simp
section
variable {X : Cx} {a b c : Expr} {ta tb tc : TE} {pos : Pos}
theorem fin_bl {pins : List (Addr × Obj)} {σ : St} {H : Hp} {s : Shared} {Q : VK} {k k' : Bool} (I : Inv X pins σ H s) (q : Q (.bl k) H) (e : k = k') : EP X pins σ Q (.bool k') s := by
  subst e
  exact ⟨.bl k, H, I, rfl, q⟩
theorem op_eq : OpR X (compareOp .Eq) rEq := by
  intro pins s σ H x y v u Q I rx ry h
  obtain ⟨hs, q⟩ := h
  cases x with
  | non =>
    cases rx
    cases y with
    | non => cases ry; exact PySem.EqNone.eq_none_none (fin_bl I q (by simp))
    | bl j => cases ry; exact PySem.EqNone.eq_none_bool (fin_bl I q (by simp))
    | int j => obtain ⟨t', rfl⟩ := ry; exact PySem.EqNone.eq_none_int (fin_bl I q (by simp))
    | str j => obtain ⟨t', rfl⟩ := ry; exact PySem.EqNone.eq_none_str (fin_bl I q (by simp))
    | _ => exact absurd (show false = true from hs) Bool.false_ne_true
  | bl i =>
    cases rx
    cases y with
    | non => cases ry; exact PySem.EqNone.eq_bool_none (fin_bl I q (by simp))
    | bl j => cases ry; exact eq_bool (fin_bl I q dec_bl)
    | str j => obtain ⟨t', rfl⟩ := ry; exact PySem.EqMixed.eq_bool_str (fin_bl I q (by simp))
    | _ => exact absurd (show false = true from hs) Bool.false_ne_true
  | int i =>
    obtain ⟨t, rfl⟩ := rx
    cases y with
    | non => cases ry; exact PySem.EqNone.eq_int_none (fin_bl I q (by simp))
    | int j => obtain ⟨t', rfl⟩ := ry; exact eq_int (fin_bl I q dec_int)
    | str j => obtain ⟨t', rfl⟩ := ry; exact PySem.EqMixed.eq_int_str (fin_bl I q (by simp))
    | _ => exact absurd (show false = true from hs) Bool.false_ne_true
  | str i =>
    obtain ⟨t, rfl⟩ := rx
    cases y with
    | non => cases ry; exact PySem.EqNone.eq_str_none (fin_bl I q (by simp))
    | bl j => cases ry; exact PySem.EqMixed.eq_str_bool (fin_bl I q (by simp))
    | int j => obtain ⟨t', rfl⟩ := ry; exact PySem.EqMixed.eq_str_int (fin_bl I q (by simp))
    | str j => obtain ⟨t', rfl⟩ := ry; exact eq_str (fin_bl I q dec_str)
    | _ => exact absurd (show false = true from hs) Bool.false_ne_true
  | byt i =>
    obtain ⟨t, rfl⟩ := rx
    cases y with
    | byt j => obtain ⟨t', rfl⟩ := ry; exact PySem.W.eq_bytes (fin_bl I q dec_byt)
    | _ => exact absurd (show false = true from hs) Bool.false_ne_true
  | _ => cases y <;> exact absurd (show false = true from hs) Bool.false_ne_true
theorem op_ne : OpR X (compareOp .NotEq) rNe := by
  intro pins s σ H x y v u Q I rx ry h
  obtain ⟨hs, q⟩ := h
  cases x with
  | non =>
    cases rx
    cases y with
    | non => cases ry; exact PySem.EqNone.ne_none_none (fin_bl I q (by simp))
    | bl j => cases ry; exact PySem.EqNone.ne_none_bool (fin_bl I q (by simp))
    | int j => obtain ⟨t', rfl⟩ := ry; exact PySem.EqNone.ne_none_int (fin_bl I q (by simp))
    | str j => obtain ⟨t', rfl⟩ := ry; exact PySem.EqNone.ne_none_str (fin_bl I q (by simp))
    | _ => exact absurd (show false = true from hs) Bool.false_ne_true
  | bl i =>
    cases rx
    cases y with
    | non => cases ry; exact PySem.EqNone.ne_bool_none (fin_bl I q (by simp))
    | bl j => cases ry; exact ne_bool (fin_bl I q (congrArg not dec_bl))
    | str j => obtain ⟨t', rfl⟩ := ry; exact PySem.EqMixed.ne_bool_str (fin_bl I q (by simp))
    | _ => exact absurd (show false = true from hs) Bool.false_ne_true
  | int i =>
    obtain ⟨t, rfl⟩ := rx
    cases y with
    | non => cases ry; exact PySem.EqNone.ne_int_none (fin_bl I q (by simp))
    | int j => obtain ⟨t', rfl⟩ := ry; exact ne_int (fin_bl I q (congrArg not dec_int))
    | str j => obtain ⟨t', rfl⟩ := ry; exact PySem.EqMixed.ne_int_str (fin_bl I q (by simp))
    | _ => exact absurd (show false = true from hs) Bool.false_ne_true
  | str i =>
    obtain ⟨t, rfl⟩ := rx
    cases y with
    | non => cases ry; exact PySem.EqNone.ne_str_none (fin_bl I q (by simp))
    | bl j => cases ry; exact PySem.EqMixed.ne_str_bool (fin_bl I q (by simp))
    | int j => obtain ⟨t', rfl⟩ := ry; exact PySem.EqMixed.ne_str_int (fin_bl I q (by simp))
    | str j => obtain ⟨t', rfl⟩ := ry; exact ne_str (fin_bl I q (congrArg not dec_str))
    | _ => exact absurd (show false = true from hs) Bool.false_ne_true
  | byt i =>
    obtain ⟨t, rfl⟩ := rx
    cases y with
    | byt j => obtain ⟨t', rfl⟩ := ry; exact PySem.W.ne_bytes (fin_bl I q (congrArg not dec_byt))
    | _ => exact absurd (show false = true from hs) Bool.false_ne_true
  | _ => cases y <;> exact absurd (show false = true from hs) Bool.false_ne_true
theorem op_lt : OpR X (compareOp .Lt) (rI0 fun i j => .bl (decide (i < j))) := opB0 fun _ _ _ _ _ _ _ q => lt_int q
theorem op_le : OpR X (compareOp .LtE) (rI0 fun i j => .bl (decide (i ≤ j))) := opB0 fun _ _ _ _ _ _ _ q => le_int q
theorem op_gt : OpR X (compareOp .Gt) (rI0 fun i j => .bl (decide (j < i))) := opB0 fun _ _ _ _ _ _ _ q => gt_int q
def isObj : HO → Bool
  | .lst _ => true
  | .ins _ _ _ => true
  | _ => false
theorem OpR.or {f : Value → Value → Sem Value} {r r' : R2} (h : OpR X f r) (h' : OpR X f r') : OpR X f (fun x y H Q => r x y H Q ∨ r' x y H Q) := by
  intro pins s σ H x y v u Q I rx ry q
  rcases q with q | q
  · exact h pins s σ H x y v u Q I rx ry q
  · exact h' pins s σ H x y v u Q I rx ry q
theorem nomark (b : Expr) {op : CmpOp} (h : op ≠ .In := by decide) (h2 : op ≠ .NotIn := by decide) : behindInMarks op b = false := by
  have e1 : (op == CmpOp.In) = false := by cases op <;> first | rfl | exact absurd rfl h
  have e2 : (op == CmpOp.NotIn) = false := by cases op <;> first | rfl | exact absurd rfl h2
  cases b <;> simp [behindInMarks, e1, e2]
theorem pe_cmpR {op : CmpOp} {r : R2} (ho : OpR X (compareOp op) r) (ha : PE X a ta) (hb : PE X b tb) (hm : behindInMarks op b = false) : PE X (.Compare a [op] [b] pos) (tOp r ta tb) := by
  intro pins s σ H Q I h
  exact wpAny_Compare1 (binT ha hb I h fun v u s2 x y H2 I2 rx ry q => ho pins s2 σ H2 x y v u Q I2 rx ry q) hm
def tTest (t : TE) : TT := fun σ H Q => t σ H fun x H' => ∃ k, x = .bl k ∧ Q k H'
theorem pt_cmpR {op : CmpOp} {r : R2} (ho : OpR X (compareOp op) r) (ha : PE X a ta) (hb : PE X b tb) (hm : behindInMarks op b = false) : PT X (.Compare a [op] [b] pos) (tTest (tOp r ta tb)) := by
  intro pins s σ H Q I h
  refine wpAny_isTrue_Compare1 (thn (ha pins s σ H _ I h) fun v s1 ⟨x, H1, I1, r1, q1⟩ => thn (hb pins s1 σ H1 _ I1 q1) fun u s2 ⟨y, H2, I2, r2, q2⟩ =>
    thn (ho pins s2 σ H2 x y v u _ I2 r1 r2 q2) fun c s3 ⟨z, H3, I3, r3, k, e, q3⟩ => ?_) hm
  subst e
  cases r3
  exact wpAny_truthy_bool ⟨H3, I3, q3⟩
def tChain (r r' : R2) (ta tb tc : TE) : TE := fun σ H Q => ta σ H fun x H1 => tb σ H1 fun y H2 => r x y H2 fun z H3 => ∃ k, z = .bl k ∧
  (if k = true then tc σ H3 fun w' H4 => r' y w' H4 Q else Q (.bl false) H3)
theorem pt_chain {op op' : CmpOp} {r r' : R2} (ho : OpR X (compareOp op) r) (ho' : OpR X (compareOp op') r') (ha : PE X a ta) (hb : PE X b tb) (hc : PE X c tc)
    (hm : lastMarks [op, op'] [b, c] = false := by with_unfolding_all rfl) : PT X (.Compare a [op, op'] [b, c] pos) (tTest (tChain r r' ta tb tc)) := by
  intro pins s σ H Q I h
  refine isTrue_chain (thn (ha pins s σ H _ I h) fun v s1 ⟨x, H1, I1, r1, q1⟩ => test_link (thn (hb pins s1 σ H1 _ I1 q1) fun u s2 ⟨y, H2, I2, r2, q2⟩ =>
    thn (ho pins s2 σ H2 x y v u _ I2 r1 r2 q2) fun d s3 ⟨z, H3, I3, r3, k, e, q3⟩ => ?_)) hm
  subst e
  cases r3
  refine wpAny_truthy_bool ?_
  cases k with
  | false =>
    obtain ⟨k', e', q'⟩ := q3
    cases e'
    exact ite_ff ⟨H3, I3, q'⟩
  | true =>
    refine ite_tt (test_last (thn (hc pins s3 σ H3 _ I3 q3) fun w' s4 ⟨z', H4, I4, r4, q4⟩ => thn (ho' pins s4 σ H4 y z' u w' _ I4 r2 r4 q4) fun d' s5 ⟨z2, H5, I5, r5, k2, e2, q5⟩ => ?_))
    subst e2
    cases r5
    exact wpAny_truthy_bool ⟨H5, I5, q5⟩
def TruV (K : PySem.W.Frag) (x : V) (H : Hp) (k : Bool) : Prop :=
  match x with
  | .non => k = false
  | .bl b => k = b
  | .int i => k = (i != 0)
  | .str y => y.length ≤ sizeLine ∧ k = ((y.length : Int) != 0)
  | .byt y => y.size ≤ sizeLine ∧ k = ((y.size : Int) != 0)
  | .ref p => (∃ xs, SqL K H p xs ∧ k = !xs.isEmpty) ∨ (∃ xs, SqT K H p xs ∧ k = !xs.isEmpty) ∨ ∃ kvs, H p = some (.dK kvs) ∧ k = !kvs.isEmpty
  | _ => False
theorem line63 : (sizeLine : Nat) < 2 ^ 63 := by rw [sizeLine_eq]; decide
theorem op_add_str : OpR X (binaryOp .Add) (fun x y H Q => ∃ i j, x = .str i ∧ y = .str j ∧ i.length + j.length ≤ sizeLine ∧ Q (.str (i ++ j)) H) := by
  intro pins s σ H x y v u Q I rx ry h
  obtain ⟨i, j, rfl, rfl, hz, q⟩ := h
  obtain ⟨t, rfl⟩ := rx
  obtain ⟨t', rfl⟩ := ry
  exact add_str (fun t' tk => ⟨.str (i ++ j), H, I.tok _, ⟨_, rfl⟩, q⟩) hz
def PlainIxT (b : Expr) : Prop := ∀ o i, subscripted b false o i = operate [o, i] (getItem o i)
theorem vals1 {x : V} {us : List Value} (r : Vals [x] us) : ∃ u, us = [u] ∧ RelV x u := by
  cases r with
  | cons r1 r2 => cases r2; exact ⟨_, rfl, r1⟩
theorem vals2 {x y : V} {us : List Value} (r : Vals [x, y] us) : ∃ u w', us = [u, w'] ∧ RelV x u ∧ RelV y w' := by
  cases r with
  | cons r1 r2 =>
    cases r2 with
    | cons r3 r4 => cases r4; exact ⟨_, _, rfl, r1, r3⟩
theorem call_abs : CallR X (.builtin "abs") (fun xs H Q => ∃ i, xs = [.int i] ∧ Q (.int (if i < 0 then -i else i)) H) := by
  intro pins s σ H xs us Q I r h
  obtain ⟨i, rfl, q⟩ := h
  obtain ⟨u, rfl, t, rfl⟩ := vals1 r
  exact call_abs_int fun u tk => ⟨.int (if i < 0 then -i else i), H, I.tok _, ⟨_, rfl⟩, q⟩
theorem call_int1 : CallR X (.type "int") (fun xs H Q => (∃ i, xs = [.int i] ∧ Q (.int i) H) ∨ ∃ k, xs = [.bl k] ∧ Q (.int (if k then 1 else 0)) H) := by
  intro pins s σ H xs us Q I r h
  rcases h with ⟨i, rfl, q⟩ | ⟨k, rfl, q⟩
  · obtain ⟨u, rfl, t, rfl⟩ := vals1 r
    exact call_int_int ⟨.int i, H, I, ⟨_, rfl⟩, q⟩
  · obtain ⟨u, rfl, r1⟩ := vals1 r
    cases r1
    exact call_int_bool ⟨.int (if k then 1 else 0), H, I.tok _, ⟨_, rfl⟩, q⟩
theorem call_str_int : CallR X (.type "str") (fun xs H Q => ∃ i, xs = [.int i] ∧ i.natAbs.log2 < 1920 ∧ Q (.str (toString i)) H) := by
  intro pins s σ H xs us Q I r h
  obtain ⟨i, rfl, hz, q⟩ := h
  obtain ⟨u, rfl, t, rfl⟩ := vals1 r
  exact PySem.P.str_of_int hz ⟨.str _, H, I.tok _, ⟨_, rfl⟩, q⟩
def LenV (K : PySem.W.Frag) (x : V) (H : Hp) (n : Nat) : Prop :=
  match x with
  | .str y => y.length ≤ sizeLine ∧ n = y.length
  | .byt y => y.size ≤ sizeLine ∧ n = y.size
  | .ref p => (∃ xs, SqL K H p xs ∧ n = xs.length) ∨ ∃ xs, SqT K H p xs ∧ n = xs.length
  | _ => False
end
end L2
namespace L2
open PySem PySem.Spec PyProof.Rows
structure ObjM (h : Heap) (x dx C : Addr) (mA : Str → Option Value) : Prop where
  obj : h.get? x = some (PySem.W.instObj C dx)
  ns : h.Ns1 dx mA
  ne : dx ≠ x
theorem lookIn_ns {h : Heap} {dx : Addr} {mA : Str → Option Value} (n : h.Ns1 dx mA) : ∃ od, h.get? dx = some od ∧ ∀ name, PySem.W.lookIn name od = some (mA name) := by
  obtain ⟨o, es, ep, ho, hd, hk, _, hm⟩ := n
  refine ⟨o, ho, fun name => ?_⟩
  have e := hm name
  unfold nsFind findBy at e
  rw [← Array.find?_toList] at e
  unfold PySem.W.lookIn
  rw [hd]
  dsimp only
  split
  · rename_i y q
    rw [q] at e
    exact congrArg some e
  · rename_i q
    rw [q] at e
    have a : es.toList.any (·.refKey) = false := by
      rw [List.any_eq_false]
      intro y hy
      obtain ⟨z, t, hkey⟩ := hk y (Array.mem_toList_iff.mp hy)
      simp [DictEntry.refKey, hkey]
    have a' : ¬ es.toList.any (·.refKey) = true := by rw [a]; exact Bool.false_ne_true
    rw [if_neg a']
    exact congrArg some e
theorem ObjM.look {h : Heap} {x dx C : Addr} {mA : Str → Option Value} (I : ObjM h x dx C mA) : ∃ od, PySem.W.InstAt h x (PySem.W.instObj C dx) C (some od) ∧ ∀ name, PySem.W.lookIn name od = some (mA name) :=
  let ⟨od, ho, hl⟩ := lookIn_ns I.ns
  ⟨od, ⟨I.obj, rfl, rfl, ho⟩, hl⟩
section
variable {prog : Program} {w : World} {A : Around} {E : Value → Shared → Prop} {s : Shared} {K : PySem.W.Frag} {x dx C f : Addr} {mA : Str → Option Value} {name : Str} {v : Value}
theorem get_map {expr : Bool} {Q : Value → Shared → Prop} (X : K.In s.heap) (I : ObjM s.heap x dx C mA) (hg : PySem.W.plainGet K C name = true) (hh : PySem.W.hasDictIn K C = true)
    (ha : PySem.W.findIn K (.ref C) name = some none) (hv : mA name = some v) (hv' : PySem.W.handedIn v = true) (h : Q v { s with toks := s.toks + 1 }) :
    wpAny (model prog w) A (getAttr (.ref x) name expr) Q E s := by
  obtain ⟨od, J, hl⟩ := I.look
  exact PySem.W.get_value X J (PySem.W.plainGet_of hg).1 (PySem.W.findObj_own hh ha rfl (by rw [hl, hv])) hv' h
theorem get_meth {pl : Sem Bool} {Q : Value × List Value → Shared → Prop} (X : K.In s.heap) (I : ObjM s.heap x dx C mA) (hg : PySem.W.plainGet K C name = true)
    (hf : PySem.W.findIn K (.ref C) name = some (some (.ref f))) (ht : PySem.W.isFn K (.ref f) = true) (hv : mA name = none) (h : Q (.ref f, [.ref x]) s) :
    wpAny (model prog w) A (getMethod (.ref x) name pl) Q E s := by
  obtain ⟨od, J, hl⟩ := I.look
  exact PySem.W.method_fn X J (PySem.W.plainGet_of hg).1 (PySem.W.plainGet_of hg).2 hf (beq_iff_eq.mp ht) (by show (PySem.W.lookIn name od).map (·.isSome) = some false; rw [hl, hv]; rfl) h
theorem set_map {ns : List Str} {Q : Unit → Shared → Prop} (X : K.In s.heap) (I : ObjM s.heap x dx C mA)
    (hs : PySem.W.findIn K (.ref C) "__setattr__" = some (some (.builtin "object.__setattr__"))) (hp : PySem.W.plainOver K C = true) (ht : PySem.W.takerIn K C name = some none) (hh : PySem.W.hasDictIn K C = true)
    (hw : PySem.Within mA ns) (hsz : ns.length ≤ sizeLine)
    (h : ∀ h', ObjM h' x dx C (fun y => if y = name then some v else mA y) → Heap.SameBut dx s.heap h' → Q () { s with heap := h', toks := s.toks + 2 }) :
    wpAny (model prog w) A (setAttr (.ref x) name v) Q E s := by
  obtain ⟨od, J, hl⟩ := I.look
  refine PySem.W.set_plain X J hs (PySem.W.osa_open (s := { s with toks := s.toks + 1 }) (r := none) X J hp ht fun b => ?_)
  obtain ⟨cd, hc, hd'⟩ := PySem.W.any_some hh
  have hx : s.heap.get? x = some ⟨.ref C, some dx, .plain, #[]⟩ := I.obj
  refine wpAny_bind (wpAny_pure (wpAny_bind (wpAny_bind (wpAny_loadPart hx (wpAny_bind (PySem.W.Looks.here (s := { s with toks := s.toks + 1 }) (PySem.W.looks_clsIn X hc) ?_))))))
  rw [hd']
  refine wpAny_pure (a := some dx) (wpAny_bind (wpAny_pure (wpAny_bind ?_)))
  refine wpAny_nsSet1 (s := { s with toks := s.toks + 1 }) I.ns fun h' hn2 hs2 => ?_
  obtain ⟨oD, esD, epD, hoD, hdD, hcD⟩ := hn2.count (PySem.Within.cons name v hw)
  refine wpAny_bind (wpAny_lookBehind hoD (by rw [hdD]; exact pastItsLine_dict (Nat.le_trans hcD (by rw [List.length_cons]; omega))) ?_)
  exact wpAny_pure (h _ ⟨(hs2.2 _ (Ne.symm I.ne)).trans I.obj, hn2, I.ne⟩ hs2)
theorem make_map {R : Result → Shared → Prop} {vs : List Value} {kw : List (Str × Value)} (X : K.In s.heap) (hm : PySem.W.makesIn K C = true)
    (hi : PySem.W.findIn K (.ref C) "__init__" = some (some (.ref f))) (hf : PySem.W.typeIn K (.ref f) = some (.type "function"))
    (h : codeAny (model prog w) (A.under (.builtin "type.__call__" ⟨.ref C :: vs, kw⟩)) (.call (.ref f) ⟨.ref (s.heap.objs.size + 1) :: vs, kw⟩) (PySem.W.InitBack (s.heap.objs.size + 1) R)
      { s with heap := (s.heap.push PySem.W.emptyDict).push (PySem.W.instObj C s.heap.objs.size) }) :
    codeAny (model prog w) A (.call (.ref C) ⟨vs, kw⟩) R s := by
  obtain ⟨hh, g, d, t, os⟩ := s
  exact PySem.W.make_core (PySem.W.makes_of X hm) (PySem.W.looks_findIn X hi) (fun self => PySem.W.bind_fn X self hf) (.inl rfl) h
end
def putF (f : Str) (v : V) : List (Str × V) → List (Str × V)
  | [] => [(f, v)]
  | (g, x) :: r => if g = f then (g, v) :: r else (g, x) :: putF f v r
theorem lookup_putF (f g : Str) (v : V) : ∀ fs : List (Str × V), (putF f v fs).lookup g = if g = f then some v else fs.lookup g
  | [] => by
    show List.lookup g [(f, v)] = _
    by_cases h : g = f
    · have hb : (g == f) = true := beq_iff_eq.mpr h
      simp only [List.lookup, hb, if_pos h]
    · have hb : (g == f) = false := beq_eq_false_iff_ne.mpr h
      simp only [List.lookup, hb, if_neg h]
  | (k, x) :: r => by
    have ih := lookup_putF f g v r
    rw [show putF f v ((k, x) :: r) = (if k = f then (k, v) :: r else (k, x) :: putF f v r) from rfl]
    by_cases hk : k = f
    · rw [if_pos hk]
      by_cases h : g = k
      · have hb : (g == k) = true := beq_iff_eq.mpr h
        simp only [List.lookup, hb, if_pos (h.trans hk)]
      · have hb : (g == k) = false := beq_eq_false_iff_ne.mpr h
        simp only [List.lookup, hb, if_neg (fun e : g = f => h (e.trans hk.symm))]
    · rw [if_neg hk]
      by_cases h : g = k
      · have hb : (g == k) = true := beq_iff_eq.mpr h
        simp only [List.lookup, hb, if_neg (fun e : g = f => hk (h.symm.trans e))]
      · have hb : (g == k) = false := beq_eq_false_iff_ne.mpr h
        simp only [List.lookup, hb]
        exact ih
theorem keys_putF (f : Str) (v : V) : ∀ fs : List (Str × V), f ∈ (putF f v fs).map (·.1) ∧ ∀ g, g ∈ fs.map (·.1) → g ∈ (putF f v fs).map (·.1)
  | [] => ⟨by simp [putF], fun g h => by simp at h⟩
  | (k, x) :: r => by
    obtain ⟨i1, i2⟩ := keys_putF f v r
    rw [show putF f v ((k, x) :: r) = (if k = f then (k, v) :: r else (k, x) :: putF f v r) from rfl]
    by_cases hk : k = f
    · rw [if_pos hk]
      subst hk
      exact ⟨by simp, fun g h => by simpa using h⟩
    · rw [if_neg hk]
      refine ⟨?_, fun g h => ?_⟩
      · rw [List.map_cons]
        exact List.mem_cons_of_mem _ i1
      · rw [List.map_cons] at h ⊢
        rcases List.mem_cons.mp h with e | e
        · exact List.mem_cons.mpr (.inl e)
        · exact List.mem_cons_of_mem _ (i2 g e)
theorem length_putF (f : Str) (v : V) : ∀ fs : List (Str × V), (putF f v fs).length ≤ fs.length + 1
  | [] => by simp [putF]
  | (k, x) :: r => by
    have ih := length_putF f v r
    rw [show putF f v ((k, x) :: r) = (if k = f then (k, v) :: r else (k, x) :: putF f v r) from rfl]
    by_cases hk : k = f
    · rw [if_pos hk, List.length_cons, List.length_cons]; omega
    · rw [if_neg hk, List.length_cons, List.length_cons]; omega
theorem RelO.some_of {v : V} {o : Option Value} (r : RelO (some v) o) : ∃ u, o = some u ∧ RelV v u := by
  cases o with
  | none => exact (show False from r).elim
  | some u => exact ⟨u, rfl, r⟩
theorem RelO.none_of {o : Option Value} (r : RelO none o) : o = none := by
  cases o with
  | none => rfl
  | some u => exact (show False from r).elim
theorem handed_of {v : V} {u : Value} (r : RelV v u) : PySem.W.handedIn u = true := by
  cases v with
  | non => cases (show u = Value.none from r); rfl
  | bl b => cases (show u = Value.bool b from r); rfl
  | int i => obtain ⟨t, e⟩ := (show ∃ t, u = Value.int i t from r); cases e; rfl
  | str x => obtain ⟨t, e⟩ := (show ∃ t, u = Value.str x t from r); cases e; rfl
  | byt b => obtain ⟨t, e⟩ := (show ∃ t, u = Value.bytes b t from r); cases e; rfl
  | flt b => obtain ⟨t, e⟩ := (show ∃ t, u = Value.float b t from r); cases e; rfl
  | ref a => cases (show u = Value.ref a from r); rfl
  | ty n => cases (show u = Value.type n from r); rfl
section
variable {P : Program} {w : World} {H H' : Hp} {h h' : Heap} {a C dx : Addr} {fs fs' : List (Str × V)}
theorem ins_get (hok : HOk P w H h) (e : H a = some (.ins C dx fs)) : ∃ mA, ObjM h a dx C mA ∧ (∀ f, RelO (fs.lookup f) (mA f)) ∧ PySem.Within mA (fs.map (·.1)) ∧ fs.length ≤ 1000 ∧ H dx = some (.own a) := by
  obtain ⟨d, z, ne, ob, mA, n, r, q⟩ := (show ObjOk P w H h a (.ins C dx fs) from hok a _ e)
  exact ⟨mA, ⟨ob, n, ne⟩, r, q, z, d⟩
end
structure Cls (K : PySem.W.Frag) (C : Addr) : Prop where
  pg : PySem.W.plainGet K C Str.empty = true
  hd : PySem.W.hasDictIn K C = true
  po : PySem.W.plainOver K C = true
  sa : PySem.W.findIn K (.ref C) "__setattr__" = some (some (.builtin "object.__setattr__"))
theorem Cls.get {K : PySem.W.Frag} {C : Addr} (c : Cls K C) (f : Str) : PySem.W.plainGet K C f = true := c.pg
def NoAttr (K : PySem.W.Frag) (C : Addr) (f : Str) : Prop := PySem.W.findIn K (.ref C) f = some none
theorem NoAttr.taker {K : PySem.W.Frag} {C : Addr} {f : Str} (n : NoAttr K C f) : PySem.W.takerIn K C f = some none := by
  unfold PySem.W.takerIn
  rw [show PySem.W.findIn K (.ref C) f = some none from n]
  rfl
structure Con (K : PySem.W.Frag) (C : Addr) (f : Str) (v : V) (u : Value) : Prop where
  at_ : PySem.W.findIn K (.ref C) f = some (some u)
  rel : RelV v u
  get : PySem.W.specialIn K u "__get__" = some none
  cp : PySem.W.copiedNames.contains f = false
structure Meth (K : PySem.W.Frag) (C : Addr) (m : Str) (f : Addr) : Prop where
  at_ : PySem.W.findIn K (.ref C) m = some (some (.ref f))
  fn : PySem.W.isFn K (.ref f) = true
  kp : PySem.W.keepIn K (.ref f) = true
section
variable {X : Cx} {pins : List (Addr × Obj)} {σ : St} {H : Hp} {s : Shared} {a C dx : Addr} {fs : List (Str × V)} {f : Str} {v : V} {A : Around} {E : Value → Shared → Prop}
theorem getattr_ok {b : Bool} {Q : Value → Shared → Prop} (I : Inv X pins σ H s) (e : H a = some (.ins C dx fs)) (c : Cls X.K C) (n : NoAttr X.K C f) (l : fs.lookup f = some v)
    (h : ∀ u s', Inv X pins σ H s' → RelV v u → Q u s') : wpAny (model X.prog X.w) A (getAttr (.ref a) f b) Q E s := by
  obtain ⟨mA, O, r, _, _, _⟩ := ins_get I.hok e
  obtain ⟨u, hu, ru⟩ := RelO.some_of (v := v) (o := mA f) (by rw [← l]; exact r f)
  exact get_map I.kIn O (c.get f) c.hd n hu (handed_of ru) (h u _ (I.tok _) ru)
theorem getmeth_ok {m : Str} {g : Addr} {pl : Sem Bool} {Q : Value × List Value → Shared → Prop} (I : Inv X pins σ H s) (e : H a = some (.ins C dx fs)) (c : Cls X.K C) (k : Meth X.K C m g) (l : fs.lookup m = none)
    (h : Q (.ref g, [.ref a]) s) : wpAny (model X.prog X.w) A (getMethod (.ref a) m pl) Q E s := by
  obtain ⟨mA, O, r, _, _, _⟩ := ins_get I.hok e
  have hn : mA m = none := RelO.none_of (by rw [← l]; exact r m)
  exact get_meth I.kIn O (c.get m) k.at_ k.fn hn h
theorem setattr_ok {y : V} {u : Value} {Q : Unit → Shared → Prop} (I : Inv X pins σ H s) (e : H a = some (.ins C dx fs)) (c : Cls X.K C) (n : NoAttr X.K C f) (hl : fs.length < 1000) (ry : RelV y u)
    (h : ∀ s', Inv X pins σ (upd H a (.ins C dx (putF f y fs))) s' → Q () s') : wpAny (model X.prog X.w) A (setAttr (.ref a) f u) Q E s := by
  obtain ⟨mA, O, r, wi, _, ho⟩ := ins_get I.hok e
  have hz : (fs.map (·.1)).length ≤ sizeLine := by rw [List.length_map, sizeLine_eq]; omega
  refine set_map I.kIn O c.sa c.po n.taker c.hd wi hz fun h' O' sb => h _ ?_
  have hd : ∃ o, h'.get? dx = some o := let ⟨o, _, _, e', _⟩ := O'.ns; ⟨o, e'⟩
  refine I.write (x := a) (e := dx) (by rw [e]; exact True.intro) (.inr ho) (fun b q hb z => (sb.2 b hb).trans z) hd ?_
  refine ⟨by rw [upd_ne O.ne]; exact ho, ?_, O.ne, O'.obj, _, O'.ns, fun g => ?_, fun g hg => ?_⟩
  · have := length_putF f y fs; omega
  · show RelO ((putF f y fs).lookup g) (if g = f then some u else mA g)
    rw [lookup_putF]
    by_cases q : g = f
    · rw [if_pos q, if_pos q]; exact ry
    · rw [if_neg q, if_neg q]; exact r g
  · by_cases q : g = f
    · rw [q]; exact (keys_putF f y fs).1
    · refine (keys_putF f y fs).2 g (wi g fun z => hg ?_)
      show (if g = f then some u else mA g) = none
      rw [if_neg q]; exact z
theorem Inv.made (I : Inv X pins σ H s) : Inv X pins σ (upd (upd H s.heap.objs.size (.own (s.heap.objs.size + 1))) (s.heap.objs.size + 1) (.ins C s.heap.objs.size []))
    { s with heap := (s.heap.push PySem.W.emptyDict).push (PySem.W.instObj C s.heap.objs.size) } := by
  have e1 : (s.heap.push PySem.W.emptyDict).get? s.heap.objs.size = some PySem.W.emptyDict := Heap.get?_push_size s.heap rfl
  have e2 : ((s.heap.push PySem.W.emptyDict).push (PySem.W.instObj C s.heap.objs.size)).get? (s.heap.objs.size + 1) = some (PySem.W.instObj C s.heap.objs.size) := by
    have := Heap.get?_push_size (s.heap.push PySem.W.emptyDict) (o := PySem.W.instObj C s.heap.objs.size) rfl
    rwa [Heap.size_push] at this
  have e3 : (s.heap.push PySem.W.emptyDict).Ns s.heap.objs.size (fun _ => none) := ⟨PySem.W.emptyDict, #[], _, e1, rfl, (fun e he => absurd he (by simp)), fun _ => rfl⟩
  have I1 := I.laid (a := s.heap.objs.size) (o := .own (s.heap.objs.size + 1)) (h' := s.heap.push PySem.W.emptyDict) (t' := s.toks) (fun b u q => Heap.get?_push_of_some _ q) (Nat.le_refl _) ⟨_, e1⟩
  refine I1.laid (a := s.heap.objs.size + 1) (o := .ins C s.heap.objs.size []) (t' := s.toks) (fun b u q => Heap.get?_push_of_some _ q) (Nat.le_of_eq (Heap.size_push _ _)) ?_
  have ne : s.heap.objs.size ≠ s.heap.objs.size + 1 := Nat.ne_of_lt (Nat.lt_succ_self _)
  refine ⟨by rw [upd_ne ne, upd_same], Nat.zero_le _, ne, e2, fun _ => none, (Heap.Ns1.of_empty e3).at fun o q => Heap.get?_push_of_some _ q, fun _ => True.intro, fun y hy => absurd rfl hy⟩
theorem attr_of {prog : Program} {w : World} {env : Env} {e : Expr} {f : Str} {pos : Pos} {s : Shared} {Q : Value → Shared → Prop} (hb : attributeBase e f env (eval e env) = eval e env)
    (h : wpAny (model prog w) A (eval e env) (fun o s₁ => wpAny (model prog w) A (getAttr o f true) Q E s₁) E s) : wpAny (model prog w) A (eval (.Attribute e f pos) env) Q E s :=
  Attribute_any_ h (by rw [arm_eval_Attribute, hb])
end
def tFld (K : PySem.W.Frag) (ta : TE) (f : Str) : TE := fun σ H Q => ta σ H fun x H1 => ∃ a C dx fs v, x = .ref a ∧ H1 a = some (.ins C dx fs) ∧ Cls K C ∧ NoAttr K C f ∧ fs.lookup f = some v ∧ Q v H1
def tCon (K : PySem.W.Frag) (ta : TE) (f : Str) : TE := fun σ H Q => ta σ H fun x H1 => ∃ a C dx fs v u, x = .ref a ∧ H1 a = some (.ins C dx fs) ∧ Cls K C ∧ Con K C f v u ∧ fs.lookup f = none ∧ Q v H1
def sFld (K : PySem.W.Frag) (ta tv : TE) (f : Str) : TS := fun D σ H => tv σ H fun y H1 => ta σ H1 fun x H2 => ∃ a C dx fs, x = .ref a ∧ H2 a = some (.ins C dx fs) ∧ Cls K C ∧ NoAttr K C f ∧ fs.length < 1000 ∧
  D.nx σ (upd H2 a (.ins C dx (putF f y fs)))
def InOp (X : Cx) (op : Operator) (rd : V → V → Hp → VK → Prop) : Prop :=
  ∀ (pins : List (Addr × Obj)) (s : Shared) (σ : St) (H : Hp) (x y : V) (u v : Value) (Q : VK), Inv X pins σ H s → RelV x u → RelV y v → rd x y H Q → wpAny (model X.prog X.w) X.A (inplaceOp op u v) (EP X pins σ Q) X.xe s
def sFldAug (K : PySem.W.Frag) (ta tv : TE) (rd : V → V → Hp → VK → Prop) (f : Str) : TS := fun D σ H => ta σ H fun x H1 => ∃ a C dx fs v, x = .ref a ∧ H1 a = some (.ins C dx fs) ∧ Cls K C ∧ NoAttr K C f ∧ fs.lookup f = some v ∧
  tv σ H1 fun y H2 => rd v y H2 fun z H3 => ∃ dx' fs', H3 a = some (.ins C dx' fs') ∧ fs'.length < 1000 ∧ D.nx σ (upd H3 a (.ins C dx' (putF f z fs')))
section
variable {X : Cx} {o e value : Expr} {f : Str} {pos pos' tpos : Pos} {ta tv : TE}
theorem pe_fld (he : PE X e ta) (hb : attributeBase e f X.env (eval e X.env) = eval e X.env) : PE X (.Attribute e f pos) (tFld X.K ta f) := by
  intro pins s σ H Q I h
  refine attr_of hb (thn (he pins s σ H _ I h) fun u s1 ⟨x, H1, I1, rx, a, C, dx, fs, v, ex, ea, c, n, l, q⟩ => ?_)
  subst ex
  obtain rfl : u = Value.ref a := rx
  exact getattr_ok I1 ea c n l fun u' s2 I2 ru => ⟨v, H1, I2, ru, q⟩
theorem ps_fld (ha : PE X o ta) (hv : PE X value tv) (hs : swapsWith value (some (.Attribute o f pos')) pos.line X.env = pure false) : PS X (.Assign [.Attribute o f pos'] value pos) (sFld X.K ta tv f) := by
  intro pins s σ H D I h
  refine plainObj_wpAny_Assign_Attribute (thn (hv pins s σ H _ I h) fun u s1 ⟨y, H1, I1, ry, q⟩ => thn (ha pins s1 σ H1 _ I1 q) fun ov s2 ⟨x, H2, I2, rx, a, C, dx, fs, ex, ea, c, n, l, q2⟩ => ?_) hs
  subst ex
  obtain rfl : ov = Value.ref a := rx
  exact setattr_ok I2 ea c n l ry fun s3 I3 => ⟨σ, _, I3, q2⟩
def rAdd : V → V → Hp → VK → Prop := fun x y H Q => ∃ i j, x = .int i ∧ y = .int j ∧ Q (.int (i + j)) H
def rSub : V → V → Hp → VK → Prop := fun x y H Q => ∃ i j, x = .int i ∧ y = .int j ∧ Q (.int (i - j)) H
theorem methcall_of {pl : Sem Bool} {m : Str} {apos : Pos} {args : List Expr} {pins : List (Addr × Obj)} {s : Shared} {σ : St} {H : Hp} {Q : Value → Shared → Prop} {te : TE} (he : PE X e te) (I : Inv X pins σ H s)
    (h : te σ H fun x H1 => ∃ a C dx fs g, x = .ref a ∧ H1 a = some (.ins C dx fs) ∧ Cls X.K C ∧ Meth X.K C m g ∧ fs.lookup m = none ∧
      ∀ s1, Inv X pins σ H1 s1 → wpAny (model X.prog X.w) X.A (callWith pos (.ref g) [.ref a] (backTo pos (starEach args X.env)) (backToKw pos (keywordEach [] X.env))) Q X.xe s1)
    (ht : eval (.Call (.Attribute e m apos) args [] pos) X.env = (do
      let ov ← eval e X.env
      standAt apos.atName
      let (f, first) ← holding [ov] (getMethod ov m pl)
      callWith pos f first (backTo pos (starEach args X.env)) (backToKw pos (keywordEach [] X.env)))) :
    wpAny (model X.prog X.w) X.A (eval (.Call (.Attribute e m apos) args [] pos) X.env) Q X.xe s := by
  refine PySem.W.methodCall_KW (pl := pl) (thn (he pins s σ H _ I h) fun u s1 ⟨x, H1, I1, rx, a, C, dx, fs, g, ex, ea, c, k, l, q⟩ => ?_) ht
  subst ex
  obtain rfl : u = Value.ref a := rx
  exact getmeth_ok I1 ea c k l (q s1 I1)
end
section
variable {X : Cx} {pins : List (Addr × Obj)} {σ : St} {H : Hp} {s : Shared} {A : Around} {E : Value → Shared → Prop} {Q : Value → Shared → Prop} {c : Value} {b : Bool}
inductive TyOf (K : PySem.W.Frag) (H : Hp) : V → Value → Prop where
  | non : TyOf K H .non (.type "NoneType")
  | bl (x : Bool) : TyOf K H (.bl x) (.type "bool")
  | int (i : Int) : TyOf K H (.int i) (.type "int")
  | str (x : Str) : TyOf K H (.str x) (.type "str")
  | flt (x : UInt64) : TyOf K H (.flt x) (.type "float")
  | lst {a : Addr} {xs : List V} (e : H a = some (.lst xs)) : TyOf K H (.ref a) (.type "list")
  | frz {a : Addr} {o : Obj} {xs : List V} (e : H a = some (.frz o (.lst xs))) : TyOf K H (.ref a) (.type "list")
  | tup {a : Addr} {xs : List V} (e : H a = some (.tup xs)) : TyOf K H (.ref a) (.type "tuple")
  | dK {a : Addr} {kvs : List (Key × V)} (e : H a = some (.dK kvs)) : TyOf K H (.ref a) (.type "dict")
  | dT {a : Addr} {kvs : List (List Key × V)} (e : H a = some (.dT kvs)) : TyOf K H (.ref a) (.type "dict")
  | ins {a C dx : Addr} {fs : List (Str × V)} (e : H a = some (.ins C dx fs)) (cl : Cls K C) (ha : PySem.W.findIn K (.ref C) "__class__" = some (some (.builtin "object.__class__")))
      (hn : PySem.W.specialIn K (.builtin "object.__class__") "__get__" = some (some (.builtin "getset_descriptor.__get__"))) (htk : PySem.W.takesIn K (.builtin "object.__class__") = some true)
      (hm : PySem.W.mroIn K C (.type "object") = some true) : TyOf K H (.ref a) (.ref C)
theorem isinst_ok {x : V} {u t : Value} (I : Inv X pins σ H s) (rx : RelV x u) (ty : TyOf X.K H x t) (e : PySem.W.kitOne X.K t c = some b) (h : ∀ tk, Q (.bool b) { s with toks := tk }) :
    wpAny (model X.prog X.w) A (call (.builtin "isinstance") [u, c]) Q E s := by
  cases ty with
  | non => cases (show u = Value.none from rx); exact PySem.W.kia_one PySem.W.kitx_none I.kIn True.intro e (fun z => nomatch z) h
  | bl y => cases (show u = Value.bool y from rx); exact PySem.W.kia_one PySem.W.kitx_bool I.kIn True.intro e (fun z => nomatch z) h
  | int i => obtain ⟨t, q⟩ := (show ∃ t, u = Value.int i t from rx); cases q; exact PySem.W.kia_one PySem.W.kitx_int I.kIn True.intro e (fun z => nomatch z) h
  | str y => obtain ⟨t, q⟩ := (show ∃ t, u = Value.str y t from rx); cases q; exact PySem.W.kia_one PySem.W.kitx_str I.kIn True.intro e (fun z => nomatch z) h
  | flt y => obtain ⟨t, q⟩ := (show ∃ t, u = Value.float y t from rx); cases q; exact PySem.W.kia_one PySem.W.kitx_float I.kIn True.intro e (fun z => nomatch z) h
  | @lst a xs ea =>
    cases (show u = Value.ref a from rx)
    obtain ⟨_, _, n, _, h1⟩ := (show ObjOk X.prog X.w H s.heap a (.lst xs) from I.hok a _ ea)
    exact PySem.W.kia_one PySem.W.kitx_list I.kIn ⟨_, h1, rfl⟩ e (fun z => nomatch z) h
  | @frz a ob xs ea =>
    cases (show u = Value.ref a from rx)
    obtain ⟨_, _, _, n, _, h1⟩ := (show ObjOk X.prog X.w H s.heap a (.frz ob (.lst xs)) from I.hok a _ ea)
    exact PySem.W.kia_one PySem.W.kitx_list I.kIn ⟨_, h1, rfl⟩ e (fun z => nomatch z) h
  | @tup a xs ea =>
    cases (show u = Value.ref a from rx)
    obtain ⟨_, _, _, p⟩ := (show ObjOk X.prog X.w H s.heap a (.tup xs) from I.hok a _ ea)
    obtain ⟨o, h1, h2, _⟩ := p
    exact PySem.W.kia_one PySem.W.kitx_tuple I.kIn ⟨o, h1, h2⟩ e (fun z => nomatch z) h
  | @dK a kvs ea =>
    cases (show u = Value.ref a from rx)
    obtain ⟨_, _, vs, _, p⟩ := (show ObjOk X.prog X.w H s.heap a (.dK kvs) from I.hok a _ ea)
    obtain ⟨o, es, ep, h1, h2, _⟩ := p
    exact PySem.W.kia_one PySem.W.kitx_dict I.kIn ⟨o, h1, h2.1⟩ e (fun z => nomatch z) h
  | @dT a kvs ea =>
    cases (show u = Value.ref a from rx)
    obtain ⟨_, _, xs, _, o, es, ep, h1, h2, _⟩ := (show ObjOk X.prog X.w H s.heap a (.dT kvs) from I.hok a _ ea)
    exact PySem.W.kia_one PySem.W.kitx_dict I.kIn ⟨o, h1, h2.1⟩ e (fun z => nomatch z) h
  | @ins a C dx fs ea cl ha hn htk hm =>
    cases (show u = Value.ref a from rx)
    obtain ⟨mA, O, _⟩ := ins_get I.hok ea
    obtain ⟨od, J, _⟩ := O.look
    exact PySem.W.kia_one (PySem.W.kitx_own (cl.get _) cl.hd ha hn htk hm) I.kIn J e (fun z => nomatch z) h
end
end L2
namespace L2
open PySem PySem.Spec PyProof.Rows
structure Room (k : Nat) (A : Around) : Prop where
  hd : A.handled = none
  dp : A.depth + 3 * k + 5 < recursionLimit
  un : A.units + 16 * k + 200 < cLine
theorem Room.mono {j k : Nat} {A : Around} (r : Room k A) (h : j ≤ k) : Room j A := ⟨r.hd, by have := r.dp; omega, by have := r.un; omega⟩
theorem Room.deeper {k : Nat} {A : Around} (r : Room (k + 1) A) (env : Env) : Room k (A.deeper env) :=
  ⟨r.hd, by have := r.dp; show A.depth + 1 + 3 * k + 5 < _; omega, by have := r.un; show A.units + 3 + 16 * k + 200 < _; omega⟩
theorem Room.in1 {k : Nat} {A : Around} (r : Room (k + 1) A) : Room k A.in1 :=
  ⟨r.hd, by have := r.dp; show A.depth + 3 * k + 5 < _; omega, by have := r.un; show A.units + 1 + 16 * k + 200 < _; omega⟩
theorem make_depth {A : Around} {C : Addr} {us : List Value} {kw : List (Str × Value)} : (A.under (.builtin "type.__call__" ⟨.ref C :: us, kw⟩)).depth = A.depth + 1 := by
  first | rfl | simp [Around.under, Code.weight, Code.isCreation, Code.isGuard, Code.isCaller, Code.frames, Code.isFrame, guardIds]
theorem make_units {A : Around} {C : Addr} {us : List Value} {kw : List (Str × Value)} : (A.under (.builtin "type.__call__" ⟨.ref C :: us, kw⟩)).units = A.units + 1 := by
  first | rfl | simp [Around.under, Code.cUnits, Code.frames, Code.isFrame]
theorem Room.make {k : Nat} {A : Around} (r : Room (k + 1) A) (C : Addr) (us : List Value) (kw : List (Str × Value)) : Room k (A.under (.builtin "type.__call__" ⟨.ref C :: us, kw⟩)) :=
  ⟨r.hd, by have := r.dp; rw [make_depth]; omega, by have := r.un; rw [make_units]; omega⟩
theorem Room.depth {k : Nat} {A : Around} (r : Room k A) : A.depth < recursionLimit := by have := r.dp; omega
theorem Room.units {k : Nat} {A : Around} (r : Room k A) : A.units + 64 < cLine := by have := r.un; omega
theorem Room.units0 {k : Nat} {A : Around} (r : Room k A) : A.units < cLine := by have := r.un; omega
def tNil : TA := fun _ H Q => Q [] H
def tCons (ta : TE) (tr : TA) : TA := fun σ H Q => ta σ H fun x H1 => tr σ H1 fun xs H2 => Q (x :: xs) H2
section
variable {X : Cx} {e : Expr} {es : List Expr} {te : TE} {t : TA} {pos : Pos}
theorem pa_nil : PA X [] tNil := fun _ _ _ _ H Q I h => Calls.spliced_nil ⟨[], H, I, .nil, h⟩
theorem pa_cons (ha : PE X e te) (hr : PA X es t) (hs : starEach (e :: es) X.env = (false, eval e X.env) :: starEach es X.env := by rfl) : PA X (e :: es) (tCons te t) := by
  intro pos pins s σ H Q I h
  rw [hs]
  show wpAny _ _ (spliced ((false, eval e X.env) :: backTo pos (starEach es X.env))) _ _ s
  refine Calls.spliced_cons (thn (ha pins s σ H _ I h) fun u s1 ⟨x, H1, I1, r1, q1⟩ => ?_)
  exact thn (hr pos pins s1 σ H1 _ I1 q1) fun us s2 ⟨xs, H2, I2, r2, q2⟩ => ⟨x :: xs, H2, I2, .cons r1 r2, q2⟩
def tTup (t : TA) : TE := fun σ H Q => t σ H fun xs H1 => xs.length ≤ sizeLine ∧ ∀ p, H1 p = none → Q (.ref p) (upd H1 p (.tup xs))
def tLst (t : TA) : TE := fun σ H Q => t σ H fun xs H1 => xs.length ≤ sizeLine ∧ ∀ p, H1 p = none → Q (.ref p) (upd H1 p (.lst xs))
theorem pe_tup {x1} (h : PA X es t) : PE X (.Tuple es x1 pos) (tTup t) := by
  intro pins s σ H Q I hq
  refine wpAny_Tuple_spliced (thn (h pos pins s σ H _ I hq) fun us s1 ⟨xs, H1, I1, r, z, q⟩ => ⟨by rw [← r.length]; exact z, ?_⟩)
  have hf : H1 s1.heap.objs.size = none := I1.hok.fresh (Nat.le_refl _)
  refine ⟨.ref s1.heap.objs.size, upd H1 s1.heap.objs.size (.tup xs), I1.laid (t' := s1.toks) (fun b u e => Heap.get?_push_of_some _ e) (Nat.le_refl _) ?_, rfl, q _ hf⟩
  exact ⟨z, us, r, ⟨_, Heap.get?_push_size _ rfl, rfl, _, rfl⟩⟩
theorem pe_lst (h : PA X es t) : PE X (.List es pos) (tLst t) := by
  intro pins s σ H Q I hq
  refine wpAny_List_spliced (thn (h pos pins s σ H _ I hq) fun us s1 ⟨xs, H1, I1, r, z, q⟩ => ⟨by rw [← r.length]; exact z, ?_⟩)
  have hf : H1 s1.heap.objs.size = none := I1.hok.fresh (Nat.le_refl _)
  refine ⟨.ref s1.heap.objs.size, upd H1 s1.heap.objs.size (.lst xs), I1.laid (t' := s1.toks) (fun b u e => Heap.get?_push_of_some _ e) (Nat.le_refl _) ?_, rfl, q _ hf⟩
  exact ⟨z, us, 0, r, Heap.get?_push_size _ rfl⟩
end
abbrev Sp := List V → Hp → VK → XK → Prop
abbrev CXT := List Env → Hp → Shared → XK → Value → Shared → Prop
structure Env0 (P : Program) (w : World) (K : PySem.W.Frag) (mg : Str → Option Value) (base : Heap) (A : Around) (outer : List Env) (s : Shared) (H : Hp) : Prop where
  frames : A.frames = some outer
  mod : Mod K mg base
  bs : ∀ b o, base.get? b = some o → s.heap.get? b = some o ∧ H b = none
  bsz : base.objs.size ≤ s.heap.objs.size
  funs : s.heap.FunFrames base outer
  frf : ∀ b ∈ frs outer, H b = none
  hok : HOk P w H s.heap
  bare : AllBare s.gens
def CE (outer : List Env) (P : Program) (w : World) (H : Hp) (s : Shared) (Q : VK) (u : Value) (s' : Shared) : Prop :=
  ∃ v H', s'.os = s.os ∧ AllBare s'.gens ∧ Un (frs outer) [] H H' s.heap s'.heap ∧ HOk P w H' s'.heap ∧ RelV v u ∧ Q v H'
def CR (CX : CXT) (outer : List Env) (P : Program) (w : World) (H : Hp) (s : Shared) (Q : VK) (E : XK) (r : Result) (s' : Shared) : Prop :=
  match r with
  | .ok (.ret u) => CE outer P w H s Q u s'
  | .ok _ => False
  | .error e => CX outer H s E e s'
structure FnOk (P : Program) (w : World) (K : PySem.W.Frag) (mg : Str → Option Value) (base : Heap) (CX : CXT) (k : Nat) (f : Addr) (fd : FuncData) (ps : List Str) (sp : Sp) : Prop where
  len : ∀ vs H Q E, sp vs H Q E → vs.length = ps.length
  run : ∀ (A : Around) (outer : List Env) (s : Shared) (H : Hp) (args : Args) (us : List Value) (vs : List V) (Q : VK) (E : XK), Room k A → Env0 P w K mg base A outer s H → BindsTo s fd args (ps.zip us) → Vals vs us → sp vs H Q E →
    codeAny (model P w) A (.call (.ref f) args) (CR CX outer P w H s Q E) s
theorem FnOk.mono {P : Program} {w : World} {K : PySem.W.Frag} {mg : Str → Option Value} {base : Heap} {CX : CXT} {j k : Nat} {f : Addr} {fd : FuncData} {ps : List Str} {sp : Sp} (F : FnOk P w K mg base CX j f fd ps sp) (h : j ≤ k) :
    FnOk P w K mg base CX k f fd ps sp := ⟨F.len, fun A outer s H args us vs Q E hr => F.run A outer s H args us vs Q E (hr.mono h)⟩
theorem Env0.make {P : Program} {w : World} {K : PySem.W.Frag} {mg : Str → Option Value} {base : Heap} {A : Around} {outer : List Env} {s : Shared} {H : Hp} (e : Env0 P w K mg base A outer s H) (C : Addr) (us : List Value) (kw : List (Str × Value)) :
    Env0 P w K mg base (A.under (.builtin "type.__call__" ⟨.ref C :: us, kw⟩)) outer s H := ⟨by first | exact e.frames | (simpa [Around.under, Code.envs, Code.isFrame, pushEnvs] using e.frames), e.mod, e.bs, e.bsz, e.funs, e.frf, e.hok, e.bare⟩
theorem Env0.in1 {P : Program} {w : World} {K : PySem.W.Frag} {mg : Str → Option Value} {base : Heap} {A : Around} {outer : List Env} {s : Shared} {H : Hp} (e : Env0 P w K mg base A outer s H) :
    Env0 P w K mg base A.in1 outer s H := ⟨e.frames, e.mod, e.bs, e.bsz, e.funs, e.frf, e.hok, e.bare⟩
section
variable {X : Cx} {pins : List (Addr × Obj)} {σ : St} {H : Hp} {s s' : Shared}
theorem Inv.env0 (I : Inv X pins σ H s) : Env0 X.prog X.w X.K X.mg X.base X.A X.stack s H :=
  ⟨I.ok.frames, I.ok.mod, I.bs, Nat.le_trans I.ok.bsz I.sz, I.stack, I.stkFree, I.hok, I.bare⟩
theorem Inv.after {Q : VK} {u : Value} (I : Inv X pins σ H s) (h : CE X.stack X.prog X.w H s Q u s') : EP X pins σ Q u s' := by
  obtain ⟨v, H', os, bare, un, hok, r, q⟩ := h
  obtain ⟨hh, g, d, t, os'⟩ := s'
  obtain rfl : os' = s.os := os
  exact ⟨v, H', I.call (h' := hh) (g' := g) (d' := d) (t' := t) (ch := []) un hok bare (fun b z => absurd z (by simp)), r, q⟩
end
def tCall (sp : Sp) (dvs : List V) (E : XK) (t : TA) : TE := fun σ H Q => t σ H fun vs H1 => sp (vs ++ dvs) H1 Q E
def tMeth (C : Addr) (m : Str) (sp : Sp) (dvs : List V) (E : XK) (ta : TE) (t : TA) : TE := fun σ H Q => ta σ H fun x H1 => ∃ a dx fs, x = .ref a ∧ H1 a = some (.ins C dx fs) ∧ fs.lookup m = none ∧
  t σ H1 fun vs H2 => sp (x :: (vs ++ dvs)) H2 Q E
def tMake (C : Addr) (sp : Sp) (dvs : List V) (E : XK) (t : TA) : TE := fun σ H Q => t σ H fun vs H1 => ∀ x dx, H1 x = none → H1 dx = none → dx ≠ x →
  sp (.ref x :: (vs ++ dvs)) (upd (upd H1 dx (.own x)) x (.ins C dx [])) (fun v H2 => v = .non ∧ Q (.ref x) H2) E
def Binds (K : PySem.W.Frag) (fd : FuncData) (ps : List Str) (ds : List Value) : Prop :=
  ∀ (s : Shared) (us : List Value), K.In s.heap → (us ++ ds).length = ps.length → BindsTo s fd ⟨us, []⟩ (ps.zip (us ++ ds))
theorem Binds.all {K : PySem.W.Frag} {fd : FuncData} {ps : List Str} (h : ∀ us : List Value, us.length = ps.length → bindArgs fd ⟨us, []⟩ = pure (ps.zip us)) : Binds K fd ps [] := fun s us _ hl => by
  rw [List.append_nil] at hl ⊢
  exact .of_eq (h us hl)
def Passes (CX : CXT) (X : Cx) (E : XK) : Prop := ∀ (pins : List (Addr × Obj)) (σ : St) (H : Hp) (s : Shared) (e : Value) (s' : Shared), Inv X pins σ H s → CX X.stack H s E e s' → X.xe e s'
section
variable {X : Cx} {CX : CXT} {k : Nat} {f C : Addr} {fd : FuncData} {ps : List Str} {sp : Sp} {dvs : List V} {ds : List Value} {E : XK} {x m : Str} {p pos apos : Pos} {e o : Expr} {es : List Expr} {ta : TE} {t : TA}
theorem run_fn {pins : List (Addr × Obj)} {σ : St} {H : Hp} {s : Shared} {Q : VK} {us : List Value} {vs : List V} (F : FnOk X.prog X.w X.K X.mg X.base CX k f fd ps sp) (hr : Room k X.A) (hb : Binds X.K fd ps ds) (hd : Vals dvs ds) (hx : Passes CX X E)
    (I : Inv X pins σ H s) (r : Vals vs us) (h : sp (vs ++ dvs) H Q E) : wpAny (model X.prog X.w) X.A (call (.ref f) us) (EP X pins σ Q) X.xe s := by
  have r2 : Vals (vs ++ dvs) (us ++ ds) := r.append hd
  have hl : (us ++ ds).length = ps.length := by rw [← r2.length]; exact F.len _ _ _ _ h
  refine wpAny_call (codeAny_mono (F.run X.A X.stack s H ⟨us, []⟩ (us ++ ds) (vs ++ dvs) Q E hr I.env0 (hb s us I.kIn hl) r2 h) fun r s' hq => ?_)
  cases r with
  | error e => exact hx pins σ H s e s' I hq
  | ok fl =>
    cases fl with
    | ret u => exact I.after hq
    | next => exact False.elim hq
    | brk => exact False.elim hq
    | cont => exact False.elim hq
theorem pe_call (F : FnOk X.prog X.w X.K X.mg X.base CX k f fd ps sp) (hr : Room k X.A) (hg : Gl X x) (hm : X.mg x = some (.ref f)) (hk : PySem.W.keepIn X.K (.ref f) = true) (hb : Binds X.K fd ps ds) (hd : Vals dvs ds) (hx : Passes CX X E)
    (ha : PA X (e :: es) t) (hdb : (x == ("__debug__" : Str)) = false := by decide) (he : starEach (e :: es) X.env = (false, eval e X.env) :: starEach es X.env := by rfl) (hpl : (backTo pos (starEach es X.env)).any (·.1) = false := by rfl) :
    PE X (.Call (.Name x p) (e :: es) [] pos) (tCall sp dvs E t) := by
  intro pins s σ H Q I h
  refine wpAny_Call_Name_kw (ld_glob I hg hm ?_ hdb)
  refine PySem.W.callWith_K (h₀ := X.base) I.ok.mod.kin hk (thn (ha pos pins s σ H _ I h) fun us s1 ⟨vs, H1, I1, r, q⟩ => ⟨I1.kIn, ?_⟩) he hpl
  exact run_fn F hr hb hd hx I1 r q
structure Mk (K : PySem.W.Frag) (C f : Addr) : Prop where
  makes : PySem.W.makesIn K C = true
  init : PySem.W.findIn K (.ref C) "__init__" = some (some (.ref f))
  fn : PySem.W.isFn K (.ref f) = true
  kp : PySem.W.keepIn K (.ref C) = true
theorem run_make {pins : List (Addr × Obj)} {σ : St} {H : Hp} {s : Shared} {Q : VK} {us : List Value} {vs : List V} (M : Mk X.K C f) (F : FnOk X.prog X.w X.K X.mg X.base CX k f fd ps sp) (hr : Room (k + 1) X.A) (hb : Binds X.K fd ps ds) (hd : Vals dvs ds)
    (hx : Passes CX X E) (I : Inv X pins σ H s) (r : Vals vs us)
    (h : ∀ x dx, H x = none → H dx = none → dx ≠ x → sp (.ref x :: (vs ++ dvs)) (upd (upd H dx (.own x)) x (.ins C dx [])) (fun v H2 => v = .non ∧ Q (.ref x) H2) E) :
    wpAny (model X.prog X.w) X.A (call (.ref C) us) (EP X pins σ Q) X.xe s := by
  have hq := h (s.heap.objs.size + 1) s.heap.objs.size (I.hok.fresh (Nat.le_succ _)) (I.hok.fresh (Nat.le_refl _)) (Nat.ne_of_lt (Nat.lt_succ_self _))
  have I2 := Inv.made (C := C) I
  have r2 : Vals (V.ref (s.heap.objs.size + 1) :: (vs ++ dvs)) (Value.ref (s.heap.objs.size + 1) :: (us ++ ds)) := .cons rfl (r.append hd)
  have hl : (Value.ref (s.heap.objs.size + 1) :: us ++ ds).length = ps.length := by
    have e := r2.length
    rw [F.len _ _ _ _ hq] at e
    exact e.symm
  refine wpAny_call (make_map (f := f) I.kIn M.makes M.init (beq_iff_eq.mp M.fn) (codeAny_mono (F.run _ X.stack _ _ ⟨Value.ref (s.heap.objs.size + 1) :: us, []⟩ (Value.ref (s.heap.objs.size + 1) :: (us ++ ds)) _ _ E (hr.make C us [])
    (I2.env0.make C us []) (hb _ (Value.ref (s.heap.objs.size + 1) :: us) I2.kIn hl) r2 hq) fun r s' hq' => ?_))
  cases r with
  | error e => exact hx pins σ _ _ e s' I2 hq'
  | ok fl =>
    cases fl with
    | ret u =>
      obtain ⟨v, H', I3, rv, ev, q3⟩ := I2.after hq'
      subst ev
      exact ⟨rv, ⟨V.ref (s.heap.objs.size + 1), H', I3, rfl, q3⟩⟩
    | next => exact False.elim hq'
    | brk => exact False.elim hq'
    | cont => exact False.elim hq'
theorem pe_make (M : Mk X.K C f) (F : FnOk X.prog X.w X.K X.mg X.base CX k f fd ps sp) (hr : Room (k + 1) X.A) (hg : Gl X x) (hm : X.mg x = some (.ref C)) (hb : Binds X.K fd ps ds) (hd : Vals dvs ds) (hx : Passes CX X E)
    (ha : PA X (e :: es) t) (hdb : (x == ("__debug__" : Str)) = false := by decide) (he : starEach (e :: es) X.env = (false, eval e X.env) :: starEach es X.env := by rfl) (hpl : (backTo pos (starEach es X.env)).any (·.1) = false := by rfl) :
    PE X (.Call (.Name x p) (e :: es) [] pos) (tMake C sp dvs E t) := by
  intro pins s σ H Q I h
  refine wpAny_Call_Name_kw (ld_glob I hg hm ?_ hdb)
  refine PySem.W.callWith_K (h₀ := X.base) I.ok.mod.kin M.kp (thn (ha pos pins s σ H _ I h) fun us s1 ⟨vs, H1, I1, r, q⟩ => ⟨I1.kIn, ?_⟩) he hpl
  exact run_make M F hr hb hd hx I1 r q
end
def PK (X : Cx) (kws : List Keyword) (t : TA) : Prop :=
  ∀ (pos : Pos) (pins : List (Addr × Obj)) (s : Shared) (σ : St) (H : Hp) (Q : List V → Hp → Prop), Inv X pins σ H s → t σ H Q → wpAny (model X.prog X.w) X.A (evalAll ((backToKw pos (keywordEach kws X.env)).map (·.2))) (AP X pins σ Q) X.xe s
section
variable {X : Cx} {CX : CXT} {k : Nat} {f C : Addr} {fd : FuncData} {ps ks : List Str} {sp : Sp} {E : XK} {x m : Str} {p pos apos kpos : Pos} {e o : Expr} {es : List Expr} {kws : List Keyword} {te ta : TE} {t tk : TA} {nm : Option Str}
structure KBinds (K : PySem.W.Frag) (fd : FuncData) (ps ks : List Str) (g : List Value → List Value → List Value) (gV : List V → List V → List V) : Prop where
  to : ∀ (s : Shared) (us ws : List Value), K.In s.heap → (g us ws).length = ps.length → BindsTo s fd ⟨us, ks.zip ws⟩ (ps.zip (g us ws))
  rel : ∀ {vs : List V} {us : List Value} {zs : List V} {ws : List Value}, Vals vs us → Vals zs ws → Vals (gV vs zs) (g us ws)
def tCallK (sp : Sp) (gV : List V → List V → List V) (E : XK) (t tk : TA) : TE := fun σ H Q => t σ H fun vs H1 => tk σ H1 fun zs H2 => sp (gV vs zs) H2 Q E
variable {g : List Value → List Value → List Value} {gV : List V → List V → List V}
end
structure FnScope (N P : List Str) (sc : Scope) : Prop where
  kind : sc.kind = .function
  co : sc.isCoroutine = false
  gen : sc.isGenerator = false
  nd : N.Nodup
  pre : N.take P.length = P
  par : ∀ x ∈ P, sc.names.lookup x = some .local ∨ sc.names.lookup x = some .cell
  nofree : ∀ y ∈ sc.names, y.2 ≠ .free
theorem bindL_out {kindOf : Str → Option NameKind} {x : Str} : ∀ {binds : List (Str × Value)} {m : Str → Option Value}, (∀ v, (x, v) ∉ binds) → bindL kindOf binds m x = m x
  | [], _, _ => rfl
  | (n, v) :: r, m, h => by
    unfold bindL
    rw [bindL_out fun w hw => h w (List.mem_cons_of_mem _ hw)]
    split
    · have : x ≠ n := by rintro rfl; exact h v List.mem_cons_self
      simp [this]
    · rfl
theorem bindC_out {kindOf : Str → Option NameKind} {x : Str} : ∀ {binds : List (Str × Value)} {m : Str → Option Value}, (∀ v, (x, v) ∉ binds) → bindC kindOf binds m x = m x
  | [], _, _ => rfl
  | (n, v) :: r, m, h => by
    unfold bindC
    rw [bindC_out fun w hw => h w (List.mem_cons_of_mem _ hw)]
    split
    · rfl
    · have : x ≠ n := by rintro rfl; exact h v List.mem_cons_self
      simp [this]
theorem bindL_get {kindOf : Str → Option NameKind} {x : Str} {v : Value} : ∀ {P : List Str} {vs : List Value} {i : Nat} {m : Str → Option Value}, P.Nodup → P[i]? = some x → vs[i]? = some v → kindOf x = some .local →
    bindL kindOf (P.zip vs) m x = some v
  | [], _, _, _, _, h, _, _ => by simp at h
  | _ :: _, [], _, _, _, _, h, _ => by simp at h
  | p :: P, w :: vs, 0, m, nd, h1, h2, hk => by
    simp at h1 h2; subst h1; subst h2
    show bindL kindOf ((p, w) :: P.zip vs) m p = _
    unfold bindL
    rw [bindL_out fun v hv => (List.nodup_cons.mp nd).1 (List.of_mem_zip hv).1, if_pos hk]
    simp
  | p :: P, w :: vs, i + 1, m, nd, h1, h2, hk => by
    show bindL kindOf ((p, w) :: P.zip vs) m x = _
    unfold bindL
    exact bindL_get (i := i) (List.nodup_cons.mp nd).2 (by simpa using h1) (by simpa using h2) hk
theorem bindC_get {kindOf : Str → Option NameKind} {x : Str} {v : Value} : ∀ {P : List Str} {vs : List Value} {i : Nat} {m : Str → Option Value}, P.Nodup → P[i]? = some x → vs[i]? = some v → kindOf x ≠ some .local →
    bindC kindOf (P.zip vs) m x = some v
  | [], _, _, _, _, h, _, _ => by simp at h
  | _ :: _, [], _, _, _, _, h, _ => by simp at h
  | p :: P, w :: vs, 0, m, nd, h1, h2, hk => by
    simp at h1 h2; subst h1; subst h2
    show bindC kindOf ((p, w) :: P.zip vs) m p = _
    unfold bindC
    rw [bindC_out fun v hv => (List.nodup_cons.mp nd).1 (List.of_mem_zip hv).1, if_neg hk]
    simp
  | p :: P, w :: vs, i + 1, m, nd, h1, h2, hk => by
    show bindC kindOf ((p, w) :: P.zip vs) m x = _
    unfold bindC
    exact bindC_get (i := i) (List.nodup_cons.mp nd).2 (by simpa using h1) (by simpa using h2) hk
def start (N : List Str) (vs : List V) : St := vs.map some ++ List.replicate (N.length - vs.length) none
def cxOf (CX : CXT) (P : Program) (w : World) (K : PySem.W.Frag) (mg : Str → Option Value) (base : Heap) (N : List Str) (qual : Str) (scope : Scope) (f : Addr) (cd : Value) (A : Around) (outer : List Env) (s : Shared) (H : Hp) (E : XK) : Cx where
  prog := P
  w := w
  K := K
  mg := mg
  base := base
  A := A.deeper (envOfC qual scope s.heap.objs.size f cd)
  N := N
  s₀ := s
  H₀ := H
  env := envOfC qual scope s.heap.objs.size f cd
  outer := outer
  stack := envOfC qual scope s.heap.objs.size f cd :: outer
  ex := []
  calm := true
  fn := fun _ => true
  pn := []
  xe := fun e s' => wpAny (model P w) (A.deeper (envOfC qual scope s.heap.objs.size f cd)) (leaving (envOfC qual scope s.heap.objs.size f cd) e) (fun _ s'' => CX outer H s E e s'') (fun e' s'' => CX outer H s E e' s'') s'
theorem cell_has {sc : Scope} {n : Nat} {x : Str} (h : sc.names.lookup x = some .cell) : ∃ c, (cellsFrom n sc.names []).lookup x = some c := by
  have q := PySem.W.cellsFrom_some sc.names n [] (.inl h)
  exact Option.isSome_iff_exists.mp q
theorem inv_start {CX : CXT} {P : Program} {w : World} {K : PySem.W.Frag} {mg : Str → Option Value} {base : Heap} {N ps : List Str} {qual : Str} {scope : Scope} {f : Addr} {cd : Value} {A : Around} {outer : List Env} {s s1 : Shared} {H : Hp} {E : XK} {us : List Value} {vs : List V}
    (S : FnScope N ps scope) (hd : A.handled = none) (e0 : Env0 P w K mg base A outer s H) (hl : vs.length = ps.length) (r : Vals vs us)
    (x : InCallC s s.heap.objs.size (bindL (envOfC qual scope s.heap.objs.size f cd).kindOf (ps.zip us) fun _ => none) (cellsFrom (s.heap.objs.size + 1) scope.names []) (bindC (envOfC qual scope s.heap.objs.size f cd).kindOf (ps.zip us) fun _ => none) s1) :
    Inv (cxOf CX P w K mg base N qual scope f cd A outer s H E) [] (start N vs) H s1 := by
  have hpl : ps.length ≤ N.length := by have := congrArg List.length S.pre; rw [List.length_take] at this; omega
  obtain ⟨h1, tk, rfl, hk⟩ := x.done
  have noA : ∀ b : Addr, b ∉ (cxOf CX P w K mg base N qual scope f cd A outer s H E).ex := fun b z => absurd (show b ∈ ([] : List Addr) from z) (by simp)
  refine ⟨⟨e0.mod, S.kind, rfl, rfl, Nat.le_refl _, fun y z c h1 h2 => ?_, fun y hy => ?_, fun y c _ h => ?_, fun _ => hd, Around.frames_deeper e0.frames, .inr ⟨rfl, rfl⟩, fun b z => absurd z (noA b), e0.bs, e0.bsz, fun b _ _ => noA b, fun b z => absurd z (noA b), e0.funs, e0.frf⟩,
    rfl, e0.bare, Un.kept hk, ⟨_, x.toInCall.ns, fun i y v h1 h2 h3 => ?_⟩, fun y c h => ⟨_, x.cell y c h⟩, e0.hok.fresh (Nat.le_refl _), fun y c h => ?_, fun p hp => absurd (show p ∈ ([] : List (Addr × Obj)) from hp) (by simp), e0.hok.kept hk, ?_⟩
  · exact name_of_addr x.apart (PySem.mem_of_lookup h1) (PySem.mem_of_lookup h2)
  · have hy : scope.names.lookup y = some .cell ∨ scope.names.lookup y = some .free := hy
    rcases hy with hy | hy
    · exact cell_has hy
    · exact absurd rfl (S.nofree _ (PySem.mem_of_lookup hy))
  · exact Nat.le_of_lt (x.above y c (PySem.mem_of_lookup h))
  · have hi : i < vs.length := by
      unfold start at h2
      by_cases hi : i < vs.length
      · exact hi
      · rw [List.getElem?_append_right (by simpa using hi)] at h2
        rw [List.getElem?_replicate] at h2
        split at h2 <;> cases h2
    have ha : vs[i]? = some v := by
      unfold start at h2
      rw [List.getElem?_append_left (by simpa using hi), List.getElem?_map] at h2
      cases e : vs[i]? with
      | none => rw [e] at h2; cases h2
      | some a => rw [e] at h2; cases h2; rfl
    obtain ⟨u, hu, rv⟩ := r.get ha
    have hp : ps[i]? = some y := by
      rw [← S.pre, List.getElem?_take_of_lt (by omega)]; exact h1
    have ndP : ps.Nodup := by rw [← S.pre]; exact S.nd.sublist (List.take_sublist _ _)
    refine ⟨u, rv, ?_⟩
    rcases S.par y (List.mem_of_getElem? hp) with k | k
    · exact .inl ⟨k, bindL_get ndP hp hu k⟩
    · obtain ⟨c, e⟩ := cell_has (n := s.heap.objs.size + 1) k
      refine .inr ⟨.inl k, c, e, ?_⟩
      have q := x.cell y c e
      rw [bindC_get ndP hp hu (by show scope.names.lookup y ≠ _; rw [k]; decide)] at q
      exact q
  · exact e0.hok.fresh (Nat.le_of_lt (x.above y c (PySem.mem_of_lookup h)))
  · unfold start
    show _ = N.length
    rw [List.length_append, List.length_map, List.length_replicate]
    omega
theorem fn_of {CX : CXT} {P : Program} {w : World} {K : PySem.W.Frag} {mg : Str → Option Value} {base : Heap} {k : Nat} {f : Addr} {name qual : Str} {params : Arguments} {body : List Stmt} {scope : Scope} {dV kV doc pm cdv ct oc : Value} {an od : Option Addr}
    {osl : Array (Option Value)} {N ps : List Str} {sp : Sp} (lk : K.lookup f = some ⟨oc, od, .func (PySem.W.fnOf name qual params body scope dV kV doc pm an cdv ct), osl⟩) (hcd : PySem.W.codeIn K cdv qual = true) (S : FnScope N ps scope)
    (len : ∀ vs H Q E, sp vs H Q E → vs.length = ps.length)
    (hbody : ∀ (A : Around) (outer : List Env) (s : Shared) (H : Hp) (vs : List V) (Q : VK) (E : XK), Room k (A.deeper (envOfC qual scope s.heap.objs.size f cdv)) → sp vs H Q E →
      ∃ t, PSs (cxOf CX P w K mg base N qual scope f cdv A outer s H E) body t ∧ t { nx := fun _ H' => Q .non H', rt := Q } (start N vs) H) :
    FnOk P w K mg base CX (k + 1) f (PySem.W.fnOf name qual params body scope dV kV doc pm an cdv ct) ps sp := by
  refine ⟨len, fun A outer s H args us vs Q E hr e0 hb r hsp => ?_⟩
  have hl := len _ _ _ _ hsp
  have KX : K.In s.heap := e0.mod.kin.keeps fun b o e => (e0.bs b o e).1
  have lim : s.heap.NoLimit := e0.mod.nolimit.keeps fun b o e => (e0.bs b o e).1
  have hkind : ∀ y ∈ ps.zip us, scope.names.lookup y.1 = some .local ∨ (scope.names.lookup y.1 = some .cell ∧ ((cellsFrom (s.heap.objs.size + 1) scope.names []).lookup y.1).isSome = true) := fun ⟨n, v⟩ hy => by
    rcases S.par n (List.of_mem_zip hy).1 with q | q
    · exact .inl q
    · exact .inr ⟨q, PySem.W.cellsFrom_some _ _ _ (.inl q)⟩
  refine codeAny_call_function hr.depth (KX _ _ lk) rfl S.co S.gen rfl (PySem.W.codeRec_of KX hcd) (hb _ _ _ _ ?_)
  refine wpAny_newFunctionEnv_cells S.kind hkind fun env he s1 x => ?_
  subst he
  refine ⟨lim.keeps x.toInCall.keep, codeAny_func ?_⟩
  obtain ⟨t, ht, hq⟩ := hbody A outer s H vs Q E (hr.deeper _) hsp
  have I : Inv (cxOf CX P w K mg base N qual scope f cdv A outer s H E) [] (start N vs) H s1 := inv_start S hr.hd e0 hl r x
  refine wpAny_mono (ht [] s1 (start N vs) H _ I hq) (fun fl s' hs => ?_) fun e s' hs => hs
  have fin : ∀ {σ' : St} {H' : Hp} {v : V} {u : Value}, Inv (cxOf CX P w K mg base N qual scope f cdv A outer s H E) [] σ' H' s' → RelV v u → Q v H' → CE outer P w H s Q u s' :=
    fun {σ' H' v u} J rv q => ⟨v, H', J.os, J.bare, J.base, J.hok, rv, q⟩
  cases fl with
  | ret u =>
    obtain ⟨v, σ', H', J, rv, q⟩ := hs
    exact fin J rv q
  | next =>
    obtain ⟨σ', H', J, q⟩ := hs
    exact fin (v := V.non) (u := Value.none) J rfl q
  | brk =>
    obtain ⟨_, _, _, q⟩ := hs
    exact False.elim q
  | cont =>
    obtain ⟨_, _, _, q⟩ := hs
    exact False.elim q
end L2
namespace L2
open PySem PySem.Spec PyProof.Rows
section
variable {X : Cx} {x : Str} {p pos : Pos} {e : Expr} {es : List Expr} {t : TA} {id T : String} {r : List V → Hp → VK → Prop}
def tCB (r : List V → Hp → VK → Prop) (t : TA) : TE := fun σ H Q => t σ H fun vs H1 => r vs H1 Q
theorem pe_callB (hc : CallR X (.builtin id) r) (hg : Gl X x) (hm : X.mg x = none) (hv : bootBuiltins x = some (.builtin id)) (ha : PA X (e :: es) t) (hn : x ≠ "__name__" := by decide) (hdb : (x == ("__debug__" : Str)) = false := by decide)
    (he : starEach (e :: es) X.env = (false, eval e X.env) :: starEach es X.env := by rfl) (hpl : (backTo pos (starEach es X.env)).any (·.1) = false := by rfl) : PE X (.Call (.Name x p) (e :: es) [] pos) (tCB r t) := by
  intro pins s σ H Q I h
  refine wpAny_Call_Name_kw (ld_blt I hg hm hv ?_ hn hdb)
  exact PyProof.Rows.callWith_builtin1 (thn (ha pos pins s σ H _ I h) fun us s1 ⟨vs, H1, I1, r1, q1⟩ => hc pins s1 σ H1 vs us Q I1 r1 q1) he hpl
theorem pe_callTy (hc : CallR X (.type T) r) (hg : Gl X x) (hm : X.mg x = none) (hv : bootBuiltins x = some (.type T)) (ha : PA X (e :: es) t) (hn : x ≠ "__name__" := by decide) (hdb : (x == ("__debug__" : Str)) = false := by decide)
    (he : starEach (e :: es) X.env = (false, eval e X.env) :: starEach es X.env := by rfl) (hpl : (backTo pos (starEach es X.env)).any (·.1) = false := by rfl) : PE X (.Call (.Name x p) (e :: es) [] pos) (tCB r t) := by
  intro pins s σ H Q I h
  refine wpAny_Call_Name_kw (ld_blt I hg hm hv ?_ hn hdb)
  exact PyProof.Rows.callWith_type1 (thn (ha pos pins s σ H _ I h) fun us s1 ⟨vs, H1, I1, r1, q1⟩ => hc pins s1 σ H1 vs us Q I1 r1 q1) he hpl
end
end L2
namespace HT
open PySem PyProof.Rows
def lexLt : List Int → List Int → Bool
  | [], [] => false
  | [], _ :: _ => true
  | _ :: _, [] => false
  | x :: xs, y :: ys => if x = y then lexLt xs ys else decide (x < y)
section
open PySem.SeqAt
open PySem.AutoSeq1 (wpAny_loadPart')
open PySem.MeetsSeq PySem.MeetsSeq2 PySem.MeetsSeq3
end
section
variable {prog : Program} {w : World} {A : Around} {E : Value → Shared → Prop} {s : Shared}
def sIx (n d : Nat) : Option Int → Nat
  | none => d
  | some v => if v < 0 then (v + (n : Int)).toNat else min v.toNat n
theorem sIx_none (n d : Nat) : sIx n d none = d := rfl
theorem sIx_nat (n d k : Nat) : sIx n d (some (k : Int)) = min k n := by
  show (if (k : Int) < 0 then ((k : Int) + (n : Int)).toNat else min (k : Int).toNat n) = min k n
  rw [if_neg (by omega), Int.toNat_natCast]
end
end HT
namespace L2
open PySem PySem.Spec PyProof.Rows
abbrev TO := St → Hp → (Option Int → Hp → Prop) → Prop
def PO (X : Cx) (e : Option Expr) (t : TO) : Prop :=
  ∀ (pins : List (Addr × Obj)) (s : Shared) (σ : St) (H : Hp) (Q : Option Int → Hp → Prop), Inv X pins σ H s → t σ H Q →
    wpAny (model X.prog X.w) X.A (evalPart e X.env) (fun u s' => ∃ o H', Inv X pins σ H' s' ∧ IsPart u o ∧ Q o H') X.xe s
def tNoPart : TO := fun _ H Q => Q none H
def tPart (t : TE) : TO := fun σ H Q => t σ H fun x H1 => ∃ i, x = .int i ∧ Q (some i) H1
section
variable {X : Cx} {e : Expr} {te : TE} {lo hi : Option Expr} {tl th : TO} {pos p2 : Pos}
theorem po_none : PO X none tNoPart := by
  intro pins s σ H Q I h
  rw [evalPart_none]
  exact wpAny_pure ⟨none, H, I, .none, h⟩
theorem po_some (h : PE X e te) : PO X (some e) (tPart te) := by
  intro pins s σ H Q I hw
  rw [evalPart_some]
  refine thn (h pins s σ H _ I hw) fun u s1 ⟨x, H1, I1, r1, q1⟩ => ?_
  obtain ⟨i, rfl, q⟩ := q1
  obtain ⟨t, rfl⟩ := r1
  exact ⟨some i, H1, I1, .int i t, q⟩
def SlR (X : Cx) (r : V → Option Int → Option Int → Hp → VK → Prop) : Prop :=
  ∀ (pins : List (Addr × Obj)) (s : Shared) (σ : St) (H : Hp) (x : V) (v vl vu : Value) (lo hi : Option Int) (sl : Addr) (Q : VK), Inv X pins σ H s → RelV x v → s.heap.IsSliceOf sl vl vu .none → IsPart vl lo → IsPart vu hi → r x lo hi H Q →
    ∃ T id, typeLookup (.type T) "__getitem__" = pure (some (.builtin id)) ∧ s.TypeIs v T ∧ wpAny (model X.prog X.w) X.A (getItem v (.ref sl)) (EP X pins σ Q) X.xe s
theorem SlR.or {r r' : V → Option Int → Option Int → Hp → VK → Prop} (h : SlR X r) (h' : SlR X r') : SlR X (fun x lo hi H Q => r x lo hi H Q ∨ r' x lo hi H Q) := by
  intro pins s σ H x v vl vu lo hi sl Q I rx hs pl pu q
  rcases q with q | q
  · exact h pins s σ H x v vl vu lo hi sl Q I rx hs pl pu q
  · exact h' pins s σ H x v vl vu lo hi sl Q I rx hs pl pu q
def tSl (r : V → Option Int → Option Int → Hp → VK → Prop) (te : TE) (tl th : TO) : TE := fun σ H Q => te σ H fun x H1 => tl σ H1 fun l H2 => th σ H2 fun u H3 => r x l u H3 Q
theorem pe_slice {r : V → Option Int → Option Int → Hp → VK → Prop} (hr : SlR X r) (he : PE X e te) (hl : PO X lo tl) (hu : PO X hi th) : PE X (.Subscript e (.Slice lo hi none p2) pos) (tSl r te tl th) := by
  intro pins s σ H Q I h
  refine Subscript_ (thn (he pins s σ H _ I h) fun v s1 ⟨x, H1, I1, r1, q1⟩ => ?_)
  refine wpAny_Slice (thn (hl pins s1 σ H1 _ I1 q1) fun vl s2 ⟨l, H2, I2, pl, q2⟩ => thn (hu pins s2 σ H2 _ I2 q2) fun vu s3 ⟨u, H3, I3, pu, q3⟩ => ?_)
  rw [evalPart_none]
  refine wpAny_pure ?_
  have I4 : Inv X pins σ H3 { s3 with heap := s3.heap.push { cls := .type "slice", data := .fields #[vl, vu, .none] } } := I3.kept (t' := s3.toks) fun b ob q => Heap.get?_push_of_some _ q
  obtain ⟨T, id, hT, ht, hg⟩ := hr pins { s3 with heap := s3.heap.push { cls := .type "slice", data := .fields #[vl, vu, .none] } } σ H3 x v vl vu l u s3.heap.objs.size Q I4 r1 (Heap.IsSliceOf.new ..) pl pu q3
  show wpAny (model X.prog X.w) X.A (subscriptTail e (.Slice lo hi none p2) v (.ref s3.heap.objs.size)) (EP X pins σ Q) X.xe { s3 with heap := s3.heap.push { cls := .type "slice", data := .fields #[vl, vu, .none] } }
  exact tail_any (ops := [.ref s3.heap.objs.size, v]) ht hT hg (by with_unfolding_all rfl)
def cutV (xs : List V) (lo hi : Option Int) : List V := (xs.drop (HT.sIx xs.length 0 lo)).take (HT.sIx xs.length xs.length hi - HT.sIx xs.length 0 lo)
theorem cutV_length (xs : List V) (lo hi : Option Int) : (cutV xs lo hi).length ≤ xs.length := by
  unfold cutV
  rw [List.length_take, List.length_drop]
  omega
def rSlT (K : PySem.W.Frag) : V → Option Int → Option Int → Hp → VK → Prop := fun x lo hi H Q => ∃ a xs, x = .ref a ∧ SqT K H a xs ∧
  ¬ (HT.sIx xs.length 0 lo = 0 ∧ HT.sIx xs.length xs.length hi = xs.length) ∧ ∀ p, H p = none → Q (.ref p) (upd H p (.tup (cutV xs lo hi)))
def rLtT (K : PySem.W.Frag) : R2 := fun x y H Q => ∃ a b ns ms, x = .ref a ∧ y = .ref b ∧ SqT K H a (ns.map V.int) ∧ SqT K H b (ms.map V.int) ∧ Q (.bl (HT.lexLt ns ms)) H
def rCatT (K : PySem.W.Frag) : R2 := fun x y H Q => ∃ a b xs ys, x = .ref a ∧ y = .ref b ∧ SqT K H a xs ∧ SqT K H b ys ∧ xs ≠ [] ∧ xs.length + ys.length ≤ sizeLine ∧
  (ys = [] → Q (.ref a) H) ∧ (ys ≠ [] → ∀ p, H p = none → Q (.ref p) (upd H p (.tup (xs ++ ys))))
end
end L2
namespace L2
open PySem PySem.Spec PyProof.Rows
def ixN (n : Nat) (i : Int) : Option Nat := if 0 ≤ i then (if i < n then some i.toNat else none) else if -(n : Int) ≤ i then some (i + n).toNat else none
def atI {α : Type} (xs : List α) (i : Int) : Option α := (ixN xs.length i).bind fun j => xs[j]?
theorem ixN_seq {n : Nat} {i : Int} {j : Nat} (h : ixN n i = some j) : seqIndex? i n = some j ∧ j < n ∧ -(n : Int) ≤ i ∧ i < n := by
  unfold ixN at h
  by_cases h0 : 0 ≤ i
  · rw [if_pos h0] at h
    by_cases h1 : i < n
    · rw [if_pos h1] at h
      have e : i.toNat = j := Option.some.inj h
      exact ⟨by rw [seqIndex_of h0 h1, e], by omega, by omega, h1⟩
    · rw [if_neg h1] at h; cases h
  · rw [if_neg h0] at h
    by_cases h1 : -(n : Int) ≤ i
    · rw [if_pos h1] at h
      have e : (i + n).toNat = j := Option.some.inj h
      exact ⟨by rw [seqIndex_neg (by omega) h1, e], by omega, h1, by omega⟩
    · rw [if_neg h1] at h; cases h
theorem atI_get {α : Type} {xs : List α} {i : Int} {v : α} (h : atI xs i = some v) : ∃ j, seqIndex? i xs.length = some j ∧ xs[j]? = some v ∧ j < xs.length ∧ -(xs.length : Int) ≤ i ∧ i < xs.length := by
  unfold atI at h
  cases e : ixN xs.length i with
  | none => rw [e] at h; cases h
  | some j =>
    rw [e] at h
    obtain ⟨h1, h2, h3, h4⟩ := ixN_seq e
    exact ⟨j, h1, h, h2, h3, h4⟩
theorem atI_nat {α : Type} {xs : List α} {j : Nat} {v : α} (h : xs[j]? = some v) : atI xs (j : Int) = some v := by
  have hj : j < xs.length := (List.getElem?_eq_some_iff.mp h).1
  have e : ixN xs.length (j : Int) = some j := by
    unfold ixN
    rw [if_pos (by omega), if_pos (by omega)]; simp
  unfold atI; rw [e]; exact h
def PlainIx (b : Expr) : Prop := ∀ o i, subscripted b false o i = operate [o, i] (getItem o i)
def IxR (X : Cx) (r : R2) : Prop :=
  ∀ (value slice : Expr) (pins : List (Addr × Obj)) (s : Shared) (σ : St) (H : Hp) (x y : V) (v u : Value) (Q : VK), Inv X pins σ H s → RelV x v → RelV y u → r x y H Q →
    subscripted slice false v u = operate [v, u] (getItem v u) → wpAny (model X.prog X.w) X.A (subscriptTail value slice v u) (EP X pins σ Q) X.xe s
def MtR (X : Cx) (id : String) (r : V → List V → Hp → VK → Prop) : Prop :=
  ∀ (pins : List (Addr × Obj)) (s : Shared) (σ : St) (H : Hp) (x : V) (xs : List V) (v : Value) (us : List Value) (Q : VK), Inv X pins σ H s → RelV x v → Vals xs us → r x xs H Q →
    wpAny (model X.prog X.w) X.A (call (.builtin id) (v :: us)) (EP X pins σ Q) X.xe s
section
variable {X : Cx} {a b : Expr} {ta tb : TE} {pos : Pos}
theorem IxR.or {r r' : R2} (h : IxR X r) (h' : IxR X r') : IxR X (fun x y H Q => r x y H Q ∨ r' x y H Q) := by
  intro value slice pins s σ H x y v u Q I rx ry q hs
  rcases q with q | q
  · exact h value slice pins s σ H x y v u Q I rx ry q hs
  · exact h' value slice pins s σ H x y v u Q I rx ry q hs
theorem MtR.or {id : String} {r r' : V → List V → Hp → VK → Prop} (h : MtR X id r) (h' : MtR X id r') : MtR X id (fun x xs H Q => r x xs H Q ∨ r' x xs H Q) := by
  intro pins s σ H x xs v us Q I rx rs q
  rcases q with q | q
  · exact h pins s σ H x xs v us Q I rx rs q
  · exact h' pins s σ H x xs v us Q I rx rs q
theorem pe_ix {r : R2} (hr : IxR X r) (ha : PE X a ta) (hb : PE X b tb) (hs : PlainIx b) : PE X (.Subscript a b pos) (tOp r ta tb) := by
  intro pins s σ H Q I h
  exact Subscript_ (binT ha hb I h fun v u s2 x y H2 I2 rx ry q => hr a b pins s2 σ H2 x y v u Q I2 rx ry q (hs _ _))
def rIxL (K : PySem.W.Frag) : R2 := fun x y H Q => ∃ p xs i v, x = .ref p ∧ y = .int i ∧ SqL K H p xs ∧ atI xs i = some v ∧ Q v H
def rIxT (K : PySem.W.Frag) : R2 := fun x y H Q => ∃ p xs i v, x = .ref p ∧ y = .int i ∧ SqT K H p xs ∧ atI xs i = some v ∧ Q v H
def rIxS : R2 := fun x y H Q => ∃ z i c, x = .str z ∧ y = .int i ∧ z.length ≤ sizeLine ∧ atI z.cps.toList i = some c ∧ Q (.str ⟨#[c]⟩) H
theorem ix_list : IxR X (rIxL X.K) := by
  intro value slice pins s σ H x y v u Q I rx ry h hs
  obtain ⟨p, xs, i, z, rfl, rfl, hq, he, q⟩ := h
  cases rx
  obtain ⟨t, rfl⟩ := ry
  obtain ⟨its, r, pl, hz⟩ := I.list hq
  obtain ⟨j, h1, h2, h3, h4, h5⟩ := atI_get he
  obtain ⟨w, ew, rw'⟩ := r.get h2
  have hl := r.length
  have hn := line63
  have fin : EP X pins σ Q w s := ⟨z, H, I, rw', q⟩
  by_cases h0 : 0 ≤ i
  · have hj : i.toNat = j := by
      rw [seqIndex_of h0 h5] at h1
      exact Option.some.inj h1
    exact item_listR pl.isList h0 (by omega) (by rw [hj]; simpa using ew) fin hs
  · have hj : (i + (its.toArray.size : Int)).toNat = j := by
      rw [seqIndex_neg (by omega) h4] at h1
      rw [List.size_toArray, ← hl]
      exact Option.some.inj h1
    exact subscriptTail_builtinR (x := w) pl.isList.typeIs slot_list_getitem.lookup
      (wpAny_getItem_list_neg (Q := fun r s' => r = w ∧ EP X pins σ Q r s') pl.isList (by omega) (by rw [List.size_toArray] <;> omega) (by omega) (by rw [hj]; simpa using ew) ⟨rfl, fin⟩) hs
theorem ix_tup : IxR X (rIxT X.K) := by
  intro value slice pins s σ H x y v u Q I rx ry h hs
  obtain ⟨p, xs, i, z, rfl, rfl, hq, he, q⟩ := h
  cases rx
  obtain ⟨t, rfl⟩ := ry
  obtain ⟨its, r, pl, hz⟩ := I.tuple hq
  obtain ⟨j, h1, h2, h3, h4, h5⟩ := atI_get he
  obtain ⟨w, ew, rw'⟩ := r.get h2
  have hl := r.length
  have hn := line63
  have fin : EP X pins σ Q w s := ⟨z, H, I, rw', q⟩
  exact subscriptTail_builtinR (x := w) pl.typeIs slot_tuple_getitem.lookup
    (getItem_tuple (j := j) (Q := fun r s' => r = w ∧ EP X pins σ Q r s') pl (by omega) (by omega) (by rw [List.size_toArray, ← hl]; exact h1) (by simpa using ew) ⟨rfl, fin⟩) hs
theorem ix_str : IxR X rIxS := by
  intro value slice pins s σ H x y v u Q I rx ry h hs
  obtain ⟨z, i, c, rfl, rfl, hz, he, q⟩ := h
  obtain ⟨t, rfl⟩ := rx
  obtain ⟨t', rfl⟩ := ry
  obtain ⟨j, h1, h2, h3, h4, h5⟩ := atI_get he
  have hl : z.cps.toList.length = z.length := by simp [Str.length]
  rw [hl] at h1 h4 h5
  have hn := line63
  exact tail_any (typeIs_str s z t) slot_str_getitem.lookup (getItem_str (c := c) (by
    have e1 : decide (i < -(2 ^ 63 : Int)) = false := decide_eq_false (by omega)
    have e2 : decide (i ≥ 2 ^ 63) = false := decide_eq_false (by omega)
    rw [e1, e2, Bool.or_false]) (by rw [h1]; simpa using h2) ⟨.str ⟨#[c]⟩, H, I.tok _, ⟨_, rfl⟩, q⟩) hs
def rIx (K : PySem.W.Frag) : R2 := fun x y H Q => rIxL K x y H Q ∨ rIxT K x y H Q ∨ rIxS x y H Q
theorem Inv.lst {pins : List (Addr × Obj)} {σ : St} {H : Hp} {s : Shared} {p : Addr} {xs : List V} (I : Inv X pins σ H s) (h : H p = some (.lst xs)) :
    ∃ (its : List Value) (n : Nat), Vals xs its ∧ s.heap.get? p = some { cls := .type "list", data := .seq its.toArray n } ∧ xs.length ≤ sizeLine := by
  obtain ⟨z, its, n, r, e⟩ := I.hok p _ h
  exact ⟨its, n, r, e, z⟩
def rSetL : V → V → V → Hp → (Hp → Prop) → Prop := fun o i v H Q => ∃ p xs k j, o = .ref p ∧ i = .int k ∧ H p = some (.lst xs) ∧ ixN xs.length k = some j ∧ Q (upd H p (.lst (xs.set j v)))
theorem slice_bounds (lo hi : Option Int) (n : Nat) : (sliceBounds lo hi none n).1 = ((HT.sIx n 0 lo : Nat) : Int) ∧ (sliceBounds lo hi none n).2.1 = ((HT.sIx n n hi : Nat) : Int) ∧ (sliceBounds lo hi none n).2.2 = 1 := by
  refine ⟨?_, ?_, rfl⟩
  · cases lo with
    | none => simp [sliceBounds, HT.sIx]
    | some i =>
      simp only [sliceBounds, HT.sIx, Option.getD_none, show (1 : Int) > 0 by decide, if_true]
      by_cases h : i < 0
      · simp only [h, if_true] <;> omega
      · simp only [h, if_false] <;> omega
  · cases hi with
    | none => simp [sliceBounds, HT.sIx]
    | some i =>
      simp only [sliceBounds, HT.sIx, Option.getD_none, show (1 : Int) > 0 by decide, if_true]
      by_cases h : i < 0
      · simp only [h, if_true] <;> omega
      · simp only [h, if_false] <;> omega
theorem slicePick_cut (its : List Value) (lo hi : Option Int) : slicePick its.toArray lo hi none = ((its.drop (HT.sIx its.length 0 lo)).take (HT.sIx its.length its.length hi - HT.sIx its.length 0 lo)).toArray := by
  obtain ⟨h1, h2, h3⟩ := slice_bounds lo hi its.toArray.size
  unfold slicePick
  rw [h1, h2, h3]
  simp only [sliceRange_one, pick_run, List.size_toArray] <;> rfl
def rSlL (K : PySem.W.Frag) : V → Option Int → Option Int → Hp → VK → Prop := fun x lo hi H Q => ∃ a xs, x = .ref a ∧ SqL K H a xs ∧ ∀ p, H p = none → Q (.ref p) (upd H p (.lst (cutV xs lo hi)))
theorem sl_list : SlR X (rSlL X.K) := by
  intro pins s σ H x v vl vu lo hi sl Q I rx hs pl pu h
  obtain ⟨a, xs, rfl, hx, q⟩ := h
  cases rx
  obtain ⟨its, r, ht, hz⟩ := I.list hx
  have hlen := r.length
  refine ⟨"list", _, slot_list_getitem.lookup, ht.isList.typeIs, ?_⟩
  refine wpAny_getItem_list_slice ht.isList hs pl pu .none (by simp) ?_ (by rw [List.size_toArray] <;> omega)
  rw [slicePick_cut, ← hlen]
  refine ⟨.ref s.heap.objs.size, _, I.laid (t' := s.toks) (o := .lst (cutV xs lo hi)) (fun b ob q => Heap.get?_push_of_some _ q) (Nat.le_refl _) ?_, rfl, q _ (I.hok.fresh (Nat.le_refl _))⟩
  exact ⟨Nat.le_trans (cutV_length xs lo hi) hz, _, 0, (r.drop (HT.sIx xs.length 0 lo)).take (HT.sIx xs.length xs.length hi - HT.sIx xs.length 0 lo), Heap.get?_push_size _ rfl⟩
def flatV : V → Bool
  | .non => true
  | .bl _ => true
  | .int _ => true
  | .str _ => true
  | _ => false
def eqV : V → V → Bool
  | .non, .non => true
  | .bl a, .bl b => a == b
  | .bl a, .int b => (if a then 1 else 0) == b
  | .int a, .bl b => a == (if b then 1 else 0)
  | .int a, .int b => a == b
  | .str a, .str b => a == b
  | _, _ => false
theorem eqAt_V {A : Around} {s : Shared} {y x : V} {u v : Value} (ry : RelV y u) (rx : RelV x v) (fy : flatV y = true) (fx : flatV x = true) : SeqAt.EqAt A s u v (eqV y x) := by
  cases y with
  | non =>
    cases ry
    cases x with
    | non => cases rx; exact SeqAt.EqAt.same _
    | bl b => cases rx; exact SeqAt.EqAt.none_bool b
    | int b => obtain ⟨t, rfl⟩ := rx; exact SeqAt.EqAt.none_int b t
    | str b => obtain ⟨t, rfl⟩ := rx; exact SeqAt.EqAt.none_str b t
    | _ => exact absurd (show false = true from fx) Bool.false_ne_true
  | bl a =>
    cases ry
    cases x with
    | non => cases rx; exact SeqAt.EqAt.bool_none a
    | bl b => cases rx; exact SeqAt.EqAt.bool_bool a b
    | int b => obtain ⟨t, rfl⟩ := rx; exact SeqAt.EqAt.bool_int a b t
    | str b => obtain ⟨t, rfl⟩ := rx; exact SeqAt.EqAt.bool_str a b t
    | _ => exact absurd (show false = true from fx) Bool.false_ne_true
  | int a =>
    obtain ⟨t', rfl⟩ := ry
    cases x with
    | non => cases rx; exact SeqAt.EqAt.int_none a t'
    | bl b => cases rx; exact SeqAt.EqAt.int_bool a t' b
    | int b => obtain ⟨t, rfl⟩ := rx; exact SeqAt.EqAt.int_int a t' b t
    | str b => obtain ⟨t, rfl⟩ := rx; exact SeqAt.EqAt.int_str a t' b t
    | _ => exact absurd (show false = true from fx) Bool.false_ne_true
  | str a =>
    obtain ⟨t', rfl⟩ := ry
    cases x with
    | non => cases rx; exact SeqAt.EqAt.str_none a t'
    | bl b => cases rx; exact SeqAt.EqAt.str_bool a t' b
    | int b => obtain ⟨t, rfl⟩ := rx; exact SeqAt.EqAt.str_int a t' b t
    | str b => obtain ⟨t, rfl⟩ := rx; exact SeqAt.EqAt.str_str a t' b t
    | _ => exact absurd (show false = true from fx) Bool.false_ne_true
  | _ => exact absurd (show false = true from fy) Bool.false_ne_true
def eqU (x : V) (u : Value) : Bool := match u with
  | .none => eqV .non x
  | .bool b => eqV (.bl b) x
  | .int i _ => eqV (.int i) x
  | .str z _ => eqV (.str z) x
  | _ => false
theorem eqU_of {x y : V} {u : Value} (r : RelV y u) (f : flatV y = true) : eqU x u = eqV y x := by
  cases y with
  | non => cases r; rfl
  | bl b => cases r; rfl
  | int i => obtain ⟨t, rfl⟩ := r; rfl
  | str z => obtain ⟨t, rfl⟩ := r; rfl
  | _ => exact absurd (show false = true from f) Bool.false_ne_true
theorem any_eqU {x : V} : ∀ {xs : List V} {us : List Value}, Vals xs us → xs.all flatV = true → us.any (eqU x) = xs.any fun y => eqV y x
  | _, _, .nil, _ => rfl
  | y :: xs, u :: us, .cons r t, f => by
    rw [List.all_cons, Bool.and_eq_true] at f
    rw [List.any_cons, List.any_cons, eqU_of r f.1, any_eqU t f.2]
theorem mem_eqAt {A : Around} {s : Shared} {x : V} {v : Value} (rx : RelV x v) (fx : flatV x = true) : ∀ {xs : List V} {us : List Value}, Vals xs us → xs.all flatV = true → ∀ u ∈ us, SeqAt.EqAt A s u v (eqU x u)
  | _, _, .nil, _ => fun u hu => by cases hu
  | y :: xs, u :: us, .cons r t, f => fun u' hu => by
    rw [List.all_cons, Bool.and_eq_true] at f
    rcases List.mem_cons.mp hu with rfl | hu
    · rw [eqU_of r f.1]; exact eqAt_V r rx f.1 fx
    · exact mem_eqAt rx fx t f.2 u' hu
def inV (x : V) (xs : List V) : Bool := xs.any fun y => eqV y x
def rIn (K : PySem.W.Frag) (neg : Bool) : R2 := fun x y H Q => ∃ p xs, y = .ref p ∧ (SqL K H p xs ∨ SqT K H p xs) ∧ flatV x = true ∧ xs.all flatV = true ∧ Q (.bl (if neg then !inV x xs else inV x xs)) H
theorem op_in_seq : OpR X (compareOp .In) (rIn X.K false) := by
  intro pins s σ H x y v u Q I rx ry h
  obtain ⟨p, xs, rfl, hq, fx, fs, q⟩ := h
  cases ry
  rcases hq with hq | hq
  · obtain ⟨its, r, pl, hz⟩ := I.list hq
    refine SeqAt.in_listAt (eqU x) pl.isList (fun w hw => mem_eqAt rx fx r fs w (by simpa using hw)) ⟨.bl _, H, I, rfl, ?_⟩
    rw [show its.toArray.any (eqU x) = its.any (eqU x) by simp, any_eqU r fs]
    exact q
  · obtain ⟨its, r, pl, hz⟩ := I.tuple hq
    refine SeqAt.in_tupleAt (eqU x) pl (fun w hw => mem_eqAt rx fx r fs w (by simpa using hw)) ⟨.bl _, H, I, rfl, ?_⟩
    rw [show its.toArray.any (eqU x) = its.any (eqU x) by simp, any_eqU r fs]
    exact q
theorem op_notIn_str : OpR X (compareOp .NotIn) (fun x y H Q => ∃ i j, x = .str i ∧ y = .str j ∧ Q (.bl (!(!(Builtin.Str.occurrences j i 0 j.length 1).isEmpty))) H) := by
  intro pins s σ H x y v u Q I rx ry h
  obtain ⟨i, j, rfl, rfl, q⟩ := h
  obtain ⟨t, rfl⟩ := rx
  obtain ⟨t', rfl⟩ := ry
  exact notIn_str ⟨.bl _, H, I, rfl, q⟩
theorem call_len_seq : CallR X (.builtin "len") (fun xs H Q => ∃ p ys, xs = [.ref p] ∧ (SqL X.K H p ys ∨ SqT X.K H p ys) ∧ Q (.int ys.length) H) := by
  intro pins s σ H xs us Q I r h
  obtain ⟨p, ys, rfl, hq, q⟩ := h
  obtain ⟨u, rfl, rx⟩ := vals1 r
  cases rx
  have hn := line63
  rcases hq with hq | hq
  · obtain ⟨its, r', pl, hz⟩ := I.list hq
    have hlen := r'.length
    exact Calls.call_len_list pl.isList (by simp only [List.size_toArray] <;> omega) ⟨.int ys.length, H, I.tok _, ⟨s.toks + 1, by rw [List.size_toArray, hlen]⟩, q⟩
  · obtain ⟨its, r', pl, hz⟩ := I.tuple hq
    have hlen := r'.length
    exact len_tuple pl (by simp only [List.size_toArray] <;> omega) ⟨.int ys.length, H, I.tok _, ⟨s.toks + 1, by rw [List.size_toArray, hlen]⟩, q⟩
theorem CallR.or {f : Value} {r r' : List V → Hp → VK → Prop} (h : CallR X f r) (h' : CallR X f r') : CallR X f (fun xs H Q => r xs H Q ∨ r' xs H Q) := by
  intro pins s σ H xs us Q I rs q
  rcases q with q | q
  · exact h pins s σ H xs us Q I rs q
  · exact h' pins s σ H xs us Q I rs q
theorem call_tuple_of : CallR X (.type "tuple") (fun xs H Q => ∃ p ys, xs = [.ref p] ∧ ((SqL X.K H p ys ∧ ∀ l, H l = none → Q (.ref l) (upd H l (.tup ys))) ∨ (SqT X.K H p ys ∧ Q (.ref p) H))) := by
  intro pins s σ H xs us Q I r h
  obtain ⟨p, ys, rfl, h⟩ := h
  obtain ⟨u, rfl, rx⟩ := vals1 r
  cases rx
  rcases h with ⟨hq, q⟩ | ⟨hq, q⟩
  · obtain ⟨its, r', pl, hz⟩ := I.list hq
    have hlen := r'.length
    refine call_tuple_list pl.isList (fun h' kp => ?_) (by simp only [List.size_toArray] <;> omega)
    have I1 : Inv X pins σ H { s with heap := h' } := I.kept (t' := s.toks) kp
    have I2 : Inv X pins σ (upd H h'.objs.size (.tup ys)) { s with heap := h'.push { cls := .type "tuple", data := .seq its.toArray } } :=
      I1.laid (t' := s.toks) (fun b o e => Heap.get?_push_of_some _ e) (Nat.le_refl _) (show ObjOk X.prog X.w _ _ _ (.tup ys) from ⟨hz, its, r', IsTup.new _ _⟩)
    exact ⟨.ref h'.objs.size, _, I2, rfl, q _ (I1.hok.fresh (Nat.le_refl _))⟩
  · obtain ⟨its, r', pl, hz⟩ := I.tuple hq
    exact call_tuple_same pl ⟨.ref p, H, I, rfl, q⟩
def tyV (K : PySem.W.Frag) (T : String) (x : V) (H : Hp) : Prop := match x with
  | .str _ => T = "str"
  | .int _ => T = "int"
  | .ref p => (T = "list" ∧ ∃ xs, SqL K H p xs) ∨ (T = "tuple" ∧ ∃ o, K.lookup p = some o ∧ o.cls = .type "tuple" ∧ o.dict = none) ∨
      (T = "dict" ∧ ((∃ kvs, H p = some (.dK kvs)) ∨ ∃ kvs, H p = some (.dT kvs))) ∨ (T = "set" ∧ ∃ S n, H p = some (.set S n))
  | _ => False
theorem tyV_is {pins : List (Addr × Obj)} {σ : St} {H : Hp} {s : Shared} {T : String} {x : V} {v : Value} (I : Inv X pins σ H s) (r : RelV x v) (ty : tyV X.K T x H) :
    s.TypeIs v T ∧ ∀ a, v = .ref a → ∃ ob, s.heap.get? a = some ob ∧ ob.dict = none := by
  cases x with
  | str z =>
    obtain ⟨t, rfl⟩ := r
    cases (show T = "str" from ty)
    exact ⟨typeIs_str s z t, fun _ e => nomatch e⟩
  | int i =>
    obtain ⟨t, rfl⟩ := r
    cases (show T = "int" from ty)
    exact ⟨typeIs_int s i t, fun _ e => nomatch e⟩
  | ref p =>
    cases r
    rcases ty with ⟨rfl, xs, hq⟩ | ⟨rfl, o, hk, hc, hd⟩ | ⟨rfl, hk⟩ | ⟨rfl, S, n, hk⟩
    · obtain ⟨its, _, pl, _⟩ := I.list hq
      refine ⟨pl.isList.typeIs, fun a e => ?_⟩
      cases e
      obtain ⟨o, n, e, c, hd, _⟩ := pl
      exact ⟨o, e, hd⟩
    · refine ⟨⟨o, I.kIn p o hk, hc⟩, fun a e => ?_⟩
      cases e
      exact ⟨o, I.kIn _ o hk, hd⟩
    · have z : ∃ o, s.heap.get? p = some o ∧ o.ExactDict := by
        rcases hk with ⟨kvs, hk⟩ | ⟨kvs, hk⟩
        · obtain ⟨_, _, _, _, o, _, _, e, ex, _⟩ := I.hok p _ hk
          exact ⟨o, e, ex⟩
        · obtain ⟨_, _, _, _, o, _, _, e, ex, _⟩ := I.hok p _ hk
          exact ⟨o, e, ex⟩
      obtain ⟨o, e, ex⟩ := z
      refine ⟨⟨o, e, ex.1⟩, fun a e2 => ?_⟩
      cases e2
      exact ⟨o, e, ex.2.1⟩
    · obtain ⟨o, _, _, _, e, ex, _⟩ := I.hok p _ hk
      refine ⟨⟨o, e, ex.1⟩, fun a e2 => ?_⟩
      cases e2
      exact ⟨o, e, ex.2.1⟩
  | _ => exact False.elim ty
def tBM0 (K : PySem.W.Frag) (T : String) (r : V → List V → Hp → VK → Prop) (to : TE) : TE := fun σ H Q => to σ H fun x H1 => tyV K T x H1 ∧ r x [] H1 Q
def tBM (K : PySem.W.Frag) (T : String) (r : V → List V → Hp → VK → Prop) (to : TE) (t : TA) : TE := fun σ H Q => to σ H fun x H1 => tyV K T x H1 ∧ t σ H1 fun xs H2 => r x xs H2 Q
variable {o e : Expr} {es : List Expr} {to : TE} {t : TA} {name : Str} {apos cpos : Pos} {T id : String} {r : V → List V → Hp → VK → Prop}
theorem pe_bm0 (pa : PlainAttrs T) (slot : Slot T name id) (hty : typeOf (.builtin id) = pure (.type "method_descriptor")) (hm : MtR X id r) (ho : PE X o to)
    (hbase : attributeBase o name X.env (eval o X.env) = eval o X.env := by rfl) (hline : (apos.endLine == cpos.line) = true := by rfl) : PE X (.Call (.Attribute o name apos) [] [] cpos) (tBM0 X.K T r to) := by
  intro pins s σ H Q I h
  refine wpAny_Call_method0_late hbase hline (thn (ho pins s σ H _ I h) fun v s1 ⟨x, H1, I1, r1, ty, q1⟩ => ?_)
  obtain ⟨h1, h2⟩ := tyV_is I1 r1 ty
  exact ⟨T, id, pa, slot, hty, h1, h2, Calls.callWith_builtin rfl (PySem.evalArgs_none (hm pins s1 σ H1 x [] v [] Q I1 r1 .nil q1))⟩
theorem pe_bm (pa : PlainAttrs T) (slot : Slot T name id) (hty : typeOf (.builtin id) = pure (.type "method_descriptor")) (hm : MtR X id r) (ho : PE X o to) (ha : PA X (e :: es) t)
    (hbase : attributeBase o name X.env (eval o X.env) = eval o X.env := by rfl)
    (hfew : ((backTo cpos (starEach (e :: es) X.env)).all (fun x => !x.1) && (backToKw cpos (keywordEach [] X.env)).all (fun x => x.1.isSome)
      && decide ((e :: es).length + ([] : List Keyword).length + (if ([] : List Keyword).isEmpty then 0 else 1) < 30)) = true := by rfl)
    (hline : (apos.endLine == cpos.line) = true := by rfl) (hs : starEach (e :: es) X.env = (false, eval e X.env) :: starEach es X.env := by rfl) (hplain : (backTo cpos (starEach es X.env)).any (·.1) = false := by rfl) :
    PE X (.Call (.Attribute o name apos) (e :: es) [] cpos) (tBM X.K T r to t) := by
  intro pins s σ H Q I h
  refine wpAny_Call_method_late hbase hfew hline rfl (thn (ho pins s σ H _ I h) fun v s1 ⟨x, H1, I1, r1, ty, q1⟩ => ?_)
  obtain ⟨h1, h2⟩ := tyV_is I1 r1 ty
  refine ⟨T, id, pa, slot, hty, h1, h2, ?_⟩
  have hA := ha cpos pins s1 σ H1 _ I1 q1
  rw [hs] at hA ⊢
  refine Calls.callWith_builtin (by show (false || (backTo cpos (starEach es X.env)).any (·.1)) = false; rw [hplain] <;> rfl) (Calls.evalArgs_plain ?_)
  exact thn hA fun us s2 ⟨vs, H2, I2, r2, q2⟩ => hm pins s2 σ H2 x vs v us Q I2 r1 r2 q2
end
end L2
namespace L2
open PySem PySem.Spec PyProof.Rows
def MtM (X : Cx) (id : String) (r : V → List V → Hp → VK → Prop) : Prop :=
  ∀ (pins : List (Addr × Obj)) (s : Shared) (σ : St) (H : Hp) (x : V) (xs : List V) (v : Value) (us : List Value) (Q : VK), Inv X pins σ H s → RelV x v → Vals xs us → r x xs H Q →
    wpAny (model X.prog X.w) X.A (call (.builtin id) (v :: us)) (EP X pins σ Q) X.xe s
theorem Vals.one : ∀ {x : V} {us : List Value}, Vals [x] us → ∃ u, us = [u] ∧ RelV x u
  | _, _, .cons r .nil => ⟨_, rfl, r⟩
theorem Vals.two : ∀ {x y : V} {us : List Value}, Vals [x, y] us → ∃ u v, us = [u, v] ∧ RelV x u ∧ RelV y v
  | _, _, _, .cons r (.cons q .nil) => ⟨_, _, rfl, r, q⟩
theorem Vals.zero : ∀ {us : List Value}, Vals [] us → us = []
  | _, .nil => rfl
theorem Vals.dropLast {xs : List V} {us : List Value} (h : Vals xs us) : Vals xs.dropLast us.dropLast := by
  induction h with
  | nil => exact .nil
  | cons r t ih =>
    cases t with
    | nil => exact .nil
    | cons q t' => exact .cons r ih
theorem Vals.eraseIdx : ∀ {xs : List V} {us : List Value} (i : Nat), Vals xs us → Vals (xs.eraseIdx i) (us.eraseIdx i)
  | _, _, _, .nil => .nil
  | _, _, 0, .cons _ t => t
  | _, _, i + 1, .cons r t => .cons r (Vals.eraseIdx i t)
theorem Vals.reverse {xs : List V} {us : List Value} (h : Vals xs us) : Vals xs.reverse us.reverse := by
  induction h with
  | nil => exact .nil
  | cons r t ih => rw [List.reverse_cons, List.reverse_cons]; exact Vals.append ih (.cons r .nil)
theorem Vals.rep {xs : List V} {us : List Value} (h : Vals xs us) : ∀ k : Nat, Vals (List.replicate k xs).flatten (List.replicate k us).flatten
  | 0 => .nil
  | k + 1 => by
    rw [List.replicate_succ, List.replicate_succ, List.flatten_cons, List.flatten_cons]
    exact Vals.append h (Vals.rep h k)
theorem erase_last {α : Type} (l : List α) : l.eraseIdx (l.length - 1) = l.dropLast := by
  induction l with
  | nil => rfl
  | cons a r ih =>
    cases r with
    | nil => rfl
    | cons b r =>
      have e : (a :: b :: r).length - 1 = ((b :: r).length - 1) + 1 := by
        have h1 : (a :: b :: r).length = r.length + 2 := rfl
        have h2 : (b :: r).length = r.length + 1 := rfl
        omega
      rw [e, List.eraseIdx_cons_succ, ih]
      all_goals rfl
theorem foldl_rep (its : List Value) : ∀ (k : Nat) (acc : List Value),
    List.foldl (fun x1 x2 => x1 ++ x2) acc.toArray (List.replicate k its.toArray) = (acc ++ (List.replicate k its).flatten).toArray
  | 0, acc => by simp
  | k + 1, acc => by
    have e : acc.toArray ++ its.toArray = (acc ++ its).toArray := by simp
    have e2 : (acc ++ its) ++ (List.replicate k its).flatten = acc ++ (List.replicate (k + 1) its).flatten := by
      rw [List.replicate_succ, List.flatten_cons, List.append_assoc]
    rw [← e2, ← foldl_rep its k (acc ++ its), ← e, List.replicate_succ, List.foldl_cons]
section
variable {X : Cx} {pins : List (Addr × Obj)} {σ : St} {H : Hp} {s : Shared} {l b : Addr} {xs ys zs : List V}
theorem Inv.lset {its its' : List Value} {n : Nat} {f : Array Value → Array Value} {t' : Nat} (I : Inv X pins σ H s) (hH : H l = some (.lst xs))
    (e : s.heap.get? l = some { cls := .type "list", data := .seq its.toArray n }) (hf : f its.toArray = its'.toArray) (hv : Vals ys its') (hz : ys.length ≤ sizeLine) :
    Inv X pins σ (upd H l (.lst ys)) { s with heap := s.heap.update l (Obj.mapSeq f), toks := t' } := by
  have q := PySem.IsL.update e f
  rw [hf] at q
  refine I.write (x := l) (e := l) (by rw [hH]; exact trivial) (.inl rfl) (fun b' u hb hu => (Heap.get?_update_other s.heap (Obj.mapSeq f) (Ne.symm hb)).trans hu) ⟨_, q⟩ ?_
  exact ⟨hz, its', _, hv, q⟩
theorem Inv.lnew {its : List Value} {t' : Nat} (I : Inv X pins σ H s) (hv : Vals ys its) (hz : ys.length ≤ sizeLine) :
    Inv X pins σ (upd H s.heap.objs.size (.lst ys)) { s with heap := s.heap.push { cls := .type "list", data := .seq its.toArray }, toks := t' } :=
  I.laid (fun _ _ q => Heap.get?_push_of_some _ q) (Nat.le_refl _) ⟨hz, its, 0, hv, Heap.get?_push_size _ rfl⟩
theorem Inv.fresh (I : Inv X pins σ H s) : H s.heap.objs.size = none := I.hok.fresh (Nat.le_refl _)
theorem Inv.lstM (I : Inv X pins σ H s) (hH : H l = some (.lst xs)) : xs.length ≤ sizeLine ∧ ∃ (its : List Value) (n : Nat), Vals xs its ∧ xs.length = its.length ∧ s.heap.get? l = some { cls := .type "list", data := .seq its.toArray n } := by
  obtain ⟨z, its, n, r, e⟩ := I.hok l _ hH
  exact ⟨z, its, n, r, r.length, e⟩
theorem notLongL {n : Nat} (h : n ≤ sizeLine) : Builtin.List.listTooLong n = false := by
  unfold Builtin.List.listTooLong
  exact decide_eq_false (by omega)
end
section
variable {X : Cx}
def rAppend : V → List V → Hp → VK → Prop := fun x vs H Q => ∃ l xs y, x = .ref l ∧ vs = [y] ∧ H l = some (.lst xs) ∧ xs.length < sizeLine ∧ Q .non (upd H l (.lst (xs ++ [y])))
theorem mt_append : MtM X "list.append" rAppend := by
  intro pins s σ H x vs v us Q I rx rv h
  obtain ⟨l, xs, y, rfl, rfl, hH, hz, q⟩ := h
  cases rx
  obtain ⟨u, rfl, ru⟩ := rv.one
  obtain ⟨z, its, n, r, hl, e⟩ := I.lstM hH
  refine call_meets F.slot_list_append ⟨_, e, rfl⟩ F.entry_list_append (F.args_list_append_2 _ _) (PySem.list_append l its.toArray n u (by rw [List.size_toArray]; omega)) ⟨e, ?_⟩
  refine ⟨.non, _, I.lset (its' := its ++ [u]) hH e (by simp) (r.append (.cons ru .nil)) ?_, rfl, q⟩
  rw [List.length_append, List.length_singleton]
  omega
def rExtend : V → List V → Hp → VK → Prop := fun x vs H Q => ∃ l b xs zs, x = .ref l ∧ vs = [.ref b] ∧ H l = some (.lst xs) ∧ H b = some (.lst zs) ∧ xs.length + zs.length ≤ sizeLine ∧ Q .non (upd H l (.lst (xs ++ zs)))
theorem mt_extend : MtM X "list.extend" rExtend := by
  intro pins s σ H x vs v us Q I rx rv h
  obtain ⟨l, b, xs, zs, rfl, rfl, hH, hB, hz, q⟩ := h
  cases rx
  obtain ⟨u, rfl, ru⟩ := rv.one
  cases ru
  obtain ⟨z, its, n, r, hl, e⟩ := I.lstM hH
  obtain ⟨z2, its2, n2, r2, hl2, e2⟩ := I.lstM hB
  have hsz : its.toArray.size + its2.toArray.size ≤ sizeLine := by rw [List.size_toArray, List.size_toArray]; omega
  have hlong : ¬ (!its.toArray.isEmpty && Builtin.List.listTooLong (its.toArray.size + its2.toArray.size)) = true := by
    rw [notLongL hsz, Bool.and_false]
    exact Bool.false_ne_true
  refine call_meets F.slot_list_extend ⟨_, e, rfl⟩ F.entry_list_extend (F.args_list_extend_2 _ _)
    (AutoSeq1.list_extend_list_list_0 l its.toArray n b its2.toArray n2 hlong (by rw [List.size_toArray]; omega) (by omega)) ⟨e, e2, ?_⟩
  refine ⟨.non, _, I.lset (its' := its ++ its2) hH e (by simp) (r.append r2) ?_, rfl, q⟩
  rw [List.length_append]
  omega
def rPop : V → List V → Hp → VK → Prop := fun x vs H Q => ∃ l xs y, x = .ref l ∧ vs = [] ∧ H l = some (.lst xs) ∧ xs[xs.length - 1]? = some y ∧ Q y (upd H l (.lst xs.dropLast))
theorem mt_pop : MtM X "list.pop" rPop := by
  intro pins s σ H x vs v us Q I rx rv h
  obtain ⟨l, xs, y, rfl, rfl, hH, hy, q⟩ := h
  cases rx
  have hus := rv.zero
  subst hus
  obtain ⟨z, its, n, r, hl, e⟩ := I.lstM hH
  obtain ⟨u, hu, ru⟩ := r.get hy
  have hy' : its.toArray[its.toArray.size - 1]? = some u := by
    show its.toArray[its.length - 1]? = some u
    rw [← Array.getElem?_toList, ← hl]
    exact hu
  refine call_meets F.slot_list_pop ⟨_, e, rfl⟩ F.entry_list_pop (F.args_list_pop_1 _) (MeetsSeq.list_pop_last l its.toArray n u hy' (by rw [List.size_toArray]; omega)) ⟨e, ?_⟩
  refine ⟨y, _, I.lset (its' := its.dropLast) hH e ?_ r.dropLast ?_, ru, q⟩
  · show its.toArray.eraseIdxIfInBounds (its.toArray.size - 1) = its.dropLast.toArray
    rw [List.size_toArray, List.eraseIdxIfInBounds_toArray, erase_last]
  · rw [List.length_dropLast]
    omega
def rPopAt : V → List V → Hp → VK → Prop := fun x vs H Q => ∃ l xs i k y, x = .ref l ∧ vs = [.int i] ∧ H l = some (.lst xs) ∧ -(2 ^ 63) ≤ i ∧ i < 2 ^ 63 ∧ seqIndex? i xs.length = some k ∧ xs[k]? = some y ∧ Q y (upd H l (.lst (xs.eraseIdx k)))
def rReverse : V → List V → Hp → VK → Prop := fun x vs H Q => ∃ l xs, x = .ref l ∧ vs = [] ∧ H l = some (.lst xs) ∧ Q .non (upd H l (.lst xs.reverse))
def rClear : V → List V → Hp → VK → Prop := fun x vs H Q => ∃ l xs, x = .ref l ∧ vs = [] ∧ H l = some (.lst xs) ∧ Q .non (upd H l (.lst []))
def rCat : R2 := fun x y H Q => ∃ l b xs zs, x = .ref l ∧ y = .ref b ∧ H l = some (.lst xs) ∧ H b = some (.lst zs) ∧ xs.length + zs.length ≤ sizeLine ∧ ∀ p, H p = none → Q (.ref p) (upd H p (.lst (xs ++ zs)))
theorem op_cat : OpR X (binaryOp .Add) rCat := by
  intro pins s σ H x y v u Q I rx ry h
  obtain ⟨l, b, xs, zs, rfl, rfl, hH, hB, hz, q⟩ := h
  cases rx
  cases ry
  obtain ⟨z, its, n, r, hl, e⟩ := I.lstM hH
  obtain ⟨z2, its2, n2, r2, hl2, e2⟩ := I.lstM hB
  refine PySem.P.add_list e e2 ?_ (by rw [List.size_toArray, List.size_toArray]; omega)
  have ea : its.toArray ++ its2.toArray = (its ++ its2).toArray := by simp
  rw [ea]
  exact ⟨.ref _, _, I.lnew (t' := s.toks) (r.append r2) (by rw [List.length_append]; omega), rfl, q _ I.fresh⟩
def rRep : R2 := fun x y H Q => ∃ l k xs, x = .ref l ∧ y = .int k ∧ H l = some (.lst xs) ∧ -(2 ^ 63) ≤ k ∧ k < 2 ^ 63 ∧ xs.length * k.toNat ≤ sizeLine ∧
  ∀ p, H p = none → Q (.ref p) (upd H p (.lst (List.replicate k.toNat xs).flatten))
theorem len_rep {α : Type} (xs : List α) (k : Nat) : (List.replicate k xs).flatten.length = k * xs.length := by
  induction k with
  | zero => simp
  | succ k ih => rw [List.replicate_succ, List.flatten_cons, List.length_append, ih, Nat.succ_mul, Nat.add_comm]
theorem op_rep : OpR X (binaryOp .Mult) rRep := by
  intro pins s σ H x y v u Q I rx ry h
  obtain ⟨l, k, xs, rfl, rfl, hH, h1, h2, hz, q⟩ := h
  cases rx
  obtain ⟨t, rfl⟩ := ry
  obtain ⟨z, its, n, r, hl, e⟩ := I.lstM hH
  have hlen : its.toArray.size * k.toNat ≤ sizeLine := by rw [List.size_toArray, ← hl]; exact hz
  have hcap : ¬ its.toArray.size * k.toNat > (2 ^ 63 - 1) / 8 := by
    have : (sizeLine : Nat) ≤ (2 ^ 63 - 1) / 8 := by decide
    omega
  have hfit : ¬ (!Builtin.List.listFitsIndex k) = true := by
    rw [fitsIndex_both h1 h2]
    exact Bool.false_ne_true
  have hlong : ¬ Builtin.List.listTooLong (its.toArray.size * k.toNat) = true := by
    rw [notLongL hlen]
    exact Bool.false_ne_true
  have hnew : List.foldl (fun x1 x2 => x1 ++ x2) #[] (List.replicate (if its.toArray.isEmpty = true then 0 else k.toNat) its.toArray) = (List.replicate k.toNat its).flatten.toArray := by
    have f0 : ∀ m : Nat, List.foldl (fun x1 x2 => x1 ++ x2) #[] (List.replicate m its.toArray) = (List.replicate m its).flatten.toArray := fun m => by
      have := foldl_rep its m []
      rw [List.nil_append] at this
      exact this
    rw [f0]
    cases its with
    | nil => simp
    | cons a r' => rw [if_neg (by simp)]
  refine wpAny_binaryOp_repeat_ref (T := "list") (U := "int") (by decide) ⟨_, e, rfl⟩ (fun s' => typeIs_int s' k t) noFill_list_mul F.fills_int_mul F.slot_int_rmul repeat_list F.slot_int_index.lookup
    (call_meets F.slot_int_rmul (typeIs_int s k t) F.entry_int_rmul (F.args_int_rmul_2 _ _) (int___rmul___int_list k t l its.toArray n)
      ⟨e, rfl, ⟨_, e, rfl⟩, call_meets F.slot_list_mul ⟨_, e, rfl⟩ F.entry_list_mul (F.args_list_mul_2 _ _) (AutoListH.list___mul___list_int_3 l its.toArray n k t hfit hcap hlong) ⟨e, ?_⟩⟩)
  rw [hnew]
  exact ⟨.ref _, _, I.lnew (t' := s.toks) (r.rep k.toNat) (by rw [len_rep, Nat.mul_comm]; exact hz), rfl, q _ I.fresh⟩
end
section
variable {prog : Program} {w : World} {A : Around} {E : Value → Shared → Prop} {s : Shared}
end
section
variable {X : Cx}
end
end L2
namespace L2
open PySem PySem.Spec PyProof.Rows
section
variable {κ : Type} [DecidableEq κ]
def valV (kvs : List (κ × V)) (k : κ) : Option V := (kvs.find? fun kv => decide (kv.1 = k)).map (·.2)
def putK (kvs : List (κ × V)) (k : κ) (v : V) : List (κ × V) :=
  if (kvs.any fun kv => decide (kv.1 = k)) = true then kvs.map (fun kv => if kv.1 = k then (kv.1, v) else kv) else kvs ++ [(k, v)]
def dropK (kvs : List (κ × V)) (k : κ) : List (κ × V) := kvs.filter fun kv => decide (kv.1 ≠ k)
theorem valV_nil {k : κ} : valV ([] : List (κ × V)) k = none := rfl
theorem valV_pos {p : κ × V} {r : List (κ × V)} {k : κ} (e : p.1 = k) : valV (p :: r) k = some p.2 := by simp [valV, List.find?_cons, e]
theorem valV_neg {p : κ × V} {r : List (κ × V)} {k : κ} (e : ¬ p.1 = k) : valV (p :: r) k = valV r k := by simp [valV, List.find?_cons, e]
theorem valV_any (k : κ) : ∀ kvs : List (κ × V), (kvs.any fun kv => decide (kv.1 = k)) = (valV kvs k).isSome
  | [] => rfl
  | p :: r => by
    rw [List.any_cons]
    by_cases e : p.1 = k
    · simp only [valV_pos e, decide_eq_true e, Bool.true_or, Option.isSome_some]
    · rw [valV_neg e, decide_eq_false e, Bool.false_or]; exact valV_any k r
theorem valV_map (k j : κ) (y : V) : ∀ kvs : List (κ × V), valV (kvs.map fun kv => if kv.1 = k then (kv.1, y) else kv) j = (valV kvs j).map fun x => if j = k then y else x
  | [] => rfl
  | p :: r => by
    have ih := valV_map k j y r
    rw [List.map_cons]
    by_cases h : p.1 = k
    · rw [if_pos h]
      by_cases e : p.1 = j
      · rw [valV_pos (p := (p.1, y)) e, valV_pos e, Option.map_some, if_pos (e.symm.trans h)]
      · rw [valV_neg (p := (p.1, y)) e, valV_neg e, ih]
    · rw [if_neg h]
      by_cases e : p.1 = j
      · rw [valV_pos (p := p) e, valV_pos e, Option.map_some, if_neg (fun z => h (e.trans z))]
      · rw [valV_neg (p := p) e, valV_neg e, ih]
theorem valV_snoc (k j : κ) (y : V) : ∀ kvs : List (κ × V), valV kvs k = none → valV (kvs ++ [(k, y)]) j = if j = k then some y else valV kvs j
  | [], _ => by
    by_cases e : k = j
    · rw [if_pos e.symm]; exact valV_pos (p := (k, y)) e
    · rw [if_neg (fun z => e z.symm)]; exact valV_neg (p := (k, y)) e
  | p :: r, hn => by
    rw [List.cons_append]
    have hk : ¬ p.1 = k := fun z => by rw [valV_pos z] at hn; cases hn
    rw [valV_neg hk] at hn
    have ih := valV_snoc k j y r hn
    by_cases e : p.1 = j
    · rw [valV_pos e, valV_pos e, if_neg (fun z => hk (e.trans z))]
    · rw [valV_neg e, valV_neg e, ih]
theorem valV_put (kvs : List (κ × V)) (k j : κ) (y : V) : valV (putK kvs k y) j = if j = k then some y else valV kvs j := by
  unfold putK
  by_cases a : (kvs.any fun kv => decide (kv.1 = k)) = true
  · rw [if_pos a, valV_map]
    rw [valV_any] at a
    by_cases e : j = k
    · obtain ⟨x, hx⟩ := Option.isSome_iff_exists.mp a
      rw [if_pos e, e, hx, Option.map_some, if_pos rfl]
    · rw [if_neg e]
      cases valV kvs j with
      | none => rfl
      | some x => rw [Option.map_some, if_neg e]
  · rw [if_neg a]
    refine valV_snoc k j y kvs ?_
    rw [valV_any] at a
    cases q : valV kvs k with
    | none => rfl
    | some x => rw [q] at a; exact (a rfl).elim
theorem length_putK (kvs : List (κ × V)) (k : κ) (v : V) : (putK kvs k v).length ≤ kvs.length + 1 := by
  unfold putK
  split
  · rw [List.length_map]; omega
  · rw [List.length_append, List.length_cons, List.length_nil]; omega
theorem putK_new {kvs : List (κ × V)} {k : κ} (v : V) (h : valV kvs k = none) : putK kvs k v = kvs ++ [(k, v)] := by
  unfold putK
  rw [valV_any, h]
  exact if_neg (by decide)
theorem RelO.isSome_eq {o : Option V} {u : Option Value} (r : RelO o u) : o.isSome = u.isSome := by
  cases o with
  | none => cases u with
    | none => rfl
    | some _ => exact (show False from r).elim
  | some _ => cases u with
    | none => exact (show False from r).elim
    | some _ => rfl
theorem RelO.getD {o : Option V} {u : Option Value} {d : V} {d' : Value} (r : RelO o u) (rd : RelV d d') : RelV (o.getD d) (u.getD d') := by
  cases o with
  | none => cases u with
    | none => exact rd
    | some _ => exact (show False from r).elim
  | some _ => cases u with
    | none => exact (show False from r).elim
    | some _ => exact r
theorem KV.val {kvs : List (κ × V)} {vs : List (κ × Value)} (r : KV kvs vs) (k : κ) : RelO (valV kvs k) (valueAt vs k) := by
  unfold KV at r
  induction r with
  | nil => exact True.intro
  | @cons p q ps qs h t ih =>
    obtain ⟨h1, h2⟩ := h
    by_cases e : p.1 = k
    · have e' : q.1 = k := h1.symm.trans e
      have b : valueAt (q :: qs) k = some q.2 := by simp [valueAt, List.find?_cons, e']
      rw [valV_pos e, b]; exact h2
    · have e' : ¬ q.1 = k := fun z => e (h1.trans z)
      have b : valueAt (q :: qs) k = valueAt qs k := by simp [valueAt, List.find?_cons, e']
      rw [valV_neg e, b]; exact ih
theorem KV.any {kvs : List (κ × V)} {vs : List (κ × Value)} (r : KV kvs vs) (k : κ) : (kvs.any fun kv => decide (kv.1 = k)) = vs.any fun kv => decide (kv.1 = k) := by
  unfold KV at r
  induction r with
  | nil => rfl
  | cons h t ih => rw [List.any_cons, List.any_cons, ih, h.1]
theorem KV.repl {kvs : List (κ × V)} {vs : List (κ × Value)} (r : KV kvs vs) (k : κ) {y : V} {u : Value} (ry : RelV y u) :
    KV (kvs.map fun kv => if kv.1 = k then (kv.1, y) else kv) (vs.map fun kv => if kv.1 = k then (kv.1, u) else kv) := by
  unfold KV at r ⊢
  induction r with
  | nil => exact .nil
  | @cons p q ps qs h t ih =>
    rw [List.map_cons, List.map_cons]
    refine .cons ?_ ih
    obtain ⟨h1, h2⟩ := h
    by_cases e : p.1 = k
    · rw [if_pos e, if_pos (h1.symm.trans e)]; exact ⟨h1, ry⟩
    · rw [if_neg e, if_neg (fun z => e (h1.trans z))]; exact ⟨h1, h2⟩
theorem KV.put {kvs : List (κ × V)} {vs : List (κ × Value)} (r : KV kvs vs) (k : κ) {y : V} {u : Value} (ry : RelV y u) : KV (putK kvs k y) (stored vs k u) := by
  unfold putK stored
  rw [r.any k]
  by_cases e : (vs.any fun kv => decide (kv.1 = k)) = true
  · rw [if_pos e, if_pos e]; exact r.repl k ry
  · rw [if_neg e, if_neg e]; exact Paired.snoc r ⟨rfl, ry⟩
theorem KV.drop {kvs : List (κ × V)} {vs : List (κ × Value)} (r : KV kvs vs) (k : κ) : KV (dropK kvs k) (without vs k) := by
  unfold KV at r ⊢
  unfold dropK without
  induction r with
  | nil => exact .nil
  | @cons p q ps qs h t ih =>
    obtain ⟨h1, h2⟩ := h
    rw [List.filter_cons, List.filter_cons]
    by_cases e : p.1 = k
    · have a : ¬ decide (p.1 ≠ k) = true := by simp [e]
      have b : ¬ decide (q.1 ≠ k) = true := by simp [h1.symm.trans e]
      rw [if_neg a, if_neg b]; exact ih
    · have e' : ¬ q.1 = k := fun z => e (h1.trans z)
      have a : decide (p.1 ≠ k) = true := by simp [e]
      have b : decide (q.1 ≠ k) = true := by simp [e']
      rw [if_pos a, if_pos b]; exact .cons ⟨h1, h2⟩ ih
theorem KV.keys {kvs : List (κ × V)} {vs : List (κ × Value)} (r : KV kvs vs) : kvs.map (·.1) = vs.map (·.1) := by
  unfold KV at r
  induction r with
  | nil => rfl
  | cons h t ih => rw [List.map_cons, List.map_cons, ih, h.1]
theorem KV.length {kvs : List (κ × V)} {vs : List (κ × Value)} (r : KV kvs vs) : kvs.length = vs.length := Paired.length r
end
theorem kV_is {P : Program} {w : World} {k : Key} {u : Value} (r : RelV (kV k) u) : (mixKind P w).is k u = true := by
  cases k with
  | inl i => obtain ⟨t, e⟩ := (show ∃ t, u = Value.int i t from r); subst e; exact mixKind_int P w i t
  | inr x => obtain ⟨t, e⟩ := (show ∃ t, u = Value.str x t from r); subst e; exact mixKind_str P w x t
theorem items_are {P : Program} {w : World} : ∀ {ks : List Key} {us : List Value}, Vals (ks.map kV) us → ItemsAre (mixKind P w) ks us
  | [], _, r => by rw [List.map_nil] at r; cases r; exact .nil
  | k :: ks, _, r => by
    rw [List.map_cons] at r
    cases r with
    | cons h t => exact .cons (kV_is h) (items_are t)
abbrev KT (H : Hp) : List (List Key × V) → List (List Key × Addr × Value) → Prop := Paired fun p q => p.1 = q.1 ∧ H q.2.1 = some (.tup (p.1.map kV)) ∧ RelV p.2 q.2.2
theorem KT.val {H : Hp} {kvs : List (List Key × V)} {xs : List (List Key × Addr × Value)} (r : KT H kvs xs) (k : List Key) : RelO (valV kvs k) ((atKey xs k).map (·.2)) := by
  induction r with
  | nil => exact True.intro
  | @cons p q ps qs h t ih =>
    obtain ⟨h1, _, h2⟩ := h
    by_cases e : p.1 = k
    · have e' : q.1 = k := h1.symm.trans e
      have b : atKey (q :: qs) k = some q.2 := by simp [atKey, List.find?_cons, e']
      rw [valV_pos e, b]; exact h2
    · have e' : ¬ q.1 = k := fun z => e (h1.trans z)
      have b : atKey (q :: qs) k = atKey qs k := by simp [atKey, List.find?_cons, e']
      rw [valV_neg e, b]; exact ih
theorem KT.repl {H : Hp} {kvs : List (List Key × V)} {xs : List (List Key × Addr × Value)} (r : KT H kvs xs) (k : List Key) {y : V} {u : Value} (ry : RelV y u) :
    KT H (kvs.map fun kv => if kv.1 = k then (kv.1, y) else kv) (xs.map (putAt k u)) := by
  induction r with
  | nil => exact .nil
  | @cons p q ps qs h t ih =>
    rw [List.map_cons, List.map_cons]
    refine .cons ?_ ih
    obtain ⟨h1, h2, h3⟩ := h
    unfold putAt
    by_cases e : p.1 = k
    · rw [if_pos e, if_pos (h1.symm.trans e)]; exact ⟨h1, h2, ry⟩
    · rw [if_neg e, if_neg (fun z => e (h1.trans z))]; exact ⟨h1, h2, h3⟩
theorem KT.put {H : Hp} {kvs : List (List Key × V)} {xs : List (List Key × Addr × Value)} (r : KT H kvs xs) (k : List Key) {b : Addr} {y : V} {u : Value} (hb : H b = some (.tup (k.map kV))) (ry : RelV y u) :
    KT H (putK kvs k y) (storedH xs k b u) := by
  have e : (kvs.any fun kv => decide (kv.1 = k)) = (atKey xs k).isSome := by
    rw [valV_any, (r.val k).isSome_eq, Option.isSome_map]
  unfold putK storedH
  rw [e]
  by_cases q : (atKey xs k).isSome = true
  · rw [if_pos q, if_pos q]; exact r.repl k ry
  · rw [if_neg q, if_neg q]; exact Paired.snoc r ⟨rfl, hb, ry⟩
theorem KT.keeps {H H' : Hp} {kvs : List (List Key × V)} {xs : List (List Key × Addr × Value)} (r : KT H kvs xs) (ht : ∀ b ys, H b = some (.tup ys) → H' b = some (.tup ys)) : KT H' kvs xs :=
  Paired.mapP r fun _ _ z => ⟨z.1, ht _ _ z.2.1, z.2.2⟩
section
variable {P : Program} {w : World} {H : Hp} {h : Heap} {a : Addr}
theorem rd_of {u : HO} (ok : HOk P w H h) (e : Rd H a u) : ObjOk P w H h a u := e.ok ok
theorem dk_rd {kvs : List (Key × V)} (ok : HOk P w H h) (e : Rd H a (.dK kvs)) : kvs.length ≤ sizeLine ∧ (a == sysModules) = false ∧ ∃ vs, KV kvs vs ∧ h.DictOf (mixKind P w) a vs :=
  show ObjOk P w H h a (.dK kvs) from rd_of ok e
theorem dk_of {kvs : List (Key × V)} (ok : HOk P w H h) (e : H a = some (.dK kvs)) : kvs.length ≤ sizeLine ∧ (a == sysModules) = false ∧ ∃ vs, KV kvs vs ∧ h.DictOf (mixKind P w) a vs := dk_rd ok (.inl e)
theorem key_of {ks : List Key} (ok : HOk P w H h) (e : H a = some (.tup (ks.map kV))) : (tupleKind (mixKind P w)).is h ks a := by
  obtain ⟨_, its, r, o, h1, h2, n, h3⟩ := (show ObjOk P w H h a (.tup (ks.map kV)) from ok a _ e)
  exact ⟨o, its.toArray, n, h1, h2, h3, by simpa using items_are r⟩
theorem dt_rd {kvs : List (List Key × V)} (ok : HOk P w H h) (e : Rd H a (.dT kvs)) : kvs.length ≤ sizeLine ∧ (a == sysModules) = false ∧
    ∃ xs, KT H kvs xs ∧ h.DictOfH (tupleKind (mixKind P w)) a xs := by
  obtain ⟨z, y, xs, r, o, es, ep, h1, h2, h3, h4, h5⟩ := (show ObjOk P w H h a (.dT kvs) from rd_of ok e)
  refine ⟨z, y, xs, r, o, es, ep, h1, h2, h3, h4, fun x hx => ?_, h5⟩
  have all : ∀ {l : List (List Key × V)} {m : List (List Key × Addr × Value)}, KT H l m → ∀ x ∈ m, (tupleKind (mixKind P w)).is h x.1 x.2.1 := by
    intro l m q
    induction q with
    | nil => intro x hx; exact nomatch hx
    | @cons p q ps qs hq t ih =>
      intro x hx
      rcases List.mem_cons.mp hx with e | hx
      · subst e
        exact key_of ok (by rw [← hq.1]; exact hq.2.1)
      · exact ih x hx
  exact all r x hx
theorem dt_of {kvs : List (List Key × V)} (ok : HOk P w H h) (e : H a = some (.dT kvs)) : kvs.length ≤ sizeLine ∧ (a == sysModules) = false ∧
    ∃ xs, KT H kvs xs ∧ h.DictOfH (tupleKind (mixKind P w)) a xs := dt_rd ok (.inl e)
end
def DGet (H : Hp) (a : Addr) (y : V) (r : Option V) : Prop :=
  (∃ kvs k, Rd H a (.dK kvs) ∧ y = kV k ∧ r = valV kvs k) ∨ ∃ kvs k b, Rd H a (.dT kvs) ∧ y = .ref b ∧ H b = some (.tup (k.map kV)) ∧ r = valV kvs k
def DPut (H : Hp) (a : Addr) (y v : V) (H' : Hp) : Prop :=
  (∃ kvs k, H a = some (.dK kvs) ∧ y = kV k ∧ kvs.length < sizeLine ∧ H' = upd H a (.dK (putK kvs k v))) ∨
  ∃ kvs k b, H a = some (.dT kvs) ∧ y = .ref b ∧ H b = some (.tup (k.map kV)) ∧ kvs.length < sizeLine ∧ H' = upd H a (.dT (putK kvs k v))
theorem DGet.k {H : Hp} {a : Addr} {kvs : List (Key × V)} {k : Key} (e : H a = some (.dK kvs)) : DGet H a (kV k) (valV kvs k) := .inl ⟨kvs, k, .inl e, rfl, rfl⟩
theorem DGet.t {H : Hp} {a b : Addr} {kvs : List (List Key × V)} {k : List Key} (e : H a = some (.dT kvs)) (eb : H b = some (.tup (k.map kV))) : DGet H a (.ref b) (valV kvs k) := .inr ⟨kvs, k, b, .inl e, rfl, eb, rfl⟩
theorem DPut.k {H : Hp} {a : Addr} {kvs : List (Key × V)} {k : Key} {v : V} (e : H a = some (.dK kvs)) (hl : kvs.length < sizeLine) : DPut H a (kV k) v (upd H a (.dK (putK kvs k v))) := .inl ⟨kvs, k, e, rfl, hl, rfl⟩
theorem DPut.t {H : Hp} {a b : Addr} {kvs : List (List Key × V)} {k : List Key} {v : V} (e : H a = some (.dT kvs)) (eb : H b = some (.tup (k.map kV))) (hl : kvs.length < sizeLine) :
    DPut H a (.ref b) v (upd H a (.dT (putK kvs k v))) := .inr ⟨kvs, k, b, e, rfl, eb, hl, rfl⟩
section
variable {X : Cx} {pins : List (Addr × Obj)} {σ : St} {H : Hp} {s : Shared} {a : Addr} {y v : V} {u r : Value} {o : Option V} {A : Around} {E : Value → Shared → Prop}
theorem Inv.big (I : Inv X pins σ H s) : sysModules < s.heap.objs.size := by
  have h : mainGlobals < s.heap.objs.size := (I.mod.glob.keeps I.bk).lt
  exact Nat.lt_trans (by decide) h
theorem d_getItem {Q : Value → Shared → Prop} (hu : A.units + 1 < cLine) (I : Inv X pins σ H s) (g : DGet H a y (some v)) (ry : RelV y u) (h : ∀ w' s', Inv X pins σ H s' → RelV v w' → Q w' s') :
    wpAny (model X.prog X.w) A (getItem (.ref a) u) Q E s := by
  rcases g with ⟨kvs, k, e, ey, l⟩ | ⟨kvs, k, b, e, ey, eb, l⟩
  · subst ey
    obtain ⟨z, hd, vs, rel, dd⟩ := dk_rd I.hok e
    obtain ⟨w', hw, rw'⟩ := RelO.some_of (v := v) (o := valueAt vs k) (by rw [l]; exact rel.val k)
    exact wpAny_getItem_of (kV_is ry) dd.mapOf hw (h w' _ (I.tok _) rw')
  · subst ey
    cases (show u = Value.ref b from ry)
    obtain ⟨z, hd, xs, rel, dd⟩ := dt_rd I.hok e
    obtain ⟨w', hw, rw'⟩ := RelO.some_of (v := v) (o := (atKey xs k).map (·.2)) (by rw [l]; exact rel.val k)
    obtain ⟨p, hp, hp2⟩ := Option.map_eq_some_iff.mp hw
    refine wpAny_getItem_heap (tupleKind_room_in1 hu) (key_of I.hok eb) dd hp ?_
    rw [hp2]
    exact h w' _ (I.tok _) rw'
theorem d_notIn {Q : Value → Shared → Prop} (hu : A.units + 1 < cLine) (I : Inv X pins σ H s) (g : DGet H a y o) (ry : RelV y u) (h : ∀ s', Inv X pins σ H s' → Q (.bool (!o.isSome)) s') :
    wpAny (model X.prog X.w) A (compareOp .NotIn u (.ref a)) Q E s := by
  rcases g with ⟨kvs, k, e, ey, l⟩ | ⟨kvs, k, b, e, ey, eb, l⟩
  · subst ey
    obtain ⟨z, hd, vs, rel, dd⟩ := dk_rd I.hok e
    refine wpAny_notIn_of (kV_is ry) hd dd.mapOf ?_
    rw [← (rel.val k).isSome_eq, ← l]
    exact h _ (I.tok _)
  · subst ey
    cases (show u = Value.ref b from ry)
    obtain ⟨z, hd, xs, rel, dd⟩ := dt_rd I.hok e
    refine wpAny_notIn_heap (tupleKind_room_in1 hu) (key_of I.hok eb) hd dd ?_
    have q := (rel.val k).isSome_eq
    rw [Option.isSome_map] at q
    rw [← q, ← l]
    exact h _ (I.tok _)
theorem d_write {h' : Heap} {t' : Nat} {ob : HO} (I : Inv X pins σ H s) (mu : Mut (H a)) (hs : Heap.SameBut a s.heap h') (he : ∃ q, h'.get? a = some q) (new : ObjOk X.prog X.w (upd H a ob) h' a ob) :
    Inv X pins σ (upd H a ob) { s with heap := h', toks := t' } :=
  I.write (x := a) (e := a) mu (.inl rfl) (fun b q hb z => (hs.2 b hb).trans z) he new
theorem dk_new {P : Program} {w : World} {H' : Hp} {h' : Heap} {kvs : List (Key × V)} {vs : List (Key × Value)} (z : kvs.length ≤ sizeLine) (hd : (a == sysModules) = false) (rel : KV kvs vs) (dd : h'.DictOf (mixKind P w) a vs) :
    ObjOk P w H' h' a (.dK kvs) := ⟨z, hd, vs, rel, dd⟩
theorem d_setItem {H' : Hp} {Q : Unit → Shared → Prop} (hu : A.units + 1 < cLine) (I : Inv X pins σ H s) (g : DPut H a y v H') (ry : RelV y u) (rv : RelV v r) (h : ∀ s', Inv X pins σ H' s' → Q () s') :
    wpAny (model X.prog X.w) A (setItem (.ref a) u r) Q E s := by
  rcases g with ⟨kvs, k, e, ey, l, eH⟩ | ⟨kvs, k, b, e, ey, eb, l, eH⟩
  · subst ey eH
    obtain ⟨z, hd, vs, rel, dd⟩ := dk_of I.hok e
    have hz : vs.length ≤ sizeLine := by rw [← rel.length]; exact z
    have hl : (putK kvs k v).length ≤ sizeLine := by have := length_putK kvs k v; omega
    refine wpAny_setItem_pairs (hsz := hz) (kV_is ry) dd fun h' dd' hs => h _ ?_
    have he : ∃ q, h'.get? a = some q := let ⟨q, _, _, hq, _⟩ := dd'; ⟨q, hq⟩
    exact d_write I (by rw [e]; exact True.intro) hs he (dk_new hl hd (rel.put k rv) dd')
  · subst ey eH
    cases (show u = Value.ref b from ry)
    obtain ⟨z, hd, xs, rel, dd⟩ := dt_of I.hok e
    have hz : xs.length ≤ sizeLine := by rw [← Paired.length rel]; exact z
    have hl : (putK kvs k v).length ≤ sizeLine := by have := length_putK kvs k v; omega
    refine wpAny_setItem_heap (hsz := hz) (tupleKind_room_in1 hu) (key_of I.hok eb) dd fun h' dd' hs => h _ ?_
    obtain ⟨q, es, ep, hq, h2, h3, h4, _, h5⟩ := dd'
    refine d_write I (by rw [e]; exact True.intro) hs ⟨q, hq⟩ ⟨hl, hd, _, (rel.put k eb rv).keeps fun c ys ec => ?_, q, es, ep, hq, h2, h3, h4, h5⟩
    rw [upd_ne (ne_of ec e (fun z => nomatch z))]
    exact ec
end
section
variable {X : Cx} {pins : List (Addr × Obj)} {σ : St} {H : Hp} {s : Shared} {a : Addr} {kvs : List (Key × V)} {k : Key} {u : Value} {A : Around} {E : Value → Shared → Prop}
end
def NoSl (i : Expr) : Prop := ∀ ov iv, subscripted i false ov iv = operate [ov, iv] (getItem ov iv)
theorem subD_of {prog : Program} {w : World} {A : Around} {E : Value → Shared → Prop} {s : Shared} {env : Env} {value slice : Expr} {pos : Pos} {T id : String} {Q : Value → Shared → Prop}
    (hl : typeLookup (.type T) "__getitem__" = pure (some (.builtin id))) (hs : NoSl slice)
    (h : wpAny (model prog w) A (eval value env) (fun o s₁ => wpAny (model prog w) A (eval slice env) (fun i s₂ => s₂.TypeIs o T ∧ wpAny (model prog w) A (getItem o i) Q E s₂) E s₁) E s) :
    wpAny (model prog w) A (eval (.Subscript value slice pos) env) Q E s := by
  refine Subscript_ (wpAny_mono h (fun o s₁ h₁ => wpAny_mono h₁ (fun i s₂ h₂ => ?_) fun _ _ x => x) fun _ _ x => x)
  obtain ⟨hT, h₂⟩ := h₂
  unfold subscriptTail
  refine wpAny_bind ?_
  rw [getitemInPython_of_ne hT.not_modules]
  refine wpAny_bind (wpAny_specialOf hT hl ?_)
  have fin : wpAny (model prog w) A (subscripted slice false o i) (fun r s₃ => wpAny (model prog w) A (letTemporaryGo value o r >>= fun _ => pure r) Q E s₃) E s₂ := by
    rw [hs o i]
    exact wpAny_operating (wpAny_mono h₂ (fun r s₃ h₃ => wpAny_bind (wpAny_letTemporaryGo (wpAny_pure h₃))) fun _ _ x => x)
  first
    | exact wpAny_pure (wpAny_bind fin)
    | exact wpAny_bind (wpAny_pure (wpAny_bind fin))
    | exact wpAny_bind fin
theorem dict_typeIs {X : Cx} {pins : List (Addr × Obj)} {σ : St} {H : Hp} {s : Shared} {a : Addr} {y : V} {o : Option V} (I : Inv X pins σ H s) (g : DGet H a y o) : s.TypeIs (.ref a) "dict" := by
  rcases g with ⟨kvs, k, e, _, _⟩ | ⟨kvs, k, b, e, _, _, _⟩
  · obtain ⟨_, _, vs, _, dd⟩ := dk_rd I.hok e
    exact dd.typeIs
  · obtain ⟨_, _, xs, _, dd⟩ := dt_rd I.hok e
    exact dd.typeIs
def tDGet (td ty : TE) : TE := fun σ H Q => td σ H fun x H1 => ty σ H1 fun y H2 => ∃ a v, x = .ref a ∧ DGet H2 a y (some v) ∧ Q v H2
def tDIn (ty td : TE) : TE := fun σ H Q => ty σ H fun y H1 => td σ H1 fun x H2 => ∃ a o, x = .ref a ∧ DGet H2 a y o ∧ Q (.bl o.isSome) H2
def tDNotIn (ty td : TE) : TE := fun σ H Q => ty σ H fun y H1 => td σ H1 fun x H2 => ∃ a o, x = .ref a ∧ DGet H2 a y o ∧ Q (.bl (!o.isSome)) H2
def sDPut (td ty tv : TE) : TS := fun D σ H => tv σ H fun v H1 => td σ H1 fun x H2 => ty σ H2 fun y H3 => ∃ a H4, x = .ref a ∧ DPut H3 a y v H4 ∧ D.nx σ H4
def sDAug (td ty tv : TE) (rd : V → V → Hp → VK → Prop) : TS := fun D σ H => td σ H fun x H1 => ty σ H1 fun y H2 => ∃ a v, x = .ref a ∧ DGet H2 a y (some v) ∧
  tv σ H2 fun y2 H3 => rd v y2 H3 fun z H4 => ∃ H5, DPut H4 a y z H5 ∧ D.nx σ H5
def sDDel (td ty : TE) : TS := fun D σ H => td σ H fun x H1 => ty σ H1 fun y H2 => ∃ a kvs k, x = .ref a ∧ H2 a = some (.dK kvs) ∧ y = kV k ∧ (valV kvs k).isSome = true ∧ D.nx σ (upd H2 a (.dK (dropK kvs k)))
section
variable {X : Cx} {o i e value : Expr} {pos pos' tpos : Pos} {td ty tv : TE}
theorem pe_dget (hu : X.A.units + 1 < cLine) (ho : PE X o td) (hi : PE X i ty) (hs : NoSl i) : PE X (.Subscript o i pos) (tDGet td ty) := by
  intro pins s σ H Q I h
  refine subD_of PySem.F.slot_dict_getitem.lookup hs (thn (ho pins s σ H _ I h) fun u s1 ⟨x, H1, I1, rx, q1⟩ => thn (hi pins s1 σ H1 _ I1 q1) fun iv s2 ⟨y, H2, I2, ry, a, v, ex, g, q2⟩ => ?_)
  subst ex
  obtain rfl : u = Value.ref a := rx
  exact ⟨dict_typeIs I2 g, d_getItem hu I2 g ry fun w' s3 I3 rw' => ⟨v, H2, I3, rw', q2⟩⟩
theorem pc_dnotin (hu : X.A.units + 1 < cLine) (hi : PE X i ty) (ho : PE X o td) : PC X .NotIn i o (tDNotIn ty td) := by
  intro pins s σ H Q I h
  refine thn (hi pins s σ H _ I h) fun iv s1 ⟨y, H1, I1, ry, q1⟩ => thn (ho pins s1 σ H1 _ I1 q1) fun u s2 ⟨x, H2, I2, rx, a, ov, ex, g, q2⟩ => ?_
  subst ex
  obtain rfl : u = Value.ref a := rx
  exact d_notIn hu I2 g ry fun s3 I3 => ⟨.bl (!ov.isSome), H2, I3, rfl, q2⟩
theorem ps_dput (hu : X.A.units + 1 < cLine) (ho : PE X o td) (hi : PE X i ty) (hv : PE X value tv) (hs : swapsWith value (some (.Subscript o i pos')) pos.line X.env = pure false) :
    PS X (.Assign [.Subscript o i pos'] value pos) (sDPut td ty tv) := by
  intro pins s σ H D I h
  refine wpAny_Assign_Subscript (thn (hv pins s σ H _ I h) fun r s1 ⟨v, H1, I1, rv, q1⟩ => thn (ho pins s1 σ H1 _ I1 q1) fun u s2 ⟨x, H2, I2, rx, q2⟩ => thn (hi pins s2 σ H2 _ I2 q2) fun iv s3 ⟨y, H3, I3, ry, a, H4, ex, g, q3⟩ => ?_) hs
  subst ex
  obtain rfl : u = Value.ref a := rx
  exact d_setItem hu I3 g ry rv fun s4 I4 => ⟨σ, H4, I4, q3⟩
end
theorem dk_empty {P : Program} {w : World} {H : Hp} (h : Heap) (hb : sysModules < h.objs.size) : ObjOk P w H (h.push { cls := .type "dict", data := .dict #[] }) h.objs.size (.dK []) :=
  ⟨Nat.zero_le _, beq_eq_false_iff_ne.mpr (Ne.symm (Nat.ne_of_lt hb)), [], .nil, Heap.DictOf.new h⟩
def tDNewK : TE := fun _ H Q => ∀ p, H p = none → Q (.ref p) (upd H p (.dK []))
def tDNewT : TE := fun _ H Q => ∀ p, H p = none → Q (.ref p) (upd H p (.dT []))
section
variable {X : Cx} {pos : Pos}
theorem pe_dnewK : PE X (.Dict [] [] pos) tDNewK := fun pins s σ H Q I h =>
  wpAny_Dict_empty ⟨.ref s.heap.objs.size, _, I.laid (a := s.heap.objs.size) (o := .dK []) (t' := s.toks) (fun _ _ q => Heap.get?_push_of_some _ q) (Nat.le_refl _) (dk_empty s.heap I.big), rfl, h _ (I.hok.fresh (Nat.le_refl _))⟩
end
def tPairs : List (TE × TE) → St → Hp → (List (V × V) → Hp → Prop) → Prop
  | [], _, H, Q => Q [] H
  | (tk, tv) :: r, σ, H, Q => tk σ H fun x H1 => tv σ H1 fun y H2 => tPairs r σ H2 fun ps H3 => Q ((x, y) :: ps) H3
abbrev VV : List (V × V) → List (Value × Value) → Prop := Paired fun p q => RelV p.1 q.1 ∧ RelV p.2 q.2
def PPs (X : Cx) (pos : Pos) (keys : List (Option Expr)) (values : List Expr) (trs : List (TE × TE)) : Prop :=
  ∀ (pins : List (Addr × Obj)) (s : Shared) (σ : St) (H : Hp) (Q : List (V × V) → Hp → Prop), Inv X pins σ H s → tPairs trs σ H Q →
    wpAny (model X.prog X.w) X.A (evalPairs (pairTrees keys values X.env pos)) (fun vs s' => ∃ ps H', Inv X pins σ H' s' ∧ VV ps vs ∧ Q ps H') X.xe s
theorem pps_nil {X : Cx} {pos : Pos} : PPs X pos [] [] [] := fun pins s σ H Q I h => pairTrees_nil_walk ⟨[], H, I, .nil, h⟩
theorem pps_cons {X : Cx} {pos : Pos} {k v : Expr} {ks : List (Option Expr)} {vs : List Expr} {tk tv : TE} {trs : List (TE × TE)} (hk : PE X k tk) (hv : PE X v tv) (hr : PPs X pos ks vs trs) :
    PPs X pos (some k :: ks) (v :: vs) ((tk, tv) :: trs) := fun pins s σ H Q I h =>
  pairTrees_cons_walk (thn (hk pins s σ H _ I h) fun u s1 ⟨x, H1, I1, rx, q1⟩ => thn (hv pins s1 σ H1 _ I1 q1) fun w2 s2 ⟨y, H2, I2, ry, q2⟩ =>
    thn (hr pins s2 σ H2 _ I2 q2) fun ws s3 ⟨ps, H3, I3, rel, q3⟩ => ⟨(x, y) :: ps, H3, I3, .cons ⟨rx, ry⟩ rel, q3⟩)
def mergeK (kvs more : List (Key × V)) : List (Key × V) := more.foldl (fun acc kv => putK acc kv.1 kv.2) kvs
theorem KV.merge : ∀ {more : List (Key × V)} {rs : List (Key × Value)} {kvs : List (Key × V)} {vs : List (Key × Value)}, KV more rs → KV kvs vs → KV (mergeK kvs more) (merged vs rs) := by
  intro more rs kvs vs r
  unfold KV at r
  induction r generalizing kvs vs with
  | nil => intro q; exact q
  | @cons p q ps qs h t ih =>
    intro r0
    have e : KV (putK kvs p.1 p.2) (stored vs q.1 q.2) := by
      have := r0.put p.1 h.2
      rw [← h.1]; exact this
    exact ih e
theorem length_mergeK : ∀ (more kvs : List (Key × V)), (mergeK kvs more).length ≤ kvs.length + more.length
  | [], kvs => by show kvs.length ≤ kvs.length + 0; omega
  | p :: r, kvs => by
    have h1 := length_mergeK r (putK kvs p.1 p.2)
    have h2 := length_putK kvs p.1 p.2
    show (mergeK (putK kvs p.1 p.2) r).length ≤ _
    rw [List.length_cons]; omega
theorem carries_of {P : Program} {w : World} : ∀ {kvs : List (Key × V)} {ws : List (Value × Value)}, VV (kvs.map fun kv => (kV kv.1, kv.2)) ws → ∃ rs, Carries (mixKind P w) ws rs ∧ KV kvs rs
  | [], _, r => by rw [List.map_nil] at r; cases r; exact ⟨[], True.intro, .nil⟩
  | p :: kvs, _, r => by
    rw [List.map_cons] at r
    cases r with
    | @cons a b as bs h t =>
      obtain ⟨rs, c, q⟩ := carries_of (P := P) (w := w) t
      obtain ⟨b1, b2⟩ := b
      exact ⟨(p.1, b2) :: rs, ⟨kV_is h.1, rfl, c⟩, .cons ⟨rfl, h.2⟩ q⟩
def tDisp (trs : List (TE × TE)) : TE := fun σ H Q => ∀ p, H p = none → tPairs trs σ (upd H p (.dK [])) fun ps H2 => H2 p = some (.dK []) ∧ ∃ kvs : List (Key × V), ps = kvs.map (fun kv => (kV kv.1, kv.2)) ∧ kvs.length ≤ 15 ∧ Q (.ref p) (upd H2 p (.dK (mergeK [] kvs)))
theorem pe_disp {X : Cx} {pos : Pos} {keys : List (Option Expr)} {values : List Expr} {trs : List (TE × TE)} (h : PPs X pos keys values trs) (hall : keys.all (·.isSome) = true) (hl : keys.length = values.length) (h0 : keys ≠ [])
    (h15 : keys.length ≤ 15) : PE X (.Dict keys values pos) (tDisp trs) := by
  intro pins s σ H Q I q
  have hn := I.hok.fresh (Nat.le_refl s.heap.objs.size)
  have I1 := I.laid (a := s.heap.objs.size) (o := .dK []) (h' := s.heap.push { cls := .type "dict", data := .dict #[] }) (t' := s.toks) (fun _ _ q => Heap.get?_push_of_some _ q) (Nat.le_refl _) (dk_empty s.heap I.big)
  refine wpAny_Dict_walk (knd := mixKind X.prog X.w) hall hl h0 h15 (thn (h pins _ σ _ _ I1 (q _ hn)) fun ws s2 ⟨ps, H2, I2, rel, e, kvs, ep, lk, q2⟩ => ?_)
  subst ep
  obtain ⟨rs, c, rk⟩ := carries_of (P := X.prog) (w := X.w) rel
  obtain ⟨z, hd, vs0, r0, dd⟩ := dk_of I2.hok e
  cases r0
  refine ⟨rs, c, dd, fun h' dd' hs => ⟨.ref s.heap.objs.size, _, ?_, rfl, q2⟩⟩
  have hz : (mergeK [] kvs).length ≤ sizeLine := by
    have h1 := length_mergeK kvs []
    rw [List.length_nil] at h1
    rw [sizeLine_eq]; omega
  have he : ∃ q, h'.get? s.heap.objs.size = some q := let ⟨q, _, _, hq, _⟩ := dd'; ⟨q, hq⟩
  exact d_write I2 (by rw [e]; exact True.intro) hs he (dk_new hz hd (rk.merge .nil) dd')
structure M1 (X : Cx) (o : Expr) (m : Str) (apos : Pos) (e : Expr) (cpos : Pos) : Prop where
  base : attributeBase o m X.env (eval o X.env) = eval o X.env
  few : ((backTo cpos (starEach [e] X.env)).all (fun x => !x.1) && (backToKw cpos (keywordEach [] X.env)).all (fun x => x.1.isSome)
    && decide (([e] : List Expr).length + ([] : List Keyword).length + (if ([] : List Keyword).isEmpty then 0 else 1) < 30)) = true
  line : (apos.endLine == cpos.line) = true
  trees : backTo cpos (starEach [e] X.env) = [(false, eval e X.env)]
structure M2 (X : Cx) (o : Expr) (m : Str) (apos : Pos) (e f : Expr) (cpos : Pos) : Prop where
  base : attributeBase o m X.env (eval o X.env) = eval o X.env
  few : ((backTo cpos (starEach [e, f] X.env)).all (fun x => !x.1) && (backToKw cpos (keywordEach [] X.env)).all (fun x => x.1.isSome)
    && decide (([e, f] : List Expr).length + ([] : List Keyword).length + (if ([] : List Keyword).isEmpty then 0 else 1) < 30)) = true
  line : (apos.endLine == cpos.line) = true
  trees : backTo cpos (starEach [e, f] X.env) = [(false, eval e X.env), (false, eval f X.env)]
def IsD (H : Hp) (a : Addr) : Prop := (∃ kvs, Rd H a (.dK kvs)) ∨ ∃ kvs, Rd H a (.dT kvs)
section
variable {X : Cx} {pins : List (Addr × Obj)} {σ : St} {H : Hp} {s : Shared} {a : Addr} {y d : V} {u r : Value} {o : Option V} {A : Around} {E : Value → Shared → Prop}
end
def tDGet1 (td ty : TE) : TE := fun σ H Q => td σ H fun x H1 => ∃ a, x = .ref a ∧ IsD H1 a ∧ ty σ H1 fun y H2 => ∃ o, DGet H2 a y o ∧ Q (o.getD .non) H2
def tDGet2 (td ty tx : TE) : TE := fun σ H Q => td σ H fun x H1 => ∃ a, x = .ref a ∧ IsD H1 a ∧ ty σ H1 fun y H2 => tx σ H2 fun z H3 => ∃ o, DGet H3 a y o ∧ Q (o.getD z) H3
def tDPop1 (td ty : TE) : TE := fun σ H Q => td σ H fun x H1 => ∃ a, x = .ref a ∧ IsD H1 a ∧ ty σ H1 fun y H2 => ∃ kvs k v, H2 a = some (.dK kvs) ∧ y = kV k ∧ valV kvs k = some v ∧ Q v (upd H2 a (.dK (dropK kvs k)))
def tDPop2 (td ty tx : TE) : TE := fun σ H Q => td σ H fun x H1 => ∃ a, x = .ref a ∧ IsD H1 a ∧ ty σ H1 fun y H2 => tx σ H2 fun z H3 => ∃ kvs k, H3 a = some (.dK kvs) ∧ y = kV k ∧
  (∀ v, valV kvs k = some v → Q v (upd H3 a (.dK (dropK kvs k)))) ∧ (valV kvs k = none → Q z H3)
section
variable {X : Cx} {o e f : Expr} {apos cpos : Pos} {td ty tx : TE}
end
section
variable {X : Cx} {pins : List (Addr × Obj)} {σ : St} {H : Hp} {s : Shared} {a : Addr} {kvs : List (Key × V)} {A : Around} {E : Value → Shared → Prop}
end
section
variable {X : Cx} {pins : List (Addr × Obj)} {σ : St} {H : Hp} {s : Shared} {a : Addr} {y : V} {u : Value} {A : Around} {E : Value → Shared → Prop}
end
end L2
namespace Att
open PySem PySem.W PySem.Calls PyProof.Rows
theorem ints_of_wellAll {P : Params} {h : Heap} : ∀ (ns : List Int) (vs : List Value), WellAll P h vs (ns.map WData.int) → IntsAre vs ns := by
  intro ns
  induction ns with
  | nil =>
    intro vs w
    rw [List.map_nil] at w
    cases w
    exact .nil
  | cons n ns ih =>
    intro vs w
    rw [List.map_cons] at w
    cases w with
    | cons a b =>
      cases a
      exact .cons _ _ (ih _ b)
theorem script_of {l : OpenLaw} {n : Nat} (hn : l.most = some n) {P : Params} {h : Heap} {args : List WData} {vals : List Value}
    (hpre : l.row.toRowW.claim.pre args = true) (hwl : WellAll P h vals args) :
    ∃ a vs ns, vals = [Value.ref a] ∧ args = [WData.list (ns.map WData.int)] ∧ h.get? a = some { cls := .type "list", data := .seq vs.toArray } ∧ IntsAre vs ns ∧ ns.length ≤ n := by
  have hsh : WShape.hasAll [] args [.list .int] = true := (pre_splitW hpre).1
  have hc : l.pre.holds [] { args := args } = true := (pre_splitW hpre).2
  obtain ⟨d, r, rfl, h1, h2⟩ := hasAllW_cons hsh
  obtain rfl := hasAllW_nil h2
  obtain ⟨xs, rfl, h3⟩ := hasW_list h1
  obtain ⟨ns, rfl⟩ := items_int h3
  have hlen : ns.length ≤ n := by
    unfold OpenLaw.pre at hc
    have h4 : (WTm.not (.lt (.lit (.int (n : Int))) (.len (.arg 0)))).holds [] { args := [.list (ns.map .int)] } = true := by
      have h4 := (holds_andW hc).1
      rw [hn] at h4
      exact h4
    have h5 := condW_of h4 (w_not (w_lt w_lit (w_len_list (w_arg rfl))))
    rw [List.length_map] at h5
    refine Nat.le_of_not_lt fun q => ?_
    have q' : (n : Int) < ((ns.length : Nat) : Int) := by omega
    first
      | (rw [decide_eq_true q'] at h5; exact absurd h5 (by decide))
      | (simp at h5; omega)
  cases hwl with
  | cons w1 w2 =>
    cases w2
    cases w1 with
    | list ho hall => exact ⟨_, _, ns, rfl, rfl, ho, ints_of_wellAll ns _ hall, hlen⟩
theorem post_true (l : OpenLaw) (args : List WData) : l.row.toRowW.claim.post args (.bool true) args = true :=
  postW_of (r := l.row.toRowW) (X := (true == true))
    (show WShape.has [] (.bool true) .bool = true by first | rfl | decide | simp [WShape.has, WShape.arms, WShape.armsAll])
    (show (WTm.eq .res (.lit (.bool true))).value [] { args := args, res := some (.bool true), after := args } = some (.bool (true == true)) from w_eq_bool (w_res rfl) w_lit) rfl
theorem attach_call {l : OpenLaw} {n : Nat} {q : Program} {loose : List Str} {XP : (Str → Option Value) → Heap → Prop} {YP : World → Heap → Prop} {d : DefRec}
    (hn : l.most = some n) (hdf : d.params.defaults = [])
    (call : ∀ (w : World) (s₀ s₁ : Shared) (mg mb : Str → Option Value) (fa : Addr) (o : Obj) (pm cd doc : Value) (a : Addr) (vs : List Value) (ns : List Int),
      Ground q loose [] XP w s₀ mg mb s₁.heap → YP w s₁.heap →
      s₁.heap.get? fa = some o → o.data = .func (docDef d.name d.params d.body d.scope pm cd doc) → s₁.heap.CodeRec cd d.name → mg d.name = some (.ref fa) →
      s₁.heap.get? a = some { cls := .type "list", data := .seq vs.toArray } → IntsAre vs ns → ns.length ≤ n → s₁.gens = #[] →
      codeAny (model l.prog w) callerA (.call (.ref fa) ⟨[.ref a], []⟩) (fun r s' => r = .ok (.ret (.bool true)) ∧ OldK s₁.heap s'.heap ∧ s'.os = s₁.os ∧ AllBare s'.gens) s₁) :
    WalkO q loose XP YP l.row.toRowW d [] (fun f vs => PySem.call f vs) := by
  intro w s₀ s₁ mg mb G Y fa o pm cd doc dV kV ho hd hcd hD hmg hg args vals as hpre hlay hrd hwl hlo
  obtain rfl : dV = .none := Dflts.none hD hdf
  obtain rfl : kV = .none := Dflts.noKw hD
  obtain ⟨a, vs, ns, rfl, rfl, hobj, hints, hlen⟩ := script_of hn hpre hwl
  refine enter_call (codeAny_mono (call w s₀ s₁ mg mb fa o pm cd doc a vs ns G Y ho (fd_plain hd) hcd hmg hobj hints hlen hg) fun r s' hq => ?_)
  obtain ⟨rfl, h2, h3, h4⟩ := hq
  exact ⟨.inl ⟨.bool true, .bool true, [], rfl, fun _ => rfl, .bool true, post_true l _, fun _ => ⟨List.Pairwise.nil, fun _ hm => (nomatch hm)⟩⟩, h2, h3, h4⟩
section
variable {prog : Program} {w : World} {A : Around} {E : Value → Shared → Prop} {s : Shared} {K : Frag}
def noObjs (h : Heap) : Heap := { h with objs := #[] }
def ledger (h : Heap) (L d : Addr) : List (Addr × Obj) := (List.range h.objs.size).filterMap fun a => if a = L ∨ a = d then none else (h.get? a).map fun o => (a, o)
end
end Att
namespace L2
open PySem PySem.Spec PyProof.Rows
theorem vals_ints : ∀ {vs : List Value} {ns : List Int}, IntsAre vs ns → Vals (ns.map V.int) vs
  | _, _, .nil => .nil
  | _, _, .cons n t h => .cons ⟨t, rfl⟩ (vals_ints h)
def Only (H : Hp) : Prop := ∀ b, H b = none ∨ ∃ o xs, H b = some (.frz o (.lst xs))
theorem law_call {P : Program} {w : World} {K : PySem.W.Frag} {mg mb : Str → Option Value} {CX : CXT} {k : Nat} {fa a : Addr} {fd : FuncData} {x : Str} {sp : Sp} {s₁ : Shared} {vs : List Value} {ns : List Int}
    (KX : K.In s₁.heap) (hns : s₁.heap.Ns mainGlobals mg) (hb : s₁.heap.Ns builtinsNs mb) (hbb : ∀ x : Str, x ≠ "__name__" → mb x = bootBuiltins x) (hlim : s₁.heap.NoLimit) (hg : s₁.gens = #[])
    (ha : s₁.heap.get? a = some { cls := .type "list", data := .seq vs.toArray }) (hi : IntsAre vs ns) (hl : ns.length ≤ sizeLine) (hr : Room k callerA)
    (F : ∀ base : Heap, K.In base → base.Ns mainGlobals mg → FnOk P w K mg base CX k fa fd [x] sp) (hbind : ∀ (s : Shared) (u : Value), BindsTo s fd ⟨[u], []⟩ [(x, u)])
    (hsp : ∀ H : Hp, Only H → SqL K H a (ns.map V.int) → sp [.ref a] H (fun v _ => v = .bl true) fun _ _ _ => False)
    (hCX : ∀ H e s', CX [] H s₁ (fun _ _ _ => False) e s' → False) :
    codeAny (model P w) callerA (.call (.ref fa) ⟨[.ref a], []⟩) (fun r s' => r = .ok (.ret (.bool true)) ∧ OldK s₁.heap s'.heap ∧ s'.os = s₁.os ∧ AllBare s'.gens) s₁ := by
  have rv := vals_ints hi
  have lenV := hi.length
  have core : ∀ H : Hp, Only H → SqL K H a (ns.map V.int) → HOk P w H s₁.heap → (∀ b, H b ≠ none → b = a) → (H a ≠ none → K.lookup a = none) →
      codeAny (model P w) callerA (.call (.ref fa) ⟨[.ref a], []⟩) (fun r s' => r = .ok (.ret (.bool true)) ∧ OldK s₁.heap s'.heap ∧ s'.os = s₁.os ∧ AllBare s'.gens) s₁ := by
    intro H hO hS hok hA hK
    have base_of : ∀ {b : Addr} {o : Obj}, s₁.heap.get? b = some o → H b = none → (hidT s₁.heap H).get? b = some o := fun e n => hidT_get e n
    have noA : ∀ {b : Addr} {o : Obj} {es : Array DictEntry} {ep : Nat}, s₁.heap.get? b = some o → o.data = .dict es ep → H b = none := fun {b o es ep} e d => by
      cases q : H b with
      | none => rfl
      | some u =>
        have e' : b = a := hA b (by rw [q]; simp)
        subst e'
        rw [ha] at e; cases e
        have d' : Data.seq vs.toArray _ = Data.dict es ep := d
        cases d'
    have nsK : ∀ {b : Addr} {m : Str → Option Value}, s₁.heap.Ns b m → (hidT s₁.heap H).Ns b m := fun {b m} ⟨o, es, ep, e, d, r⟩ => ⟨o, es, ep, base_of e (noA e d), d, r⟩
    have hKb : K.In (hidT s₁.heap H) := fun b o e => base_of (KX b o e) (by
      cases q : H b with
      | none => rfl
      | some u =>
        have e' : b = a := hA b (by rw [q]; simp)
        subst e'
        rw [hK (by rw [q]; simp)] at e; cases e)
    have hM : Mod K mg (hidT s₁.heap H) := ⟨hKb, nsK hns, ⟨mb, nsK hb, hbb⟩, let ⟨mc, h1, h2⟩ := hlim; ⟨mc, nsK h1, h2⟩⟩
    have e0 : Env0 P w K mg (hidT s₁.heap H) callerA [] s₁ H := ⟨rfl, hM, fun b o e => of_hidT e, Nat.le_of_eq (hidT_size _ _), trivial, fun b hb => absurd (show b ∈ ([] : List Addr) from hb) (by simp), hok, .of_eq hg⟩
    refine codeAny_mono ((F _ hKb (nsK hns)).run callerA [] s₁ H ⟨[.ref a], []⟩ [.ref a] [.ref a] _ _ hr e0 (hbind s₁ (.ref a)) (.cons rfl .nil) (hsp H hO hS)) fun r s' h => ?_
    cases r with
    | error e => exact (hCX H e s' h).elim
    | ok fl =>
      cases fl with
      | next => exact False.elim h
      | brk => exact False.elim h
      | cont => exact False.elim h
      | ret u =>
        obtain ⟨v, H', os, bare, un, hok', r', q⟩ := h
        have q' : v = .bl true := q
        subst q'
        obtain rfl : u = Value.bool true := r'
        refine ⟨rfl, OldK.of_keep fun b o e => ?_, os, bare⟩
        cases q : H b with
        | none => exact un.keep b o e q (by intro z; exact absurd (show b ∈ ([] : List Addr) from z) (by simp)) (by simp)
        | some u =>
          rcases hO b with z | ⟨ob, xs, z⟩
          · rw [q] at z; cases z
          · have z2 := un.frzs b ob _ z
            obtain ⟨e1, _⟩ := hok b _ z
            obtain ⟨e2, _⟩ := hok' b _ z2
            rw [e] at e1; cases e1
            exact e2
  cases hk : K.lookup a with
  | some o =>
    have e := KX a o hk
    rw [ha] at e
    cases e
    refine core (fun _ => none) (fun _ => .inl rfl) (.inr ⟨_, vs.toArray, _, hk, rfl, rfl, rfl, by rw [List.size_toArray, lenV]; exact hl, by simpa using rv⟩) (fun b u z => by have z' : (none : Option HO) = some u := z; cases z') (fun b z => absurd rfl z) fun z => absurd rfl z
  | none =>
    refine core (fun b => if b = a then some (.frz { cls := .type "list", data := .seq vs.toArray } (.lst (ns.map V.int))) else none) (fun b => ?_) (.inl (.inr ⟨{ cls := .type "list", data := .seq vs.toArray }, if_pos rfl⟩)) (fun b u z => ?_) (fun b z => ?_) fun _ => hk
    · by_cases hb : b = a
      · exact .inr ⟨_, _, if_pos hb⟩
      · exact .inl (if_neg hb)
    · by_cases hb : b = a
      · have z' := (if_pos hb).symm.trans z
        cases z'
        subst hb
        exact ⟨ha, by rw [List.length_map]; exact hl, vs, _, rv, ha⟩
      · have z' := (if_neg hb).symm.trans z
        cases z'
    · by_cases hb : b = a
      · exact hb
      · exact absurd (if_neg hb) z
end L2
namespace L2
open PySem PySem.Spec PyProof.Rows
abbrev KOf {K : PySem.W.Frag} {h : Heap} (_ : K.In h) : PySem.W.Frag := K
theorem walk_of {l : PySem.W.OpenLaw} {n k : Nat} {q : Program} {loose : List Str} {XP : (Str → Option Value) → Heap → Prop} {YP : World → Heap → Prop} {d : DefRec} {K : Params → PySem.W.Frag} {CX : World → CXT} {sp : World → Sp} {x : Str}
    (hn : l.most = some n) (hn2 : n ≤ sizeLine) (hdf : d.params.defaults = []) (hr : Room k callerA)
    (hY : ∀ (w : World) (h : Heap), YP w h → (K w.params).In h)
    (F : ∀ (w : World) (mg : Str → Option Value) (fa : Addr) (h : Heap), (K w.params).In h → h.Ns mainGlobals mg → mg d.name = some (.ref fa) →
      ∃ fd : FuncData, (∀ (s : Shared) (u : Value), BindsTo s fd ⟨[u], []⟩ [(x, u)]) ∧
        ∀ base : Heap, (K w.params).In base → base.Ns mainGlobals mg → FnOk l.prog w (K w.params) mg base (CX w) k fa fd [x] (sp w))
    (hsp : ∀ (w : World) (H : Hp) (a : Addr) (ns : List Int), ns.length ≤ n → Only H → SqL (K w.params) H a (ns.map V.int) → sp w [.ref a] H (fun v _ => v = .bl true) fun _ _ _ => False)
    (hCX : ∀ (w : World) (H : Hp) (s : Shared) (e : Value) (s' : Shared), CX w [] H s (fun _ _ _ => False) e s' → False) :
    PySem.W.WalkO q loose XP YP l.row.toRowW d [] (fun f vs => PySem.call f vs) := by
  refine Att.attach_call hn hdf fun w s₀ s₁ mg mb fa o pm cd doc a vs ns G Y ho hd hcd hmg hobj hints hlen hg => ?_
  have KX := hY w _ Y
  obtain ⟨fd, hb, hF⟩ := F w mg fa _ KX G.T.g hmg
  exact law_call KX G.T.g G.T.b G.T.builtins G.T.nolimit hg hobj hints (Nat.le_trans hlen hn2) hr hF hb (fun H hO hS => hsp w H a ns hlen hO hS) fun H e s' => hCX w H s₁ e s'
end L2
namespace L2
open PySem PySem.Spec PyProof.Rows
def inClass (s : Stmt) (j : Nat) : Stmt := match s with
  | .ClassDef _ _ _ body _ _ _ _ _ _ _ => body.getD j (.Pass ⟨0, 0, 0, 0⟩)
  | _ => .Pass ⟨0, 0, 0, 0⟩
def defArgs (s : Stmt) : Arguments := match s with
  | .FunctionDef _ a _ _ _ _ _ _ _ _ => a
  | _ => { posonlyargs := [], args := [], vararg := none, kwonlyargs := [], kw_defaults := [], kwarg := none, defaults := [] }
def defBody (s : Stmt) : List Stmt := match s with
  | .FunctionDef _ _ b _ _ _ _ _ _ _ => b
  | _ => []
def defScope (s : Stmt) : Scope := match s with
  | .FunctionDef _ _ _ _ _ _ sc _ _ _ => sc
  | _ => { kind := .function, names := [], isGenerator := false, isCoroutine := false }
abbrev CX0 : CXT := fun _ _ _ _ _ _ => False
abbrev E0 : XK := fun _ _ _ => False
theorem pass0 {X : Cx} : Passes CX0 X E0 := fun _ _ _ _ _ _ _ h => h.elim
structure Fun (K : PySem.W.Frag) (x qual : Str) (st : Stmt) (f : Addr) (fd : FuncData) : Prop where
  ex : ∃ (oc : Value) (od : Option Addr) (kV doc pm : Value) (an : Option Addr) (cdv ct : Value) (osl : Array (Option Value)),
    fd = PySem.W.fnOf x qual (defArgs st) (defBody st) (defScope st) .none kV doc pm an cdv ct ∧ K.lookup f = some ⟨oc, od, .func fd, osl⟩ ∧ PySem.W.codeIn K cdv qual = true
  kp : PySem.W.keepIn K (.ref f) = true
section
variable {P : Program} {w : World} {K : PySem.W.Frag} {mg : Str → Option Value} {base : Heap}
theorem Fun.ok {x qual : Str} {st : Stmt} {f : Addr} {fd : FuncData} {N ps : List Str} {k : Nat} {sp : Sp} (F : Fun K x qual st f fd) (S : FnScope N ps (defScope st)) (len : ∀ vs H Q E, sp vs H Q E → vs.length = ps.length)
    (hbody : ∀ (cdv : Value) (A : Around) (outer : List Env) (s : Shared) (H : Hp) (vs : List V) (Q : VK) (E : XK), Room k (A.deeper (envOfC qual (defScope st) s.heap.objs.size f cdv)) → sp vs H Q E →
      ∃ t, PSs (cxOf CX0 P w K mg base N qual (defScope st) f cdv A outer s H E).nox (defBody st) t ∧ t { nx := fun _ H' => Q .non H', rt := Q } (start N vs) H) : FnOk P w K mg base CX0 (k + 1) f fd ps sp := by
  obtain ⟨oc, od, kV, doc, pm, an, cdv, ct, osl, rfl, lk, hcd⟩ := F.ex
  refine fn_of lk hcd S len fun A outer s H vs Q E hr hsp => ?_
  obtain ⟨t, h, q⟩ := hbody cdv A outer s H vs Q E hr hsp
  exact ⟨t, h.nox, q⟩
theorem Fun.binds {x qual : Str} {st : Stmt} {f : Addr} {fd : FuncData} {ps : List Str} (F : Fun K x qual st f fd)
    (h : ∀ (kV doc pm : Value) (an : Option Addr) (cdv ct : Value) (us : List Value), us.length = ps.length → bindArgs (PySem.W.fnOf x qual (defArgs st) (defBody st) (defScope st) .none kV doc pm an cdv ct) ⟨us, []⟩ = pure (ps.zip us)) : Binds K fd ps [] := by
  obtain ⟨oc, od, kV, doc, pm, an, cdv, ct, osl, rfl, lk, hcd⟩ := F.ex
  exact .all (h kV doc pm an cdv ct)
theorem fun_mk {x qual : Str} {st : Stmt} {f : Addr} {oc : Value} {od an : Option Addr} {osl : Array (Option Value)} {kV doc pm cdv ct : Value} (l : K.lookup f = some ⟨oc, od, .func (PySem.W.fnOf x qual (defArgs st) (defBody st) (defScope st) .none kV doc pm an cdv ct), osl⟩)
    (c : PySem.W.codeIn K cdv qual = true) (k : PySem.W.keepIn K (.ref f) = true) : Fun K x qual st f (PySem.W.fnOf x qual (defArgs st) (defBody st) (defScope st) .none kV doc pm an cdv ct) := ⟨⟨oc, od, kV, doc, pm, an, cdv, ct, osl, rfl, l, c⟩, k⟩
end
theorem hu_of {A : Around} {k : Nat} (hr : Room k A) : A.units + 1 < cLine := Nat.lt_of_le_of_lt (Nat.add_le_add_left (by decide : 1 ≤ 64) _) hr.units
theorem small1000 {n : Nat} (h : n ≤ 1000) : n < sizeLine := Nat.lt_of_le_of_lt h (by decide)
section
variable {X : Cx}
theorem pv (i : Nat) {x : Str} {pos : Pos} (hN : X.N[i]? = some x := by rfl) (hv : Vis X.env.scope x := by first | exact Or.inl rfl | exact Or.inr (Or.inl rfl) | exact Or.inr (Or.inr rfl)) (hd : (x == ("__debug__" : Str)) = false := by decide)
    (hcd : (x == ("__classdict__" : Str)) = false := by decide) : PE X (.Name x pos) (tVar i) := pe_var hN hv hd hcd
end
theorem iteF {A B : Prop} (h : B) : if false = true then A else B := by
  rw [if_neg Bool.false_ne_true]
  exact h
theorem iteT {A B : Prop} (h : A) : if true = true then A else B := by
  rw [if_pos rfl]
  exact h
theorem ite2 {c A B : Prop} [Decidable c] (h1 : c → A) (h2 : ¬ c → B) : if c then A else B := by
  by_cases h : c
  · rw [if_pos h]
    exact h1 h
  · rw [if_neg h]
    exact h2 h
theorem iteNS {c A B : Prop} [Decidable c] (hc : c) (h : B) : if (!decide c) = true then A else B := by
  rw [decide_eq_true hc]
  exact iteF h
def Same (H H' : Hp) : Prop := ∀ b o, H b = some o → H' b = some o
theorem Same.refl (H : Hp) : Same H H := fun _ _ h => h
theorem Same.trans {H H1 H2 : Hp} (a : Same H H1) (b : Same H1 H2) : Same H H2 := fun c o h => b c o (a c o h)
theorem Same.free {H H' : Hp} (e : Same H H') {l : Addr} (h : H' l = Option.none) : H l = Option.none := by
  cases q : H l with
  | none => rfl
  | some o =>
    rw [e l o q] at h
    cases h
theorem Same.seq {K : PySem.W.Frag} {H H' : Hp} {a : Addr} {xs : List V} (e : Same H H') (h : SqL K H a xs) : SqL K H' a xs := by
  rcases h with (h | ⟨o, h⟩) | h
  · exact .inl (.inl (e _ _ h))
  · exact .inl (.inr ⟨o, e _ _ h⟩)
  · exact .inr h
section
variable {κ : Type} [DecidableEq κ]
theorem valV_not {kvs : List (κ × V)} {k : κ} (h : valV kvs k = none) : ¬ k ∈ kvs.map (·.1) := by
  intro m
  obtain ⟨p, hp, e⟩ := List.mem_map.mp m
  have q : (kvs.any fun kv => decide (kv.1 = k)) = true := List.any_eq_true.mpr ⟨p, hp, decide_eq_true e⟩
  rw [valV_any, h] at q
  exact absurd q (by simp)
theorem nd_snoc : ∀ {l : List κ} {k : κ}, l.Nodup → ¬ k ∈ l → (l ++ [k]).Nodup
  | [], k, _, _ => by simp
  | a :: r, k, h, hk => by
    obtain ⟨h1, h2⟩ := List.nodup_cons.mp h
    show (a :: (r ++ [k])).Nodup
    refine List.nodup_cons.mpr ⟨fun m => ?_, nd_snoc h2 fun m => hk (List.mem_cons.mpr (Or.inr m))⟩
    rcases List.mem_append.mp m with q | q
    · exact h1 q
    · exact hk (List.mem_cons.mpr (Or.inl (List.mem_singleton.mp q).symm))
theorem nd_putK {kvs : List (κ × V)} {k : κ} (v : V) (hn : (kvs.map (·.1)).Nodup) (h : valV kvs k = none) : ((putK kvs k v).map (·.1)).Nodup := by
  rw [putK_new v h, List.map_append]
  exact nd_snoc hn (valV_not h)
theorem dropK_pos {p : κ × V} {r : List (κ × V)} {k : κ} (e : p.1 = k) : dropK (p :: r) k = dropK r k := by
  unfold dropK
  rw [List.filter_cons, if_neg (by simp [e])]
theorem dropK_neg {p : κ × V} {r : List (κ × V)} {k : κ} (e : ¬ p.1 = k) : dropK (p :: r) k = p :: dropK r k := by
  unfold dropK
  rw [List.filter_cons, if_pos (by simp [e])]
theorem dropK_no : ∀ {kvs : List (κ × V)} {k : κ}, ¬ k ∈ kvs.map (·.1) → dropK kvs k = kvs
  | [], _, _ => rfl
  | p :: r, k, h => by
    have h' : ¬ k ∈ r.map (·.1) := fun m => by
      obtain ⟨q, hq, e⟩ := List.mem_map.mp m
      exact h (List.mem_map.mpr ⟨q, List.mem_cons.mpr (Or.inr hq), e⟩)
    rw [dropK_neg fun e => h (List.mem_map.mpr ⟨p, List.mem_cons.mpr (Or.inl rfl), e⟩), dropK_no h']
theorem dropK_mem {kvs : List (κ × V)} {k : κ} {p : κ × V} (h : p ∈ dropK kvs k) : p ∈ kvs := (List.mem_filter.mp h).1
theorem nd_dropK : ∀ {kvs : List (κ × V)} {k : κ}, (kvs.map (·.1)).Nodup → ((dropK kvs k).map (·.1)).Nodup
  | [], _, _ => List.nodup_nil
  | p :: r, k, h => by
    have h : (p.1 :: r.map (·.1)).Nodup := h
    obtain ⟨h1, h2⟩ := List.nodup_cons.mp h
    by_cases e : p.1 = k
    · rw [dropK_pos e]
      exact nd_dropK h2
    · rw [dropK_neg e]
      show (p.1 :: (dropK r k).map (·.1)).Nodup
      refine List.nodup_cons.mpr ⟨fun m => h1 ?_, nd_dropK h2⟩
      obtain ⟨q, hq, eq⟩ := List.mem_map.mp m
      exact List.mem_map.mpr ⟨q, dropK_mem hq, eq⟩
theorem dropK_len : ∀ {kvs : List (κ × V)} {k : κ}, (kvs.map (·.1)).Nodup → k ∈ kvs.map (·.1) → (dropK kvs k).length + 1 = kvs.length
  | [], _, _, m => by simp at m
  | p :: r, k, h, m => by
    have h : (p.1 :: r.map (·.1)).Nodup := h
    have m : k = p.1 ∨ k ∈ r.map (·.1) := List.mem_cons.mp m
    obtain ⟨h1, h2⟩ := List.nodup_cons.mp h
    by_cases e : p.1 = k
    · subst e
      rw [dropK_pos rfl, dropK_no h1]
      all_goals rfl
    · have m' : k ∈ r.map (·.1) := m.resolve_left fun z => e z.symm
      have q := dropK_len h2 m'
      rw [dropK_neg e, List.length_cons, List.length_cons]
      omega
end
end L2
namespace Fd
inductive Rule where
  | every (m s : Int)
  | date (d : Int)
  | nth (w k : Int)
  | both (a b : Rule)
  | either (a b : Rule)
  | but (a b : Rule)
  | moved (a b : Rule)
def Good : Rule → Prop
  | .every m _ => 1 ≤ m ∧ m ≤ 60
  | .date d => (1 ≤ d ∧ d ≤ 37) ∨ (-37 ≤ d ∧ d ≤ -1)
  | .nth w k => ((1 ≤ w ∧ w ≤ 5) ∨ (-5 ≤ w ∧ w ≤ -1)) ∧ 0 ≤ k ∧ k < 9
  | .both a b => Good a ∧ Good b
  | .either a b => Good a ∧ Good b
  | .but a b => Good a ∧ Good b
  | .moved a b => Good a ∧ Good b
def depth : Rule → Nat
  | .every _ _ => 0
  | .date _ => 0
  | .nth _ _ => 0
  | .both a b => max (depth a) (depth b) + 1
  | .either a b => max (depth a) (depth b) + 1
  | .but a b => max (depth a) (depth b) + 1
  | .moved a b => max (depth a) (depth b) + 1
def size : Rule → Nat
  | .every _ _ => 1
  | .date _ => 1
  | .nth _ _ => 1
  | .both a b => size a + size b + 1
  | .either a b => size a + size b + 1
  | .but a b => size a + size b + 1
  | .moved a b => size a + size b + 1
def turn : Rule → Nat
  | .every m _ => m.toNat
  | .date _ => 72
  | .nth _ _ => 72
  | .both a b => Nat.lcm (turn a) (turn b)
  | .either a b => Nat.lcm (turn a) (turn b)
  | .but a b => Nat.lcm (turn a) (turn b)
  | .moved a b => Nat.lcm (turn a) (turn b)
def dt (d : Int) : Int := if d % 72 < 35 then d % 72 + 1 else d % 72 - 34
def len (d : Int) : Int := if d % 72 < 35 then 35 else 37
def walk (f g : Int → Bool) : Nat → Int → Bool
  | 0, d => f d
  | n + 1, d => f d || (g (d - 1) && walk f g n (d - 1))
def on : Rule → Int → Bool
  | .every m s, d => decide (d % m = s % m)
  | .date x, d => decide (x = dt d ∨ x = dt d - len d - 1)
  | .nth w k, d => decide (d % 9 = k ∧ (w = (dt d - 1) / 9 + 1 ∨ w = -((len d - dt d) / 9 + 1)))
  | .both a b, d => on a d && on b d
  | .either a b, d => on a d || on b d
  | .but a b, d => on a d && !on b d
  | .moved a b, d => !on b d && walk (on a) (on b) (turn b) d
theorem turn_pos : ∀ {r : Rule}, Good r → 0 < turn r
  | .every m s, h => by simp only [Good] at h; simp only [turn]; omega
  | .date _, _ => by simp only [turn]; decide
  | .nth _ _, _ => by simp only [turn]; decide
  | .both a b, h => Nat.lcm_pos (turn_pos h.1) (turn_pos h.2)
  | .either a b, h => Nat.lcm_pos (turn_pos h.1) (turn_pos h.2)
  | .but a b, h => Nat.lcm_pos (turn_pos h.1) (turn_pos h.2)
  | .moved a b, h => Nat.lcm_pos (turn_pos h.1) (turn_pos h.2)
def Per (f : Int → Bool) (T : Nat) : Prop := ∀ d : Int, f (d + T) = f d
theorem Per.mulN {f : Int → Bool} {T : Nat} (h : Per f T) : ∀ (n : Nat) (d : Int), f (d + (T : Int) * (n : Nat)) = f d
  | 0, d => by simp
  | n + 1, d => by
    have e : d + (T : Int) * ((n + 1 : Nat) : Int) = (d + (T : Int) * (n : Int)) + (T : Int) := by
      rw [Int.natCast_add, Int.mul_add]; simp; omega
    rw [e, h, Per.mulN h n d]
theorem Per.mul {f : Int → Bool} {T : Nat} (h : Per f T) (k d : Int) : f (d + (T : Int) * k) = f d := by
  rcases Int.le_total 0 k with hk | hk
  · obtain ⟨n, rfl⟩ := Int.eq_ofNat_of_zero_le hk
    exact h.mulN n d
  · obtain ⟨n, hn⟩ := Int.eq_ofNat_of_zero_le (show 0 ≤ -k by omega)
    have e : d = (d + (T : Int) * k) + (T : Int) * (n : Int) := by
      rw [← hn, Int.mul_neg]; omega
    have q := h.mulN n (d + (T : Int) * k)
    rw [← e] at q
    exact q.symm
theorem Per.dvd {f : Int → Bool} {T U : Nat} (h : Per f T) (hd : T ∣ U) : Per f U := by
  obtain ⟨k, rfl⟩ := hd
  intro d
  have q := h.mul (k : Int) d
  rw [Int.natCast_mul]
  exact q
theorem Per.mod {f : Int → Bool} {T : Nat} (h : Per f T) (d : Int) : f (d % (T : Int)) = f d := by
  have q := h.mul (d / (T : Int)) (d % (T : Int))
  rw [Int.emod_add_mul_ediv] at q
  exact q.symm
theorem Per.sub {f : Int → Bool} {T : Nat} (h : Per f T) (d : Int) : f (d - (T : Int)) = f d := by
  have q := h (d - (T : Int))
  have e : d - (T : Int) + (T : Int) = d := by omega
  rw [e] at q
  exact q.symm
theorem walk_per {f g : Int → Bool} {T : Nat} (hf : Per f T) (hg : Per g T) : ∀ (n : Nat), Per (walk f g n) T
  | 0 => hf
  | n + 1 => fun d => by
    have e : d + (T : Int) - 1 = d - 1 + (T : Int) := by omega
    simp only [walk]
    rw [hf d, e, hg (d - 1), walk_per hf hg n (d - 1)]
theorem dt_per (d : Int) : dt (d + 72) = dt d := by
  have e : (d + 72) % 72 = d % 72 := by omega
  simp only [dt, e]
theorem len_per (d : Int) : len (d + 72) = len d := by
  have e : (d + 72) % 72 = d % 72 := by omega
  simp only [len, e]
theorem on_per : ∀ {r : Rule}, Good r → Per (on r) (turn r)
  | .every m s, h => fun d => by
    simp only [Good] at h
    have e : (d + ((m.toNat : Nat) : Int)) % m = d % m := by
      have e0 : ((m.toNat : Nat) : Int) = m := by omega
      rw [e0]
      exact Int.add_emod_right d m
    show decide ((d + ((m.toNat : Nat) : Int)) % m = s % m) = decide (d % m = s % m)
    rw [e]
  | .date x, _ => fun d => by
    simp only [on, turn]
    have e1 := dt_per d
    have e2 := len_per d
    show decide (x = dt (d + 72) ∨ x = dt (d + 72) - len (d + 72) - 1) = _
    rw [e1, e2]
  | .nth w k, _ => fun d => by
    simp only [on, turn]
    have e1 := dt_per d
    have e2 := len_per d
    have e3 : (d + 72) % 9 = d % 9 := by omega
    show decide ((d + 72) % 9 = k ∧ (w = (dt (d + 72) - 1) / 9 + 1 ∨ w = -((len (d + 72) - dt (d + 72)) / 9 + 1))) = _
    rw [e1, e2, e3]
  | .both a b, h => fun d => by
    have ha := (on_per h.1).dvd (Nat.dvd_lcm_left (turn a) (turn b))
    have hb := (on_per h.2).dvd (Nat.dvd_lcm_right (turn a) (turn b))
    simp only [on, turn]
    rw [ha d, hb d]
  | .either a b, h => fun d => by
    have ha := (on_per h.1).dvd (Nat.dvd_lcm_left (turn a) (turn b))
    have hb := (on_per h.2).dvd (Nat.dvd_lcm_right (turn a) (turn b))
    simp only [on, turn]
    rw [ha d, hb d]
  | .but a b, h => fun d => by
    have ha := (on_per h.1).dvd (Nat.dvd_lcm_left (turn a) (turn b))
    have hb := (on_per h.2).dvd (Nat.dvd_lcm_right (turn a) (turn b))
    simp only [on, turn]
    rw [ha d, hb d]
  | .moved a b, h => fun d => by
    have ha := (on_per h.1).dvd (Nat.dvd_lcm_left (turn a) (turn b))
    have hb := (on_per h.2).dvd (Nat.dvd_lcm_right (turn a) (turn b))
    have hw := walk_per ha hb (turn b) d
    simp only [on, turn]
    rw [hb d, hw]
structure Back (f g : Int → Bool) (T : Nat) (d : Int) (i : Nat) : Prop where
  lt : i < T
  same : walk f g T d = walk f g (T - i) (d - i)
  g0 : g d = false
  per : Per g T
theorem Back.start {f g : Int → Bool} {T : Nat} {d : Int} (hT : 0 < T) (h0 : g d = false) (hg : Per g T) : Back f g T d 0 :=
  ⟨hT, by simp, h0, hg⟩
theorem Back.found {f g : Int → Bool} {T : Nat} {d : Int} {i : Nat} (B : Back f g T d i) (h : f (d - i) = true) : walk f g T d = true := by
  obtain ⟨n, hn⟩ : ∃ n, T - i = n + 1 := ⟨T - i - 1, by have := B.lt; omega⟩
  rw [B.same, hn]
  simp only [walk, h, Bool.true_or]
theorem Back.stops {f g : Int → Bool} {T : Nat} {d : Int} {i : Nat} (B : Back f g T d i) (h : f (d - i) = false) (h1 : g (d - i - 1) = false) : walk f g T d = false := by
  obtain ⟨n, hn⟩ : ∃ n, T - i = n + 1 := ⟨T - i - 1, by have := B.lt; omega⟩
  rw [B.same, hn]
  simp only [walk, h, h1, Bool.false_or, Bool.false_and]
theorem Back.next {f g : Int → Bool} {T : Nat} {d : Int} {i : Nat} (B : Back f g T d i) (h : f (d - i) = false) (h1 : g (d - i - 1) = true) : Back f g T d (i + 1) := by
  have lt := B.lt
  obtain ⟨n, hn⟩ : ∃ n, T - i = n + 1 := ⟨T - i - 1, by omega⟩
  have ed : d - ((i + 1 : Nat) : Int) = d - i - 1 := by omega
  refine ⟨?_, ?_, B.g0, B.per⟩
  · rcases Nat.lt_or_ge (i + 1) T with q | q
    · exact q
    · have e : i + 1 = T := by omega
      have p := B.per.sub d
      rw [← e, ed, h1, B.g0] at p
      exact absurd p (by decide)
  · have hn' : T - (i + 1) = n := by omega
    rw [B.same, hn, hn', ed]
    simp only [walk, h, h1, Bool.false_or, Bool.true_and]
theorem every_iff {m : Int} (d s : Int) : ((d - s) % m = 0) ↔ d % m = s % m := (Int.emod_eq_emod_iff_emod_sub_eq_zero).symm
end Fd
namespace Fd
def Near : Rule → Prop
  | .every _ s => -(10 ^ 61) < s ∧ s < 10 ^ 61
  | .date _ => True
  | .nth _ _ => True
  | .both a b => Near a ∧ Near b
  | .either a b => Near a ∧ Near b
  | .but a b => Near a ∧ Near b
  | .moved a b => Near a ∧ Near b
def weight : List Rule → Nat
  | [] => 0
  | r :: rs => depth r + 1 + weight rs
theorem weight_append : ∀ (a b : List Rule), weight (a ++ b) = weight a + weight b
  | [], b => by simp [weight]
  | r :: a, b => by simp only [List.cons_append, weight, weight_append a b]; omega
def sizes : List Rule → Nat
  | [] => 0
  | r :: rs => size r + sizes rs
theorem sizes_append : ∀ (a b : List Rule), sizes (a ++ b) = sizes a + sizes b
  | [], b => by simp [sizes]
  | r :: a, b => by simp only [List.cons_append, sizes, sizes_append a b]; omega
theorem size_pos : ∀ r : Rule, 1 ≤ size r
  | .every _ _ => Nat.le_refl _
  | .date _ => Nat.le_refl _
  | .nth _ _ => Nat.le_refl _
  | .both _ _ => Nat.succ_le_succ (Nat.zero_le _)
  | .either _ _ => Nat.succ_le_succ (Nat.zero_le _)
  | .but _ _ => Nat.succ_le_succ (Nat.zero_le _)
  | .moved _ _ => Nat.succ_le_succ (Nat.zero_le _)
theorem size_plain : ∀ {r : Rule}, depth r = 0 → size r = 1
  | .every _ _, _ => rfl
  | .date _, _ => rfl
  | .nth _ _, _ => rfl
  | .both _ _, h => by simp [depth] at h
  | .either _ _, h => by simp [depth] at h
  | .but _ _, h => by simp [depth] at h
  | .moved _ _, h => by simp [depth] at h
end Fd
namespace Fd
def marksF (f : Int → Bool) (T : Nat) : List Bool := (List.range T).map fun (i : Nat) => f (i : Int)
theorem marksF_length (f : Int → Bool) (T : Nat) : (marksF f T).length = T := by simp [marksF]
theorem marksF_get {f : Int → Bool} {T i : Nat} (h : i < T) : (marksF f T)[i]? = some (f (i : Int)) := by
  simp [marksF, h]
theorem marksF_rep {f : Int → Bool} {t : Nat} (hp : Per f t) (k : Nat) : (List.replicate k (marksF f t)).flatten = marksF f (t * k) := by
  induction k with
  | zero => simp [marksF]
  | succ k ih =>
    rw [List.replicate_succ', List.flatten_append, ih]
    simp only [List.flatten_cons, List.flatten_nil, List.append_nil]
    unfold marksF
    rw [Nat.mul_succ, List.range_add, List.map_append, List.map_map]
    congr 1
    apply List.map_congr_left
    intro i _
    show f (i : Int) = f ((t * k + i : Nat) : Int)
    have e : ((t * k + i : Nat) : Int) = (i : Int) + (t : Int) * (k : Int) := by
      rw [Int.natCast_add, Int.natCast_mul]; omega
    rw [e]
    exact (hp.mulN k i).symm
def wt (f g : Int → Bool) : Nat → Int → Bool
  | 0, _ => false
  | n + 1, d => g (d - 1) && (f (d - 1) || wt f g n (d - 1))
theorem walk_wt (f g : Int → Bool) : ∀ (n : Nat) (d : Int), walk f g n d = (f d || wt f g n d)
  | 0, d => by simp [walk, wt]
  | n + 1, d => by simp only [walk, wt, walk_wt f g n (d - 1)]
theorem wt_stop {f g : Int → Bool} : ∀ (m j : Nat) (d : Int), g (d - ((m + 1 : Nat) : Int)) = false → wt f g (m + 1 + j) d = wt f g m d
  | 0, j, d, h => by
    have e : 0 + 1 + j = j + 1 := by omega
    have h : g (d - 1) = false := h
    rw [e]
    simp only [wt, h, Bool.false_and]
  | m + 1, j, d, h => by
    have e : m + 1 + 1 + j = (m + 1 + j) + 1 := by omega
    have h' : g ((d - 1) - ((m + 1 : Nat) : Int)) = false := by
      have e2 : (d - 1) - ((m + 1 : Nat) : Int) = d - ((m + 1 + 1 : Nat) : Int) := by omega
      rw [e2]; exact h
    rw [e]
    simp only [wt, wt_stop m j (d - 1) h']
theorem wt_per {f g : Int → Bool} {T : Nat} (hf : Per f T) (hg : Per g T) : ∀ (n : Nat), Per (wt f g n) T
  | 0 => fun _ => rfl
  | n + 1 => fun d => by
    have e : d + (T : Int) - 1 = d - 1 + (T : Int) := by omega
    simp only [wt]
    rw [e, hf, hg, wt_per hf hg n (d - 1)]
theorem wt_step (f g : Int → Bool) (n : Nat) (i : Nat) : wt f g (n + 1) ((i + 1 : Nat) : Int) = ((wt f g n (i : Int) || f (i : Int)) && g (i : Int)) := by
  have e : ((i + 1 : Nat) : Int) - 1 = (i : Int) := by omega
  simp only [wt, e]
  cases g (i : Int) <;> cases f (i : Int) <;> cases wt f g n (i : Int) <;> rfl
theorem moved_at {f g : Int → Bool} {t n : Nat} (ht : 0 < t) (hg : Per g t) (hn : t ≤ n) {d : Int} (h : g d = false) : walk f g t d = (f d || wt f g n d) := by
  rw [walk_wt]
  have h1 : g (d - (t : Int)) = false := by rw [hg.sub]; exact h
  obtain ⟨m, rfl⟩ : ∃ m, t = m + 1 := ⟨t - 1, by omega⟩
  obtain ⟨j, rfl⟩ : ∃ j, n = m + 1 + j := ⟨n - (m + 1), by omega⟩
  have e1 := wt_stop (f := f) m j d h1
  have e2 := wt_stop (f := f) m 0 d h1
  rw [Nat.add_zero] at e2
  rw [e1, e2]
def cntTo (f : Int → Bool) : Nat → Nat
  | 0 => 0
  | n + 1 => cntTo f n + (if f (n : Int) = true then 1 else 0)
theorem cntTo_le (f : Int → Bool) : ∀ n : Nat, cntTo f n ≤ n
  | 0 => Nat.le_refl _
  | n + 1 => by
    have := cntTo_le f n
    simp only [cntTo]
    split <;> omega
theorem take_marks (f : Int → Bool) {n T : Nat} (h : n ≤ T) : (marksF f T).take n = marksF f n := by
  unfold marksF
  rw [← List.map_take, List.take_range, Nat.min_eq_left h]
theorem marks_succ (f : Int → Bool) (n : Nat) : marksF f (n + 1) = marksF f n ++ [f (n : Int)] := by
  unfold marksF
  rw [List.range_succ, List.map_append]
  rfl
theorem count_marks (f : Int → Bool) : ∀ n : Nat, (marksF f n).count true = cntTo f n
  | 0 => rfl
  | n + 1 => by
    rw [marks_succ, List.count_append, count_marks f n]
    simp only [cntTo]
    cases f (n : Int) <;> simp
def daysOf (f : Int → Bool) (n : Nat) : List Nat := (List.range n).filter fun (i : Nat) => f (i : Int)
theorem days_succ (f : Int → Bool) (n : Nat) : daysOf f (n + 1) = daysOf f n ++ (if f (n : Int) = true then [n] else []) := by
  unfold daysOf
  rw [List.range_succ, List.filter_append]
  cases h : f (n : Int) <;> simp [h]
theorem days_length (f : Int → Bool) : ∀ n : Nat, (daysOf f n).length = cntTo f n
  | 0 => rfl
  | n + 1 => by
    rw [days_succ, List.length_append, days_length f n]
    simp only [cntTo]
    cases f (n : Int) <;> simp
def upTo (f : Int → Bool) (T : Nat) (d : Int) : Int := d / (T : Int) * (cntTo f T : Int) + (cntTo f (d % (T : Int)).toNat : Int)
def dayAt (f : Int → Bool) (T : Nat) (p : Int) : Int := p / (cntTo f T : Int) * (T : Int) + ((daysOf f T).getD (p % (cntTo f T : Int)).toNat 0 : Nat)
def tally (f : Int → Bool) (d : Int) : Nat → Int
  | 0 => 0
  | n + 1 => tally f d n + (if f (d + n) = true then 1 else 0)
end Fd
set_option Elab.async false
set_option maxRecDepth 100000
namespace L3
open PySem PySem.Spec PyProof.Rows L2
theorem b_isinstance : bootBuiltins "isinstance" = some (.builtin "isinstance") := by decide +kernel
theorem b_abs : bootBuiltins "abs" = some (.builtin "abs") := by decide +kernel
theorem b_len : bootBuiltins "len" = some (.builtin "len") := by decide +kernel
theorem b_int : bootBuiltins "int" = some (.type "int") := by decide +kernel
theorem b_str : bootBuiltins "str" = some (.type "str") := by decide +kernel
theorem b_tuple : bootBuiltins "tuple" = some (.type "tuple") := by decide +kernel
section
variable {es : List Expr} {env : Env} {pos : Pos}
theorem star_c {c : Const} {j : Nat} : starEach (.Constant c j pos :: es) env = (false, eval (.Constant c j pos) env) :: starEach es env := by rfl
theorem star_n {x : Str} : starEach (.Name x pos :: es) env = (false, eval (.Name x pos) env) :: starEach es env := by rfl
theorem star_b {a b : Expr} {op : Operator} : starEach (.BinOp a op b pos :: es) env = (false, eval (.BinOp a op b pos) env) :: starEach es env := by rfl
theorem star_u {a : Expr} {op : UnaryOp} : starEach (.UnaryOp op a pos :: es) env = (false, eval (.UnaryOp op a pos) env) :: starEach es env := by rfl
theorem star_k {f : Expr} {a : List Expr} {k : List Keyword} : starEach (.Call f a k pos :: es) env = (false, eval (.Call f a k pos) env) :: starEach es env := by rfl
theorem star_s {a b : Expr} : starEach (.Subscript a b pos :: es) env = (false, eval (.Subscript a b pos) env) :: starEach es env := by rfl
theorem star_t {a : List Expr} {k : Nat} : starEach (.Tuple a k pos :: es) env = (false, eval (.Tuple a k pos) env) :: starEach es env := by rfl
theorem star_l {a : List Expr} : starEach (.List a pos :: es) env = (false, eval (.List a pos) env) :: starEach es env := by rfl
theorem star_a {a : Expr} {x : Str} : starEach (.Attribute a x pos :: es) env = (false, eval (.Attribute a x pos) env) :: starEach es env := by rfl
theorem star_m {a : Expr} {o : List CmpOp} {b : List Expr} : starEach (.Compare a o b pos :: es) env = (false, eval (.Compare a o b pos) env) :: starEach es env := by rfl
theorem star_o {o : BoolOp} {b : List Expr} : starEach (.BoolOp o b pos :: es) env = (false, eval (.BoolOp o b pos) env) :: starEach es env := by rfl
end
def Has (P : Program) (w : World) (K : PySem.W.Frag) (mg : Str → Option Value) (base : Heap) (k : Nat) (x : Str) (ps : List Str) (sp : Sp) : Prop :=
  ∃ f fd, FnOk P w K mg base CX0 k f fd ps sp ∧ Binds K fd ps [] ∧ PySem.W.keepIn K (.ref f) = true ∧ mg x = some (.ref f)
def Df (K : PySem.W.Frag) (mg : Str → Option Value) (x : Str) (st : Stmt) (ps : List Str) : Prop := ∃ f fd, Fun K x x st f fd ∧ Binds K fd ps [] ∧ mg x = some (.ref f)
def Mt (K : PySem.W.Frag) (C : Addr) (m q : Str) (st : Stmt) (ps : List Str) : Prop := ∃ f fd, Fun K m q st f fd ∧ Binds K fd ps [] ∧ Meth K C m f
def In (K : PySem.W.Frag) (C : Addr) (q : Str) (st : Stmt) (ps : List Str) : Prop := ∃ f fd, Fun K "__init__" q st f fd ∧ Binds K fd ps [] ∧ Mk K C f
section
variable {P : Program} {w : World} {K : PySem.W.Frag} {mg : Str → Option Value} {base : Heap}
theorem Df.ok {x : Str} {st : Stmt} {N ps : List Str} {k : Nat} {sp : Sp} (D : Df K mg x st ps) (S : FnScope N ps (defScope st)) (len : ∀ vs H Q E, sp vs H Q E → vs.length = ps.length)
    (hbody : ∀ (f : Addr) (cdv : Value) (A : Around) (outer : List Env) (s : Shared) (H : Hp) (vs : List V) (Q : VK) (E : XK), Room k (A.deeper (envOfC x (defScope st) s.heap.objs.size f cdv)) → sp vs H Q E →
      ∃ t, PSs (cxOf CX0 P w K mg base N x (defScope st) f cdv A outer s H E).nox (defBody st) t ∧ t { nx := fun _ H' => Q .non H', rt := Q } (start N vs) H) : Has P w K mg base (k + 1) x ps sp := by
  obtain ⟨f, fd, F, b, m⟩ := D
  exact ⟨f, fd, F.ok S len (hbody f), b, F.kp, m⟩
end
theorem pe_gint {X : Cx} {x : Str} {i : Int} {pos : Pos} (hg : Gl X x) (hm : ∃ t, X.mg x = some (.int i t)) (hd : (x == ("__debug__" : Str)) = false := by decide) : PE X (.Name x pos) (tC (.int i)) := by
  obtain ⟨t, hm⟩ := hm
  exact pe_glob hg hm ⟨t, rfl⟩ hd
def tCal (sp : Sp) (t : TA) : TE := fun σ H Q => t σ H fun vs H1 => sp vs H1 Q E0
section
variable {X : Cx} {j k : Nat} {x m : Str} {ps : List Str} {sp : Sp} {e o : Expr} {es : List Expr} {t : TA} {ta : TE} {p pos apos : Pos} {C : Addr}
theorem pe_has (F : Has X.prog X.w X.K X.mg X.base j x ps sp) (hr : Room k X.A) (hj : j ≤ k) (ha : PA X (e :: es) t) (hg : Gl X x := by rfl) (hdb : (x == ("__debug__" : Str)) = false := by decide)
    (he : starEach (e :: es) X.env = (false, eval e X.env) :: starEach es X.env := by rfl) (hpl : (backTo pos (starEach es X.env)).any (·.1) = false := by rfl) : PE X (.Call (.Name x p) (e :: es) [] pos) (tCal sp t) := by
  obtain ⟨f, fd, F, b, kp, m⟩ := F
  have q := pe_call (p := p) (pos := pos) (E := E0) (dvs := []) F (hr.mono hj) hg m kp b .nil pass0 ha hdb he hpl
  intro pins s σ H Q I h
  refine q pins s σ H Q I ?_
  show t σ H fun vs H1 => sp (vs ++ []) H1 Q E0
  simp only [List.append_nil]
  exact h
def HasM (P : Program) (w : World) (K : PySem.W.Frag) (mg : Str → Option Value) (base : Heap) (k : Nat) (m : Str) {ι : Type} (cls : ι → Addr) (ps : List Str) (sp : ι → Sp) : Prop :=
  ∀ κ, Cls K (cls κ) ∧ ∃ f fd, Meth K (cls κ) m f ∧ FnOk P w K mg base CX0 k f fd ps (sp κ) ∧ Binds K fd ps []
def tMethD {ι : Type} (cls : ι → Addr) (m : Str) (sp : ι → Sp) (ta : TE) (t : TA) : TE := fun σ H Q => ta σ H fun x H1 => ∃ a κ dx fs, x = .ref a ∧ H1 a = some (.ins (cls κ) dx fs) ∧ fs.lookup m = none ∧
  t σ H1 fun vs H2 => sp κ (.ref a :: vs) H2 Q E0
theorem pe_methD {ι : Type} {cls : ι → Addr} {sp : ι → Sp} {pl : Sem Bool} (M : HasM X.prog X.w X.K X.mg X.base j m cls ps sp) (hr : Room k X.A) (hj : j ≤ k) (he : PE X o ta) (ha : PA X (e :: es) t)
    (hst : starEach (e :: es) X.env = (false, eval e X.env) :: starEach es X.env := by rfl) (hpl : (backTo pos (starEach es X.env)).any (·.1) = false := by rfl)
    (ht : eval (.Call (.Attribute o m apos) (e :: es) [] pos) X.env = (do
      let ov ← eval o X.env
      standAt apos.atName
      let (f, first) ← holding [ov] (getMethod ov m pl)
      callWith pos f first (backTo pos (starEach (e :: es) X.env)) (backToKw pos (keywordEach [] X.env))) := by rfl) :
    PE X (.Call (.Attribute o m apos) (e :: es) [] pos) (tMethD cls m sp ta t) := by
  intro pins s σ H Q I h
  refine PySem.W.methodCall_KW (pl := pl) (thn (he pins s σ H _ I h) fun u s1 ⟨x, H1, I1, rx, a, κ, dx, fs, ex, ea, l, q⟩ => ?_) ht
  subst ex
  obtain rfl : u = Value.ref a := rx
  obtain ⟨c, f, fd, hm, F, hb⟩ := M κ
  refine getmeth_ok I1 ea c hm l ?_
  refine PySem.W.callWith_K (first := [.ref a]) (h₀ := X.base) I.ok.mod.kin hm.kp (thn (ha pos pins s1 σ H1 _ I1 q) fun us s2 ⟨vs, H2, I2, r, q2⟩ => ⟨I2.kIn, ?_⟩) hst hpl
  refine run_fn (us := .ref a :: us) (vs := .ref a :: vs) (dvs := []) (E := E0) F (hr.mono hj) hb .nil pass0 I2 (.cons rfl r) ?_
  rw [List.append_nil]
  exact q2
def HasC (P : Program) (w : World) (K : PySem.W.Frag) (mg : Str → Option Value) (base : Heap) (k : Nat) (x : Str) (C : Addr) (ps : List Str) (sp : Sp) : Prop :=
  mg x = some (.ref C) ∧ ∃ f fd, Mk K C f ∧ FnOk P w K mg base CX0 k f fd ps sp ∧ Binds K fd ps []
def tNew (C : Addr) (sp : Sp) (t : TA) : TE := fun σ H Q => t σ H fun vs H1 => ∀ x dx, H1 x = none → H1 dx = none → dx ≠ x →
  sp (.ref x :: vs) (upd (upd H1 dx (.own x)) x (.ins C dx [])) (fun v H2 => v = .non ∧ Q (.ref x) H2) E0
theorem pe_new (F : HasC X.prog X.w X.K X.mg X.base j x C ps sp) (hr : Room k X.A) (hj : j + 1 ≤ k) (ha : PA X (e :: es) t) (hg : Gl X x := by rfl) (hdb : (x == ("__debug__" : Str)) = false := by decide)
    (he : starEach (e :: es) X.env = (false, eval e X.env) :: starEach es X.env := by rfl) (hpl : (backTo pos (starEach es X.env)).any (·.1) = false := by rfl) : PE X (.Call (.Name x p) (e :: es) [] pos) (tNew C sp t) := by
  obtain ⟨m, f, fd, M, F, b⟩ := F
  have q := pe_make (p := p) (pos := pos) (E := E0) (dvs := []) M F (hr.mono hj) hg m b .nil pass0 ha hdb he hpl
  intro pins s σ H Q I h
  refine q pins s σ H Q I ?_
  show t σ H fun vs H1 => ∀ x dx, H1 x = none → H1 dx = none → dx ≠ x → sp (.ref x :: (vs ++ [])) (upd (upd H1 dx (.own x)) x (.ins C dx [])) (fun v H2 => v = .non ∧ Q (.ref x) H2) E0
  simp only [List.append_nil]
  exact h
end
section
variable {X : Cx} {e : Expr} {te : TE} {pos p p2 : Pos} {T : String} {y : Str}
theorem call_isinst : CallR X (.builtin "isinstance") (fun xs H Q => ∃ x n t b, xs = [x, .ty n] ∧ TyOf X.K H x t ∧ PySem.W.kitOne X.K t (.type n) = some b ∧ Q (.bl b) H) := by
  intro pins s σ H xs us Q I r h
  obtain ⟨x, n, t, b, rfl, ty, e, q⟩ := h
  obtain ⟨u, w', rfl, r1, r2⟩ := vals2 r
  obtain rfl : w' = Value.type n := r2
  exact isinst_ok I r1 ty e fun tk => ⟨.bl b, H, I.tok tk, rfl, q⟩
def tIsI (K : PySem.W.Frag) (n : String) (te : TE) : TE := fun σ H Q => te σ H fun x H1 => ∃ t b, TyOf K H1 x t ∧ PySem.W.kitOne K t (.type n) = some b ∧ Q (.bl b) H1
theorem pe_isinst (hm : X.mg "isinstance" = none) (hm2 : X.mg y = none) (hb : bootBuiltins y = some (.type T)) (he : PE X e te) (hg : Gl X "isinstance" := by rfl) (hg2 : Gl X y := by rfl)
    (hs : starEach [e, .Name y p2] X.env = (false, eval e X.env) :: starEach [.Name y p2] X.env := by rfl) (hs2 : starEach [.Name y p2] X.env = [(false, eval (.Name y p2) X.env)] := by rfl)
    (hpl : (backTo pos (starEach [.Name y p2] X.env)).any (·.1) = false := by rfl) (hy : y ≠ "__name__" := by decide) (hyd : (y == ("__debug__" : Str)) = false := by decide) :
    PE X (.Call (.Name "isinstance" p) [e, .Name y p2] [] pos) (tIsI X.K T te) := by
  have q := pe_callB (p := p) (pos := pos) call_isinst hg hm b_isinstance (pa_cons he (pa_cons (pe_bltn (pos := p2) hg2 hm2 hb (v := .ty T) rfl hy hyd) pa_nil hs2) hs) (by decide) (by decide) hs hpl
  intro pins s σ H Q I h
  refine q pins s σ H Q I ?_
  show te σ H fun x H1 => ∃ x' n t b, [x, V.ty T] = [x', .ty n] ∧ TyOf X.K H1 x' t ∧ PySem.W.kitOne X.K t (.type n) = some b ∧ Q (.bl b) H1
  refine (?_ : _)
  have mono : (fun x H1 => ∃ t b, TyOf X.K H1 x t ∧ PySem.W.kitOne X.K t (.type T) = some b ∧ Q (.bl b) H1) = (fun x H1 => ∃ x' n t b, [x, V.ty T] = [x', .ty n] ∧ TyOf X.K H1 x' t ∧ PySem.W.kitOne X.K t (.type n) = some b ∧ Q (.bl b) H1) := by
    funext x H1
    apply propext
    constructor
    · rintro ⟨t, b, h1, h2, h3⟩
      exact ⟨x, T, t, b, rfl, h1, h2, h3⟩
    · rintro ⟨x', n, t, b, h0, h1, h2, h3⟩
      injection h0 with h4 h5
      injection h5 with h5 _
      injection h5 with h5
      subst h4 h5
      exact ⟨t, b, h1, h2, h3⟩
  rw [← mono]
  exact h
theorem kit_no {K : PySem.W.Frag} {t T : String} {b : Bool} (hne : ((Value.type t) == (Value.type T)) = false) (hm : PySem.W.kitMeta T = true) (h : PySem.W.subIn K (.type t) (.type T) = some b) : PySem.W.kitOne K (.type t) (.type T) = some b := by
  unfold PySem.W.kitOne
  rw [if_neg (by rw [hne]; decide)]
  show (if PySem.W.kitMeta T = true then PySem.W.subIn K (.type t) (.type T) else none) = some b
  rw [if_pos hm]
  exact h
def rNil (K : PySem.W.Frag) : R2 := fun x y H Q => ∃ p b xs, x = .ref p ∧ y = .ref b ∧ SqL K H p xs ∧ SqL K H b [] ∧ Q (.bl xs.isEmpty) H
def rNotNil (K : PySem.W.Frag) : R2 := fun x y H Q => ∃ p b xs, x = .ref p ∧ y = .ref b ∧ SqL K H p xs ∧ SqL K H b [] ∧ Q (.bl (!xs.isEmpty)) H
theorem op_eqNil (hu : X.A.units < cLine) : OpR X (compareOp .Eq) (rNil X.K) := by
  intro pins s σ H x y v u Q I rx ry h
  obtain ⟨p, b, xs, rfl, rfl, hq, hb, q⟩ := h
  cases rx
  cases ry
  obtain ⟨its, r1, pl, hz⟩ := I.list hq
  obtain ⟨its2, r2, pl2, hz2⟩ := I.list hb
  cases r2
  cases xs with
  | nil =>
    cases r1
    refine SeqAt.eq_listAt (e := fun _ => true) pl.isList pl2.isList rfl hu (fun j h1 => absurd h1 (Nat.not_lt_zero _)) ⟨.bl _, H, I, rfl, q⟩
  | cons z zs =>
    cases r1
    refine SeqAt.eq_list_lengthsAt pl.isList pl2.isList (by simp) hu ⟨.bl _, H, I, rfl, q⟩
def rng3 (p : Addr) (i j k : Int) : HO := .ext fun h => ∃ t u v, IsRange h p i j k t u v
end
section
variable {X : Cx} {tg : Expr}
def iRng2B (ta : TA) : TI := fun σ H R => ta σ H fun vs H1 => ∃ i j : Int, vs = [.int i, .int j] ∧ R (Itr i (j - i).toNat) H1
end
def DefIn (K : PySem.W.Frag) (x : Str) (st : Stmt) : Prop := ∃ (f : Addr) (oc : Value) (od an : Option Addr) (sl : Array (Option Value)) (kV dc pm cd ct : Value),
  PySem.W.nsIn K mainGlobals x = some (some (.ref f)) ∧ K.lookup f = some ⟨oc, od, .func (PySem.W.fnOf x x (defArgs st) (defBody st) (defScope st) .none kV dc pm an cd ct), sl⟩ ∧ PySem.W.codeIn K cd x = true ∧ PySem.W.keepIn K (.ref f) = true
theorem DefIn.put {K : PySem.W.Frag} {x : Str} {st : Stmt} {f : Addr} {oc : Value} {od an : Option Addr} {sl : Array (Option Value)} {kV dc pm cd ct : Value}
    (a : PySem.W.nsIn K mainGlobals x = some (some (.ref f))) (l : K.lookup f = some ⟨oc, od, .func (PySem.W.fnOf x x (defArgs st) (defBody st) (defScope st) .none kV dc pm an cd ct), sl⟩) (c : PySem.W.codeIn K cd x = true) (k : PySem.W.keepIn K (.ref f) = true) : DefIn K x st :=
  ⟨f, oc, od, an, sl, kV, dc, pm, cd, ct, a, l, c, k⟩
def BindOk (x q : Str) (st : Stmt) (ps : List Str) : Prop := ∀ (kV doc pm : Value) (an : Option Addr) (cdv ct : Value) (us : List Value), us.length = ps.length → bindArgs (PySem.W.fnOf x q (defArgs st) (defBody st) (defScope st) .none kV doc pm an cdv ct) ⟨us, []⟩ = pure (ps.zip us)
def MethIn (K : PySem.W.Frag) (C : Addr) (m q : Str) (st : Stmt) : Prop := ∃ (f : Addr) (oc : Value) (od an : Option Addr) (sl : Array (Option Value)) (kV dc pm cd ct : Value),
  PySem.W.findIn K (.ref C) m = some (some (.ref f)) ∧ PySem.W.isFn K (.ref f) = true ∧ K.lookup f = some ⟨oc, od, .func (PySem.W.fnOf m q (defArgs st) (defBody st) (defScope st) .none kV dc pm an cd ct), sl⟩ ∧ PySem.W.codeIn K cd q = true ∧ PySem.W.keepIn K (.ref f) = true
theorem MethIn.put {K : PySem.W.Frag} {C : Addr} {m q : Str} {st : Stmt} {f : Addr} {oc : Value} {od an : Option Addr} {sl : Array (Option Value)} {kV dc pm cd ct : Value}
    (a : PySem.W.findIn K (.ref C) m = some (some (.ref f))) (i : PySem.W.isFn K (.ref f) = true) (l : K.lookup f = some ⟨oc, od, .func (PySem.W.fnOf m q (defArgs st) (defBody st) (defScope st) .none kV dc pm an cd ct), sl⟩) (c : PySem.W.codeIn K cd q = true) (k : PySem.W.keepIn K (.ref f) = true) : MethIn K C m q st :=
  ⟨f, oc, od, an, sl, kV, dc, pm, cd, ct, a, i, l, c, k⟩
structure ClsIn (K : PySem.W.Frag) (x : Str) (C : Addr) : Prop where
  at_ : PySem.W.nsIn K mainGlobals x = some (some (.ref C))
  pg : PySem.W.plainGet K C Str.empty = true
  hd : PySem.W.hasDictIn K C = true
  po : PySem.W.plainOver K C = true
  sa : PySem.W.findIn K (.ref C) "__setattr__" = some (some (.builtin "object.__setattr__"))
  mks : PySem.W.makesIn K C = true
  kc : PySem.W.keepIn K (.ref C) = true
theorem ClsIn.cls {K : PySem.W.Frag} {x : Str} {C : Addr} (c : ClsIn K x C) : Cls K C := ⟨c.pg, c.hd, c.po, c.sa⟩
section
variable {K : PySem.W.Frag} {h : Heap} {mg : Str → Option Value}
theorem DefIn.df {x : Str} {st : Stmt} {ps : List Str} (X : K.In h) (G : h.Ns mainGlobals mg) (D : DefIn K x st) (hb : BindOk x x st ps) : Df K mg x st ps := by
  obtain ⟨f, oc, od, an, sl, kV, dc, pm, cd, ct, a, l, c, k⟩ := D
  have F := fun_mk (st := st) l c k
  exact ⟨f, _, F, F.binds hb, PySem.W.mg_of X G a⟩
theorem MethIn.mt {C : Addr} {m q : Str} {st : Stmt} {ps : List Str} (D : MethIn K C m q st) (hb : BindOk m q st ps) : Mt K C m q st ps := by
  obtain ⟨f, oc, od, an, sl, kV, dc, pm, cd, ct, a, i, l, c, k⟩ := D
  have F := fun_mk (st := st) l c k
  exact ⟨f, _, F, F.binds hb, ⟨a, i, k⟩⟩
theorem MethIn.init {x : Str} {C : Addr} {q : Str} {st : Stmt} {ps : List Str} (c : ClsIn K x C) (D : MethIn K C "__init__" q st) (hb : BindOk "__init__" q st ps) : In K C q st ps := by
  obtain ⟨f, oc, od, an, sl, kV, dc, pm, cd, ct, a, i, l, co, k⟩ := D
  have F := fun_mk (st := st) l co k
  exact ⟨f, _, F, F.binds hb, ⟨c.mks, a, i, c.kc⟩⟩
theorem DefIn.law {x a0 : Str} {st : Stmt} {fa : Addr} (X : K.In h) (G : h.Ns mainGlobals mg) (hfa : mg x = some (.ref fa)) (D : DefIn K x st)
    (hb : ∀ (kV doc pm : Value) (an : Option Addr) (cdv ct : Value) (s : Shared) (v : Value), BindsTo s (PySem.W.fnOf x x (defArgs st) (defBody st) (defScope st) .none kV doc pm an cdv ct) ⟨[v], []⟩ [(a0, v)]) :
    ∃ fd, Fun K x x st fa fd ∧ ∀ (s : Shared) (v : Value), BindsTo s fd ⟨[v], []⟩ [(a0, v)] := by
  obtain ⟨f, oc, od, an, sl, kV, dc, pm, cd, ct, a, l, c, k⟩ := D
  have e := hfa.symm.trans (PySem.W.mg_of X G a)
  cases e
  exact ⟨_, fun_mk (st := st) l c k, fun s v => hb kV dc pm an cd ct s v⟩
end
def spLaw (K : PySem.W.Frag) : Sp := fun vs H Q _ => ∃ (a : Addr) (ns : List Int), vs = [.ref a] ∧ SqL K H a (ns.map V.int) ∧ ns.length ≤ 63 ∧ ∀ H', Q (.bl true) H'
theorem law_walk {l : PySem.W.OpenLaw} {q : Program} {loose : List Str} {XP : (Str → Option Value) → Heap → Prop} {YP : World → Heap → Prop} {d : DefRec} {K : Params → PySem.W.Frag} {a0 : Str} (k : Nat) (hk : k ≤ 200) (hn : l.most = some 63) (hdf : d.params.defaults = [])
    (hY : ∀ (w : World) (h : Heap), YP w h → (K w.params).In h)
    (F : ∀ (w : World) (mg : Str → Option Value) (fa : Addr) (h : Heap), (K w.params).In h → h.Ns mainGlobals mg → mg d.name = some (.ref fa) →
      ∃ fd : FuncData, (∀ (s : Shared) (u : Value), BindsTo s fd ⟨[u], []⟩ [(a0, u)]) ∧ ∀ base : Heap, (K w.params).In base → base.Ns mainGlobals mg → FnOk l.prog w (K w.params) mg base CX0 k fa fd [a0] (spLaw (K w.params))) :
    PySem.W.WalkO q loose XP YP l.row.toRowW d [] (fun f vs => PySem.call f vs) :=
  L2.walk_of (n := 63) (k := k) (x := a0) (CX := fun _ => CX0) (sp := fun w => spLaw (K w.params)) hn (by decide) hdf (Room.mono ⟨rfl, by decide, by decide⟩ hk) hY F (fun _ _ a ns hl _ hS => ⟨a, ns, rfl, hS, hl, fun _ => rfl⟩) fun _ _ _ _ _ z => z
end L3
set_option Elab.async false
set_option maxRecDepth 100000
namespace Fd
open PySem L2 L3
def TupKeep (H H' : Hp) : Prop := ∀ b xs, H b = some (.tup xs) → H' b = some (.tup xs)
theorem TupKeep.refl (H : Hp) : TupKeep H H := fun _ _ h => h
theorem TupKeep.trans {H H1 H2 : Hp} (a : TupKeep H H1) (b : TupKeep H1 H2) : TupKeep H H2 := fun c xs h => b c xs (a c xs h)
theorem TupKeep.of {H H' : Hp} (s : Same H H') : TupKeep H H' := fun b xs h => s b _ h
theorem TupKeep.new {H : Hp} {p : Addr} (h : H p = none) (o : HO) : TupKeep H (upd H p o) := fun b xs q => by rw [upd_ne (ne_of_none q h)]; exact q
theorem TupKeep.lst {H : Hp} {p : Addr} {ys : List V} (h : H p = some (.lst ys)) (o : HO) : TupKeep H (upd H p o) := fun b xs q => by
  rw [upd_ne (ne_of q h (by intro z; cases z))]; exact q
theorem TupKeep.dct {H : Hp} {p : Addr} {ys : List (Key × V)} (h : H p = some (.dK ys)) (o : HO) : TupKeep H (upd H p o) := fun b xs q => by
  rw [upd_ne (ne_of q h (by intro z; cases z))]; exact q
theorem TupKeep.ins {H : Hp} {p C dx : Addr} {fs : List (Str × V)} (h : H p = some (.ins C dx fs)) (o : HO) : TupKeep H (upd H p o) := fun b xs q => by
  rw [upd_ne (ne_of q h (by intro z; cases z))]; exact q
theorem same_new {H : Hp} {p : Addr} (h : H p = none) (o : HO) : Same H (upd H p o) := fun b u q => by rw [upd_ne (ne_of_none q h)]; exact q
def RuleAt (H : Hp) : Addr → Rule → Prop
  | a, .every m s => H a = some (.tup [.str "every", .int m, .int s])
  | a, .date d => H a = some (.tup [.str "date", .int d])
  | a, .nth w k => H a = some (.tup [.str "nth", .int w, .int k])
  | a, .both x y => ∃ p q, H a = some (.tup [.str "both", .ref p, .ref q]) ∧ RuleAt H p x ∧ RuleAt H q y
  | a, .either x y => ∃ p q, H a = some (.tup [.str "either", .ref p, .ref q]) ∧ RuleAt H p x ∧ RuleAt H q y
  | a, .but x y => ∃ p q, H a = some (.tup [.str "but", .ref p, .ref q]) ∧ RuleAt H p x ∧ RuleAt H q y
  | a, .moved x y => ∃ p q, H a = some (.tup [.str "moved", .ref p, .ref q]) ∧ RuleAt H p x ∧ RuleAt H q y
theorem RuleAt.mono {H H' : Hp} (k : TupKeep H H') : ∀ {r : Rule} {a : Addr}, RuleAt H a r → RuleAt H' a r
  | .every _ _, _, h => k _ _ h
  | .date _, _, h => k _ _ h
  | .nth _ _, _, h => k _ _ h
  | .both _ _, _, ⟨p, q, h, x, y⟩ => ⟨p, q, k _ _ h, RuleAt.mono k x, RuleAt.mono k y⟩
  | .either _ _, _, ⟨p, q, h, x, y⟩ => ⟨p, q, k _ _ h, RuleAt.mono k x, RuleAt.mono k y⟩
  | .but _ _, _, ⟨p, q, h, x, y⟩ => ⟨p, q, k _ _ h, RuleAt.mono k x, RuleAt.mono k y⟩
  | .moved _ _, _, ⟨p, q, h, x, y⟩ => ⟨p, q, k _ _ h, RuleAt.mono k x, RuleAt.mono k y⟩
theorem _root_.L2.Same.upd_new {H H' : Hp} {p : Addr} (s : Same H H') (h : H p = none) (o : HO) : Same H (upd H' p o) := fun b u q => by rw [upd_ne (ne_of_none q h)]; exact s b u q
inductive Pile (M : Nat) (H : Hp) : List Addr → List Rule → Prop
  | nil : Pile M H [] []
  | cons {a : Addr} {r : Rule} {as : List Addr} {rs : List Rule} : RuleAt H a r → Good r → Near r → turn r ∣ M → Pile M H as rs → Pile M H (a :: as) (r :: rs)
theorem Pile.mono {M : Nat} {H H' : Hp} (k : TupKeep H H') {as : List Addr} {rs : List Rule} (h : Pile M H as rs) : Pile M H' as rs := by
  induction h with
  | nil => exact .nil
  | cons h g n t _ ih => exact .cons (h.mono k) g n t ih
theorem Pile.append {M : Nat} {H : Hp} {as bs : List Addr} {rs ss : List Rule} (h : Pile M H as rs) (h' : Pile M H bs ss) : Pile M H (as ++ bs) (rs ++ ss) := by
  induction h with
  | nil => exact h'
  | cons h g n t _ ih => exact .cons h g n t ih
theorem Pile.weight {M : Nat} {H : Hp} {as : List Addr} {rs : List Rule} (h : Pile M H as rs) : as.length ≤ Fd.weight rs := by
  induction h with
  | nil => exact Nat.le_refl _
  | cons _ _ _ _ _ ih => simp only [List.length_cons, Fd.weight]; omega
theorem Pile.last {M : Nat} {H : Hp} : ∀ {as : List Addr} {rs : List Rule}, Pile M H as rs → as ≠ [] → ∃ bs b ss r, as = bs ++ [b] ∧ rs = ss ++ [r] ∧ Pile M H bs ss ∧ RuleAt H b r ∧ Good r ∧ Near r ∧ turn r ∣ M
  | _, _, .nil, h => absurd rfl h
  | [a], _, .cons h g n t .nil, _ => ⟨[], a, [], _, rfl, rfl, .nil, h, g, n, t⟩
  | a :: a' :: as, _, .cons h g n t tl, _ => by
    obtain ⟨bs, b, ss, r, e1, e2, P, q1, q2, q3, q4⟩ := Pile.last tl (by simp)
    exact ⟨a :: bs, b, _ :: ss, r, by rw [e1]; rfl, by rw [e2]; rfl, .cons h g n t P, q1, q2, q3, q4⟩
def Word (x : Str) : Prop := x = "both" ∨ x = "either" ∨ x = "but" ∨ x = "moved"
theorem join_ok {M : Nat} {H : Hp} {x : Str} {p a b : Addr} {ra rb : Rule} (hx : Word x) (hp : H p = some (.tup [.str x, .ref a, .ref b])) (ha : RuleAt H a ra) (hb : RuleAt H b rb) (ga : Good ra) (gb : Good rb) (na : Near ra) (nb : Near rb) (ta : turn ra ∣ M) (tb : turn rb ∣ M) :
    ∃ r, RuleAt H p r ∧ Good r ∧ Near r ∧ turn r ∣ M ∧ depth r = max (depth ra) (depth rb) + 1 ∧ size r = size ra + size rb + 1 := by
  have t : Nat.lcm (turn ra) (turn rb) ∣ M := Nat.lcm_dvd ta tb
  rcases hx with rfl | rfl | rfl | rfl
  · exact ⟨.both ra rb, ⟨a, b, hp, ha, hb⟩, ⟨ga, gb⟩, ⟨na, nb⟩, t, rfl, rfl⟩
  · exact ⟨.either ra rb, ⟨a, b, hp, ha, hb⟩, ⟨ga, gb⟩, ⟨na, nb⟩, t, rfl, rfl⟩
  · exact ⟨.but ra rb, ⟨a, b, hp, ha, hb⟩, ⟨ga, gb⟩, ⟨na, nb⟩, t, rfl, rfl⟩
  · exact ⟨.moved ra rb, ⟨a, b, hp, ha, hb⟩, ⟨ga, gb⟩, ⟨na, nb⟩, t, rfl, rfl⟩
end Fd
set_option Elab.async false
set_option maxRecDepth 100000
namespace L3
open PySem PySem.Spec PyProof.Rows L2
section
variable {X : Cx} {j k : Nat} {x m : Str} {ps : List Str} {sp : Sp} {e : Expr} {es : List Expr} {t : TA} {p pos apos : Pos}
def HasK (P : Program) (w : World) (K : PySem.W.Frag) (mg : Str → Option Value) (base : Heap) (k : Nat) (x m : Str) (ps : List Str) (sp : Sp) : Prop :=
  ∃ C f fd, mg x = some (.ref C) ∧ PySem.W.specialIn K (.ref C) "__getattribute__" = some (some (.builtin "type.__getattribute__")) ∧ PySem.W.readsIn K C (.type "type") = true ∧ PySem.W.findCls K (.ref C) (.type "type") m = some (.val (.ref f)) ∧
    PySem.W.keepIn K (.ref f) = true ∧ FnOk P w K mg base CX0 k f fd ps sp ∧ Binds K fd ps []
theorem pe_clsm {pl : Sem Bool} (F : HasK X.prog X.w X.K X.mg X.base j x m ps sp) (hr : Room k X.A) (hj : j ≤ k) (ha : PA X (e :: es) t) (hg : Gl X x := by rfl) (hdb : (x == ("__debug__" : Str)) = false := by decide)
    (hst : starEach (e :: es) X.env = (false, eval e X.env) :: starEach es X.env := by rfl) (hpl : (backTo pos (starEach es X.env)).any (·.1) = false := by rfl)
    (ht : eval (.Call (.Attribute (.Name x p) m apos) (e :: es) [] pos) X.env = (do
      let ov ← eval (.Name x p) X.env
      standAt apos.atName
      let (f, first) ← holding [ov] (getMethod ov m pl)
      callWith pos f first (backTo pos (starEach (e :: es) X.env)) (backToKw pos (keywordEach [] X.env))) := by rfl) :
    PE X (.Call (.Attribute (.Name x p) m apos) (e :: es) [] pos) (tCal sp t) := by
  intro pins s σ H Q I h
  obtain ⟨C, f, fd, hm, hga, hrd, hfc, hkp, F, hb⟩ := F
  refine PySem.W.methodCall_KW (pl := pl) (ld_glob I hg hm ?_ hdb) ht
  refine PySem.W.method_cls I.kIn hga (PySem.W.cls_value I.kIn hrd hfc rfl ?_)
  have I1 := I.tok (s.toks + 1)
  refine PySem.W.callWith_K (first := []) (h₀ := X.base) I.ok.mod.kin hkp (thn (ha pos pins _ σ H _ I1 h) fun us s2 ⟨vs, H2, I2, r, q2⟩ => ⟨I2.kIn, ?_⟩) hst hpl
  refine run_fn (us := us) (vs := vs) (dvs := []) (E := E0) F (hr.mono hj) hb .nil pass0 I2 r ?_
  rw [List.append_nil]
  exact q2
end
end L3
set_option Elab.async false
set_option linter.all false
set_option maxRecDepth 100000
namespace L3
open PySem PySem.Spec PyProof.Rows L2
section
variable {X : Cx} {j k : Nat} {x m : Str} {ps : List Str} {sp : Sp} {e o : Expr} {es : List Expr} {t : TA} {ta : TE} {p pos apos : Pos} {C : Addr} {E : XK}
theorem pe_methD0 {ι : Type} {cls : ι → Addr} {sp : ι → Sp} {pl : Sem Bool} (M : HasM X.prog X.w X.K X.mg X.base j m cls ps sp) (hr : Room k X.A) (hj : j ≤ k) (he : PE X o ta)
    (ht : eval (.Call (.Attribute o m apos) [] [] pos) X.env = (do
      let ov ← eval o X.env
      standAt apos.atName
      let (f, first) ← holding [ov] (getMethod ov m pl)
      callWith pos f first (backTo pos (starEach [] X.env)) (backToKw pos (keywordEach [] X.env))) := by rfl) :
    PE X (.Call (.Attribute o m apos) [] [] pos) (tMethD cls m sp ta tNil) := by
  intro pins s σ H Q I h
  refine PySem.W.methodCall_KW (pl := pl) (thn (he pins s σ H _ I h) fun u s1 ⟨x, H1, I1, rx, a, κ, dx, fs, ex, ea, l, q⟩ => ?_) ht
  subst ex
  obtain rfl : u = Value.ref a := rx
  obtain ⟨c, f, fd, hm, F, hb⟩ := M κ
  refine getmeth_ok I1 ea c hm l ?_
  refine PySem.W.callWith_K0 (first := [.ref a]) I1.kIn hm.kp (run_fn (us := [.ref a]) (vs := [.ref a]) (dvs := []) (E := E0) F (hr.mono hj) hb .nil pass0 I1 (.cons rfl .nil) ?_)
  rw [List.append_nil]
  exact q
end
def CDivG (_ j : Int) : Prop := 0 < j ∧ j.natAbs < 2 ^ 1000
def Itrs (lo c : Int) (n : Nat) : It := ⟨fun i _ => i < n, fun i H x H' => H' = H ∧ x = .int (lo + i * c), fun i _ => n ≤ i⟩
section
variable {X : Cx} {tg : Expr}
def iRng3 (ta : TA) : TI := fun σ H R => ta σ H fun vs H1 => ∃ (i j c : Int) (n : Nat), vs = [.int i, .int j, .int c] ∧ c ≠ 0 ∧ c.natAbs < 1000 ∧ Builtin.Range.small i j c = true ∧ Builtin.Range.rangeSize i j c = n ∧ R (Itrs i c n) H1
end
def rCount (K : PySem.W.Frag) : V → List V → Hp → VK → Prop := fun x vs H Q => ∃ l xs y, x = .ref l ∧ vs = [y] ∧ SqL K H l xs ∧ flatV y = true ∧ xs.all flatV = true ∧ Q (.int (xs.countP fun z => eqV z y : Nat)) H
theorem countP_eqU {y : V} : ∀ {xs : List V} {us : List Value}, Vals xs us → xs.all flatV = true → us.countP (eqU y) = xs.countP fun z => eqV z y
  | _, _, .nil, _ => rfl
  | x :: xs, u :: us, .cons r t, f => by
    rw [List.all_cons, Bool.and_eq_true] at f
    rw [List.countP_cons, List.countP_cons, eqU_of r f.1, countP_eqU t f.2]
theorem mt_count {X : Cx} : MtM X "list.count" (rCount X.K) := by
  intro pins s σ H x vs v us Q I rx rv h
  obtain ⟨l, xs, y, rfl, rfl, hq, fy, fs, q⟩ := h
  cases rx
  obtain ⟨u, rfl, ru⟩ := rv.one
  obtain ⟨its, r, pl, hz⟩ := I.list hq
  obtain ⟨⟨c, dd, dt, sl⟩, e, hc, n, hd⟩ := pl.isList
  have hc : c = .type "list" := hc
  have hd : dt = .seq its.toArray n := hd
  subst hc hd
  refine call_meets F.slot_list_count ⟨_, e, rfl⟩ F.entry_list_count (F.args_list_count_2 _ _) (SeqAt.list_countAt l its.toArray n dd sl u (eqU y)) ⟨e, fun z hz => mem_eqAt ru fy r fs z (by simpa using hz), ?_⟩
  have e2 : (its.toArray.toList.countP (eqU y) : Nat) = xs.countP fun z => eqV z y := countP_eqU r fs
  rw [e2]
  exact ⟨.int (xs.countP fun z => eqV z y : Nat), H, I.tok _, ⟨_, rfl⟩, q⟩
theorem Has.mono {P : Program} {w : World} {K : PySem.W.Frag} {mg : Str → Option Value} {base : Heap} {j k : Nat} {x : Str} {ps : List Str} {sp : Sp} (C : Has P w K mg base j x ps sp) (h : j ≤ k) : Has P w K mg base k x ps sp := by
  obtain ⟨f, fd, F, b, kp, m⟩ := C
  exact ⟨f, fd, F.mono h, b, kp, m⟩
theorem HasM.mono {P : Program} {w : World} {K : PySem.W.Frag} {mg : Str → Option Value} {base : Heap} {j k : Nat} {m : Str} {ι : Type} {cls : ι → Addr} {ps : List Str} {sp : ι → Sp} (C : HasM P w K mg base j m cls ps sp) (h : j ≤ k) : HasM P w K mg base k m cls ps sp := fun κ => by
  obtain ⟨c, f, fd, M, F, b⟩ := C κ
  exact ⟨c, f, fd, M, F.mono h, b⟩
end L3
set_option Elab.async false
set_option maxRecDepth 100000
namespace L3
open PySem PySem.Spec PyProof.Rows L2
theorem closure_go {env : Env} : ∀ (names : List (Str × NameKind)) (cs : List (Str × Addr)), (∀ x ∈ names, x.2 = .free → ∃ c, env.cells.lookup x.1 = some c) →
    ∃ cl, (forIn names cs (fun x (r : List (Str × Addr)) => if (x.2 == NameKind.free) = true then (do let c ← cellOf env x.1; pure (ForInStep.yield ((x.1, c) :: r))) else pure (ForInStep.yield r)) : Sem (List (Str × Addr))) = pure cl ∧
      (∀ x c, (x, c) ∈ cl → (x, c) ∈ cs ∨ env.cells.lookup x = some c) ∧ (∀ x ∈ names, x.2 = .free → ∃ c, (x.1, c) ∈ cl) ∧ ∀ p ∈ cs, p ∈ cl
  | [], cs, _ => ⟨cs, rfl, fun _ _ h => .inl h, fun x h _ => absurd h List.not_mem_nil, fun _ h => h⟩
  | (n, k) :: r, cs, h => by
    cases hk : (k == NameKind.free) with
    | true =>
      have ek : k = .free := by simpa using hk
      obtain ⟨c, hc⟩ := h (n, k) List.mem_cons_self ek
      obtain ⟨cl, e, h1, h2, h3⟩ := closure_go r ((n, c) :: cs) fun x hx => h x (List.mem_cons_of_mem _ hx)
      refine ⟨cl, ?_, fun x d hd => ?_, fun x hx hf => ?_, fun p hp => h3 p (List.mem_cons_of_mem _ hp)⟩
      · rw [List.forIn_cons]
        show (if (k == NameKind.free) = true then _ else _) >>= _ = _
        rw [if_pos hk]
        have e1 : cellOf env n = pure c := by unfold cellOf; rw [hc]
        rw [e1]
        exact e
      · rcases h1 x d hd with z | z
        · rcases List.mem_cons.mp z with z | z
          · cases z; exact .inr hc
          · exact .inl z
        · exact .inr z
      · rcases List.mem_cons.mp hx with z | z
        · subst z; exact ⟨c, h3 _ List.mem_cons_self⟩
        · exact h2 x z hf
    | false =>
      have nk : k ≠ .free := by simpa using hk
      obtain ⟨cl, e, h1, h2, h3⟩ := closure_go r cs fun x hx => h x (List.mem_cons_of_mem _ hx)
      refine ⟨cl, ?_, h1, fun x hx hf => ?_, h3⟩
      · rw [List.forIn_cons]
        show (if (k == NameKind.free) = true then _ else _) >>= _ = _
        rw [if_neg (by rw [hk]; decide)]
        exact e
      · rcases List.mem_cons.mp hx with z | z
        · subst z; exact absurd hf nk
        · exact h2 x z hf
theorem lookup_mem {α : Type} {x : Str} {c : α} : ∀ {l : List (Str × α)}, (x, c) ∈ l → ∃ d, l.lookup x = some d
  | [], h => nomatch h
  | (y, d) :: r, h => by
    rw [List.lookup_cons]
    cases e : (x == y) with
    | true => exact ⟨d, rfl⟩
    | false =>
      rcases List.mem_cons.mp h with z | z
      · cases z; simp at e
      · exact lookup_mem z
theorem closure_ok {scope : Scope} {env : Env} (h : ∀ x ∈ scope.names, x.2 = .free → ∃ c, env.cells.lookup x.1 = some c) :
    ∃ cl, closureFor scope env = pure cl ∧ (∀ x c, cl.lookup x = some c → env.cells.lookup x = some c) ∧ ∀ x ∈ scope.names, x.2 = .free → ∃ c, cl.lookup x.1 = some c := by
  obtain ⟨cl, e, h1, h2, _⟩ := closure_go scope.names [] h
  refine ⟨cl, ?_, fun x c hx => ?_, fun x hx hf => ?_⟩
  · unfold closureFor
    exact (bind_pure _).trans e
  · rcases h1 x c (PySem.mem_of_lookup hx) with z | z
    · exact nomatch z
    · exact z
  · obtain ⟨c, hc⟩ := h2 x hx hf
    exact lookup_mem hc
end L3
namespace L3
open PySem PySem.Spec PyProof.Rows L2
def testsOf (ifs : List Expr) (env : Env) : Sem Bool :=
  forIn ifs true fun c r => if r = true then do let ok ← isTrue c env (eval c env); pure (ForInStep.yield ok) else pure (ForInStep.yield r)
theorem lc_loop {prog : Program} {w : World} {A : Around} {R : Result → Shared → Prop} {s : Shared} {elt target iter : Expr} {ifs : List Expr} {scope : Scope} {pos : Pos} {it acc : Value} {env : Env} (I : Nat → Shared → Prop)
    (turn : ∀ n s, I n s → wpAny (model prog w) A (pyNext it) (fun r s₁ => match r with
      | none => R (.ok .next) s₁
      | some v => wpAny (model prog w) A (letOwnedTupleGo target it v) (fun _ s₂ => wpAny (model prog w) A (assign target env v) (fun _ s₃ =>
          wpAny (model prog w) A (testsOf ifs env) (fun ok s₄ =>
            if ok = true then wpAny (model prog w) A (eval elt env) (fun x s₅ =>
              wpAny (model prog w) A (call (.builtin "list.append") [acc, x]) (fun _ s₆ => ∃ m, m < n ∧ I m s₆) (notedBy (model prog w) A env fun e s' => R (.error e) s') s₅) (notedBy (model prog w) A env fun e s' => R (.error e) s') s₄
            else ∃ m, m < n ∧ I m s₄) (notedBy (model prog w) A env fun e s' => R (.error e) s') s₃) (notedBy (model prog w) A env fun e s' => R (.error e) s') s₂)
          (notedBy (model prog w) A env fun e s' => R (.error e) s') s₁) (notedBy (model prog w) A env fun e s' => R (.error e) s') s)
    (n : Nat) (h : I n s) : codeAny (model prog w) A (.compLoop (.ListComp elt [⟨target, iter, ifs, 0⟩] scope pos) 0 it acc env) R s := by
  refine codeAny_loop rfl I (fun n s hI => ?_) n h
  show wpAny _ A ((compTurn (.ListComp elt [⟨target, iter, ifs, 0⟩] scope pos) 0 it acc env).onRaise (fun x => do noteFrame x env; theTreesLotGoes x)) _ _ s
  refine wpAny_noted ?_
  rw [compTurn_list]
  refine wpAny_bind (wpAny_standAt (wpAny_bind (wpAny_mono (turn n s hI) (fun r s₁ h₁ => ?_) fun _ _ h' => h')))
  cases r with
  | none => exact wpAny_pure h₁
  | some v =>
    refine wpAny_bind (wpAny_mono h₁ (fun _ s₂ h₂ => ?_) fun _ _ h' => h')
    refine wpAny_bind (wpAny_mono h₂ (fun _ s₃ h₃ => wpAny_bind (wpAny_mono h₃ (fun ok s₄ h₄ => ?_) fun _ _ h' => h')) fun _ _ h' => h')
    cases ok with
    | false => exact wpAny_pure ⟨rfl, h₄⟩
    | true =>
      exact wpAny_bind (wpAny_bind (wpAny_mono h₄ (fun x s₅ h₅ => wpAny_bind (wpAny_mono h₅ (fun _ s₆ h₆ => wpAny_pure (wpAny_pure ⟨rfl, h₆⟩)) fun _ _ h' => h')) fun _ _ h' => h'))
def PIf (X : Cx) (ifs : List Expr) (t : TT) : Prop :=
  ∀ (pins : List (Addr × Obj)) (s : Shared) (σ : L2.St) (H : Hp) (Q : Bool → Hp → Prop), Inv X pins σ H s → t σ H Q → wpAny (model X.prog X.w) X.A (testsOf ifs X.env) (TP X pins σ Q) X.xe s
def tAlways : TT := fun _ H Q => Q true H
theorem pf_nil {X : Cx} : PIf X [] tAlways := fun _ _ _ H _ I h => wpAny_pure ⟨H, I, h⟩
theorem pf_one {X : Cx} {c : Expr} {t : TT} (h : PT X c t) : PIf X [c] t := fun pins s σ H Q I q => wpAny_tests_one (h pins s σ H Q I q)
def lcNames (N : List Str) (nl : List Str) (js : List Nat) : List Str := nl ++ js.map fun j => N.getD j Str.empty
def lcStart (nl : List Str) (js : List Nat) (σ : L2.St) : L2.St := nl.map (fun _ => none) ++ js.map fun j => σ.getD j none
def cxLc (X : Cx) (scope : Scope) (cl : List (Str × Addr)) (nl : List Str) (js : List Nat) (fp : List Addr) (s : Shared) (H : Hp) : Cx where
  prog := X.prog
  w := X.w
  K := X.K
  mg := X.mg
  base := X.base
  A := X.A
  N := lcNames X.N nl js
  s₀ := s
  H₀ := H
  env := compEnvC scope cl s.heap.objs.size X.env
  outer := X.stack
  stack := X.stack
  ex := fp
  fn := fun _ => false
  calm := X.calm
  pn := []
  xe := fun _ _ => False
structure LcScope (sc d : Scope) (N nl : List Str) (js : List Nat) : Prop where
  kind : sc.kind = .function
  nocell : ∀ y ∈ sc.names, y.2 ≠ .cell
  loc : ∀ y ∈ sc.names, y.2 = .local → sc.names.lookup y.1 = some .local
  free : ∀ y ∈ sc.names, y.2 = .free → d.names.lookup y.1 = some .cell
  own : ∀ x ∈ nl, sc.names.lookup x = some .local
  out : ∀ j ∈ js, j < N.length ∧ sc.names.lookup (N.getD j Str.empty) = some .free
theorem lookup_relabel {env : Env} : ∀ {names : List (Str × NameKind)} {x : Str} {k : NameKind},
    (names.map fun (n, k) => if (k == NameKind.free && env.scope.kind == .function && env.kindOf n == some .cell) then (n, NameKind.cell) else (n, k)).lookup x = some k → (k = .cell ∨ k = .free) →
    (names.lookup x = some .cell ∨ names.lookup x = some .free)
  | [], _, _, h, _ => by simp at h
  | (n, k0) :: r, x, k, h, hk => by
    have ih := @lookup_relabel env r x k
    have h : List.lookup x ((if (k0 == NameKind.free && env.scope.kind == .function && env.kindOf n == some .cell) = true then (n, NameKind.cell) else (n, k0)) :: _) = _ := h
    cases hx : x == n with
    | true =>
      rw [List.lookup_cons, hx]
      by_cases hc : (k0 == NameKind.free && env.scope.kind == .function && env.kindOf n == some .cell) = true
      · have : k0 = .free := by simp at hc; exact hc.1.1
        rw [this]; exact .inr rfl
      · rw [if_neg hc, List.lookup_cons, hx] at h
        have h := Option.some.inj h
        rw [h]
        rcases hk with z | z
        · rw [z]; exact .inl rfl
        · rw [z]; exact .inr rfl
    | false =>
      rw [List.lookup_cons, hx]
      by_cases hc : (k0 == NameKind.free && env.scope.kind == .function && env.kindOf n == some .cell) = true
      · rw [if_pos hc, List.lookup_cons, hx] at h; exact ih h hk
      · rw [if_neg hc, List.lookup_cons, hx] at h; exact ih h hk
end L3
namespace L3
open PySem PySem.Spec PyProof.Rows L2
theorem relabel_free {env : Env} : ∀ {names : List (Str × NameKind)} {x : Str}, names.lookup x = some .free →
    (names.map fun (n, k) => if (k == NameKind.free && env.scope.kind == .function && env.kindOf n == some .cell) then (n, NameKind.cell) else (n, k)).lookup x = some .cell ∨
    (names.map fun (n, k) => if (k == NameKind.free && env.scope.kind == .function && env.kindOf n == some .cell) then (n, NameKind.cell) else (n, k)).lookup x = some .free
  | [], _, h => by simp at h
  | (n, k) :: r, x, h => by
    have ih := @relabel_free env r x
    show List.lookup x ((if (k == NameKind.free && env.scope.kind == .function && env.kindOf n == some .cell) = true then (n, NameKind.cell) else (n, k)) :: _) = _ ∨ List.lookup x ((if (k == NameKind.free && env.scope.kind == .function && env.kindOf n == some .cell) = true then (n, NameKind.cell) else (n, k)) :: _) = _
    cases hx : x == n with
    | true =>
      simp only [List.lookup_cons, hx] at h
      cases h
      by_cases hc : (NameKind.free == NameKind.free && env.scope.kind == .function && env.kindOf n == some .cell) = true
      · rw [if_pos hc]; exact .inl (by simp [List.lookup_cons, hx])
      · rw [if_neg hc]; exact .inr (by simp [List.lookup_cons, hx])
    | false =>
      simp only [List.lookup_cons, hx] at h
      by_cases hc : (k == NameKind.free && env.scope.kind == .function && env.kindOf n == some .cell) = true
      · rw [if_pos hc]; simp only [List.lookup_cons, hx]; exact ih h
      · rw [if_neg hc]; simp only [List.lookup_cons, hx]; exact ih h
section
variable {X : Cx} {pins : List (Addr × Obj)} {σ : L2.St} {H : Hp} {s : Shared} {scope : Scope} {cl : List (Str × Addr)} {nl : List Str} {js : List Nat} {fp : List Addr}
theorem lc_enter {m0 : Str → Option Value} {h1 : Heap} {tk : Nat} (I : Inv X pins σ H s) (S : LcScope scope X.env.scope X.N nl js)
    (hc2 : ∀ x c, cl.lookup x = some c → X.env.cells.lookup x = some c) (hc3 : ∀ x ∈ scope.names, x.2 = .free → ∃ c, cl.lookup x.1 = some c)
    (hfp : ∀ b ∈ fp, FpOk X pins H b) (hlt : ∀ b ∈ fp, b < s.heap.objs.size)
    (hns : h1.Ns s.heap.objs.size m0) (old : ∀ b o, s.heap.get? b = some o → h1.get? b = some o) :
    Inv (cxLc X scope cl nl js fp s H) [] (lcStart nl js σ) H { s with heap := h1, toks := tk } := by
  have relk : ∀ {x : Str}, scope.names.lookup x = some .free → (cxLc X scope cl nl js fp s H).env.kindOf x = some .cell ∨ (cxLc X scope cl nl js fp s H).env.kindOf x = some .free := fun h => relabel_free h
  refine ⟨⟨I.ok.mod, ?_, I.ok.glob, I.ok.blt, Nat.le_refl _, fun x y c h2 h3 => I.ok.inj x y c (hc2 x c h2) (hc2 y c h3), fun x hx => ?_, fun x c h => absurd (show false = true from h) (by decide), I.ok.hd, I.ok.frames, .inl rfl, fun b hb => ⟨Nat.ne_of_lt (hlt b hb), fun x c h => (hfp b hb).2.2.2.2.1 x c (hc2 x c h)⟩,
      fun b o e => I.bs b o e, Nat.le_trans I.ok.bsz I.sz, fun b o e hb => ?_, fun b hb hf => ?_, I.stack, I.stkFree⟩, rfl, I.bare, Un.kept old, ⟨m0, hns, fun i x v e1 e2 e3 => ?_⟩, fun x c h => ?_, I.hok.fresh (Nat.le_refl _), fun x c h => I.freeC x c (hc2 x c h), fun p hp => absurd (show p ∈ ([] : List (Addr × Obj)) from hp) List.not_mem_nil, I.hok.kept old, ?_⟩
  · exact S.kind
  · have hx' : scope.names.lookup x = some .cell ∨ scope.names.lookup x = some .free := by
      rcases hx with z | z
      · exact lookup_relabel z (.inl rfl)
      · exact lookup_relabel z (.inr rfl)
    rcases hx' with z | z
    · exact absurd rfl (S.nocell _ (PySem.mem_of_lookup z))
    · exact hc3 _ (PySem.mem_of_lookup z) rfl
  · rcases (hfp b hb).2.2.2.1 with z | z
    · exact I.ok.noex b o e z
    · exact absurd (Nat.lt_of_lt_of_le (Heap.lt_size e) (Nat.le_trans I.ok.bsz z)) (Nat.lt_irrefl _)
  · rcases List.mem_cons.mp (I.stkSub b hf) with z | z
    · exact (hfp b hb).2.1 z
    · exact (hfp b hb).2.2.1 z
  · have e1 : (lcNames X.N nl js)[i]? = some x := e1
    unfold lcNames at e1
    unfold lcStart at e2
    by_cases hi : i < nl.length
    · rw [List.getElem?_append_left (by simpa using hi), List.getElem?_map] at e2
      rw [List.getElem?_eq_getElem hi] at e2
      cases e2
    · have hi' : nl.length ≤ i := Nat.not_lt.mp hi
      rw [List.getElem?_append_right hi', List.getElem?_map] at e1
      rw [List.getElem?_append_right (by simpa using hi'), List.getElem?_map, List.length_map] at e2
      cases ej : js[i - nl.length]? with
      | none => rw [ej] at e1; cases e1
      | some j =>
        rw [ej] at e1 e2
        obtain ⟨hj, hf⟩ := S.out j (List.mem_of_getElem? ej)
        have ey : X.N.getD j Str.empty = x := Option.some.inj e1
        have hy : X.N[j]? = some x := by
          rw [← ey, List.getD_eq_getElem?_getD, List.getElem?_eq_getElem hj]
          rfl
        rw [ey] at hf
        have e2 : σ.getD j none = some v := Option.some.inj e2
        have e2' : σ[j]? = some (some v) := by
          rw [List.getD_eq_getElem?_getD] at e2
          cases q : σ[j]? with
          | none => rw [q] at e2; cases e2
          | some o => rw [q] at e2; exact congrArg some e2
        obtain ⟨m, hn, hl⟩ := I.loc
        have hcell := S.free _ (PySem.mem_of_lookup hf) rfl
        obtain ⟨u, r, l⟩ := hl j x v hy e2' (.inr (.inl hcell))
        refine ⟨u, r, .inr ⟨relk hf, ?_⟩⟩
        obtain ⟨c', hc'⟩ := hc3 _ (PySem.mem_of_lookup hf) rfl
        rcases l with ⟨k, _⟩ | ⟨_, c, hc, o, ho, hd⟩
        · have k : X.env.scope.names.lookup x = some .local := k
          rw [hcell] at k; cases k
        · have ec : c' = c := Option.some.inj ((hc2 _ _ hc').symm.trans hc)
          subst ec
          exact ⟨c', hc', o, old _ o ho, hd⟩
  · obtain ⟨v, o, ho, hd⟩ := I.cell x c (hc2 x c h)
    exact ⟨v, o, old c o ho, hd⟩
  · show (lcStart nl js σ).length = (lcNames X.N nl js).length
    unfold lcStart lcNames
    simp
theorem lc_leave {s' : Shared} {σ' : L2.St} {H' : Hp} {t : Nat} (I : Inv X pins σ H s) (hfp : ∀ b ∈ fp, FpOk X pins H b)
    (IB : Inv (cxLc X scope cl nl js fp { s with heap := s.heap.push { cls := .type "list", data := .seq ([] : List Value).toArray }, toks := t } (upd H s.heap.objs.size (.lst []))) [] σ' H' s') : Inv X pins σ H' s' := by
  have u1 : Un (frs X.stack) fp H (upd H s.heap.objs.size (.lst [])) s.heap (s.heap.push { cls := .type "list", data := .seq ([] : List Value).toArray }) :=
    Un.laid (fun b u q => Heap.get?_push_of_some _ q) (Nat.le_refl _) (I.hok.fresh (Nat.le_refl _))
  exact I.call' (ch := fp) IB.os (u1.trans IB.base) IB.hok IB.bare fun b hb => ⟨(hfp b hb).2.2.2.1, (hfp b hb).2.1, (hfp b hb).2.2.2.2.1, (hfp b hb).2.2.2.2.2⟩
end
def lcOf : Expr → Scope
  | .ListComp _ _ s _ => s
  | _ => { kind := .function, names := [], isGenerator := false, isCoroutine := false }
def stE : Stmt → Expr
  | .Return (some e) _ => e
  | .Assign _ e _ => e
  | _ => .Constant .none 0 ⟨0, 0, 0, 0⟩
def LcTurns (nl : List Str) (js : List Nat) (J : It) (g : TG) (tc : TT) (te : TE) (σ : L2.St) (H : Hp) (D : Addr) (Q : Hp → Prop) : Prop :=
  ∃ W : Nat → Nat → List V → L2.St → Hp → Prop, (∃ m, W 0 m [] (lcStart nl js σ) (upd H D (.lst []))) ∧ ∀ i m ys σ1 H1, W i m ys σ1 H1 →
    (J.stop i H1 ∧ Q H1) ∨ (J.go i H1 ∧ ∀ x H2, J.yld i H1 x H2 → g x σ1 H2 fun σ3 H3 => tc σ3 H3 fun ok H4 =>
      if ok = true then te σ3 H4 fun y H5 => H5 D = some (.lst ys) ∧ ys.length < sizeLine ∧ ∃ m', m' < m ∧ W (i + 1) m' (ys ++ [y]) σ3 (upd H5 D (.lst (ys ++ [y])))
      else ∃ m', m' < m ∧ W (i + 1) m' ys σ3 H4)
def tLc (nl : List Str) (js : List Nat) (wi : TI) (g : List (Str × Addr) → List Addr → Shared → Hp → TG) (tc : List (Str × Addr) → List Addr → Shared → Hp → TT) (te : List (Str × Addr) → List Addr → Shared → Hp → TE) : TE := fun σ H Q => wi σ H fun J H1 => ∀ D, H1 D = none → ∀ cl fp sb Hb, LcTurns nl js J (g cl fp sb Hb) (tc cl fp sb Hb) (te cl fp sb Hb) σ H1 D fun H2 => Q (.ref D) H2
section
variable {X : Cx} {pins : List (Addr × Obj)} {σ : L2.St} {H : Hp} {s : Shared} {elt tg iter : Expr} {ifs : List Expr} {scope : Scope} {pos : Pos} {nl : List Str} {js : List Nat} {g : List (Str × Addr) → List Addr → Shared → Hp → TG} {tc : List (Str × Addr) → List Addr → Shared → Hp → TT} {te : List (Str × Addr) → List Addr → Shared → Hp → TE} {wi : TI}
structure LcParts (X : Cx) (scope : Scope) (nl : List Str) (js : List Nat) (tg : Expr) (ifs : List Expr) (elt : Expr) (g : List (Str × Addr) → List Addr → Shared → Hp → TG) (tc : List (Str × Addr) → List Addr → Shared → Hp → TT) (te : List (Str × Addr) → List Addr → Shared → Hp → TE) : Prop where
  sc : LcScope scope X.env.scope X.N nl js
  calm : X.calm = true
  tgt : ∀ cl fp s H, PG (cxLc X scope cl nl js fp s H) tg (g cl fp s H)
  tst : ∀ cl fp s H, PIf (cxLc X scope cl nl js fp s H) ifs (tc cl fp s H)
  el : ∀ cl fp s H, PE (cxLc X scope cl nl js fp s H) elt (te cl fp s H)
theorem lc_block {it : Addr} {fp : List Addr} {tn : Nat → Heap → Prop} {J : It} {cl : List (Str × Addr)} {E : Value → Shared → Prop} {Q : Addr → Hp → Prop} {RR : Value → Addr → Result → Shared → Prop}
    (L : LcParts X scope nl js tg ifs elt g tc te) (I : Inv X pins σ H s) (T : Turn X.prog X.w X.K tg J fp it tn) (st : tn 0 s.heap) (hfp : ∀ b ∈ fp, FpOk X pins H b)
    (hc2 : ∀ x c, cl.lookup x = some c → X.env.cells.lookup x = some c) (hc3 : ∀ x ∈ scope.names, x.2 = .free → ∃ c, cl.lookup x.1 = some c)
    (h : ∀ D, H D = none → ∀ cl fp sb Hb, LcTurns nl js J (g cl fp sb Hb) (tc cl fp sb Hb) (te cl fp sb Hb) σ H D (Q D))
    (hRR : ∀ D C s' H' m', s'.heap.Ns C m' → Inv X pins σ H' s' → H' C = none → X.env.locals < C → (∀ x c, X.env.cells.lookup x = some c → c < C) → (∀ p ∈ X.pn ++ pins, p.1 < C) → X.s₀.heap.objs.size ≤ C → Q D H' → RR (.ref D) C (.ok .next) s') :
    wpAny (model X.prog X.w) X.A (newList []) (fun acc s₃ => wpAny (model X.prog X.w) X.A (newFunctionEnv scope X.env.globals cl [] X.env.qual none .none (some X.env)) (fun cenv s₄ =>
      codeAny (model X.prog X.w) X.A (.compStart (.ListComp elt [⟨tg, iter, ifs, 0⟩] scope pos) 0 (.ref it) acc { cenv with scope := relabel scope X.env }) (RR acc cenv.locals) s₄) E s₃) E s := by
  refine wpAny_newObj_type (wpAny_newFunctionEnv L.sc.nocell (by intro y hy; simp at hy) (fun h₁ hns₁ hsb₁ => ?_) L.sc.kind)
  dsimp only at hns₁ hsb₁ ⊢
  have hlt : ∀ b ∈ fp, b < s.heap.objs.size := fun b hb => by
    obtain ⟨o, e, _⟩ := T.obj 0 _ st b hb
    exact Heap.lt_size e
  have ID : Inv X pins σ (upd H s.heap.objs.size (.lst [])) { s with heap := s.heap.push { cls := .type "list", data := .seq ([] : List Value).toArray }, toks := s.toks } := I.lnew (its := []) (ys := []) .nil (Nat.zero_le _)
  have zD : (s.heap.push { cls := .type "list", data := .seq ([] : List Value).toArray }).objs.size = s.heap.objs.size + 1 := Heap.size_push ..
  have neD : ∀ b ∈ fp, b ≠ s.heap.objs.size := fun b hb => Nat.ne_of_lt (hlt b hb)
  have hfpD : ∀ b ∈ fp, FpOk X pins (upd H s.heap.objs.size (.lst [])) b := fun b hb => by
    obtain ⟨f0, f1⟩ := hfp b hb
    exact ⟨by rw [upd_ne (neD b hb)]; exact f0, f1⟩
  have old : ∀ b o, (s.heap.push { cls := .type "list", data := .seq ([] : List Value).toArray }).get? b = some o → h₁.get? b = some o := fun b o e =>
    hsb₁.extBut b o (Nat.ne_of_lt (Heap.lt_size e)) (Heap.get?_push_of_some _ e)
  have IB := lc_enter (tk := s.toks + ([] : List (Str × Value)).length) (fp := fp) (cl := cl) ID L.sc hc2 hc3 hfpD (fun b hb => by show b < (s.heap.push _).objs.size; rw [zD]; exact Nat.lt_succ_of_lt (hlt b hb)) hns₁ old
  have st₁ : tn 0 h₁ := T.keep _ _ _ st fun b _ o e => old b o (Heap.get?_push_of_some _ e)
  obtain ⟨W, ⟨m0, w0⟩, turn⟩ := h s.heap.objs.size (I.hok.fresh (Nat.le_refl _)) cl fp { s with heap := s.heap.push { cls := .type "list", data := .seq ([] : List Value).toArray }, toks := s.toks } (upd H s.heap.objs.size (.lst []))
  have loop : ∀ s₃ : Shared, s₃ = { s with heap := h₁, toks := s.toks + ([] : List (Str × Value)).length } →
      codeAny (model X.prog X.w) X.A (.compLoop (.ListComp elt [⟨tg, iter, ifs, 0⟩] scope pos) 0 (.ref it) (.ref s.heap.objs.size) (compEnvC scope cl (s.heap.push { cls := .type "list", data := .seq ([] : List Value).toArray }).objs.size X.env))
        (RR (.ref s.heap.objs.size) (s.heap.push { cls := .type "list", data := .seq ([] : List Value).toArray }).objs.size) s₃ := by
    rintro s₃ rfl
    generalize hXB : cxLc X scope cl nl js fp { s with heap := s.heap.push { cls := .type "list", data := .seq ([] : List Value).toArray }, toks := s.toks } (upd H s.heap.objs.size (.lst [])) = XB at IB
    have eP : XB.prog = X.prog := by rw [← hXB]; rfl
    have eW : XB.w = X.w := by rw [← hXB]; rfl
    have eK : XB.K = X.K := by rw [← hXB]; rfl
    have eA : XB.A = X.A := by rw [← hXB]; rfl
    have eC : XB.calm = true := by rw [← hXB]; exact L.calm
    have eE : XB.env = compEnvC scope cl (s.heap.push { cls := .type "list", data := .seq ([] : List Value).toArray }).objs.size X.env := by rw [← hXB]; rfl
    have tgt : PG XB tg (g cl fp { s with heap := s.heap.push { cls := .type "list", data := .seq ([] : List Value).toArray }, toks := s.toks } (upd H s.heap.objs.size (.lst []))) := by rw [← hXB]; exact L.tgt _ _ _ _
    have tst : PIf XB ifs (tc cl fp { s with heap := s.heap.push { cls := .type "list", data := .seq ([] : List Value).toArray }, toks := s.toks } (upd H s.heap.objs.size (.lst []))) := by rw [← hXB]; exact L.tst _ _ _ _
    have el : PE XB elt (te cl fp { s with heap := s.heap.push { cls := .type "list", data := .seq ([] : List Value).toArray }, toks := s.toks } (upd H s.heap.objs.size (.lst []))) := by rw [← hXB]; exact L.el _ _ _ _
    have fB : ∀ {H' : Hp}, (∀ b ∈ fp, H' b = none) → ∀ b ∈ fp, FpOk XB [] H' b := fun {H'} hn b hb => by
      rw [← hXB]
      refine ⟨hn b hb, ?_, ?_, .inl hb, fun x c hx => ?_, fun p hp => absurd (show p ∈ ([] : List (Addr × Obj)) from hp) List.not_mem_nil⟩
      · show b ≠ (s.heap.push _).objs.size
        rw [zD]; exact Nat.ne_of_lt (Nat.lt_succ_of_lt (hlt b hb))
      · intro hf
        rcases List.mem_cons.mp (I.stkSub b hf) with z | z
        · exact (hfp b hb).2.1 z
        · exact (hfp b hb).2.2.1 z
      · exact (hfp b hb).2.2.2.2.1 x c (hc2 x c hx)
    have leave : ∀ {σ' : L2.St} {H' : Hp} {s' : Shared}, Inv XB [] σ' H' s' → Inv X pins σ H' s' := fun {σ' H' s'} J' => by
      rw [← hXB] at J'
      exact lc_leave I hfp J'
    rw [← eE]
    refine lc_loop (fun n s' => ∃ i ys σ' H', Inv XB [] σ' H' s' ∧ tn i s'.heap ∧ (∀ b ∈ fp, H' b = none) ∧ W i n ys σ' H') ?_ m0 ⟨0, [], _, _, IB, st₁, fun b hb => (hfpD b hb).1, w0⟩
    rintro n s3 ⟨i, ys, σ3, H3, I3, st3, fr3, w3⟩
    have nn : ∀ (e : Value) (s' : Shared), XB.xe e s' → False := fun e s' z => by rw [← hXB] at z; exact z
    rcases turn i n ys σ3 H3 w3 with ⟨stop, qn⟩ | ⟨go, step⟩
    · rw [← eA]
      refine wpAny_mono (T.done XB eP eW eK eC i [] s3 σ3 H3 (fun _ _ => False) I3 (fB fr3) st3 stop) (fun r s4 ⟨hr, I4⟩ => ?_) fun _ _ z => z.elim
      subst hr
      obtain ⟨m', hn', _⟩ := I4.loc
      have hL : XB.env.locals = s.heap.objs.size + 1 := by rw [eE]; exact zD
      rw [hL] at hn'
      have fC : H3 (s.heap.objs.size + 1) = none := by rw [← hL]; exact I4.free
      rw [zD]
      refine hRR _ _ s4 H3 m' hn' (leave I4) fC (Nat.lt_succ_of_lt I.lt) (fun x c hx => ?_) (fun p hp => ?_) (Nat.le_succ_of_le I.sz) qn
      · obtain ⟨v, o, ho, _⟩ := I.cell x c hx
        exact Nat.lt_succ_of_lt (Heap.lt_size ho)
      · exact Nat.lt_succ_of_lt (Heap.lt_size (I.pin p hp).1)
    · rw [← eA]
      refine wpAny_mono (T.item XB eP eW eK eC i [] s3 σ3 H3 (fun _ _ => False) I3 (fB fr3) st3 go) (fun r s4 ⟨u, hr, h4⟩ => ?_) fun _ _ z => z.elim
      subst hr
      refine wpAny_mono h4 (fun _ s5 ⟨x, H5, I5, r5, y5, st5, fr5⟩ => ?_) fun _ _ z => z.elim
      have I5' := I5.pinned (fB fr5) (T.obj _ _ st5)
      have back : ∀ {σ7 : L2.St} {H7 : Hp} {s7 : Shared}, Inv XB ([] ++ pinsAt fp s5.heap) σ7 H7 s7 → tn (i + 1) s7.heap ∧ ∀ b ∈ fp, H7 b = none := fun {σ7 H7 s7} I7 => by
        refine ⟨T.keep _ _ _ st5 fun b hb o e => (I7.pin (b, o) (List.mem_append_right _ (List.mem_append_right _ (mem_pinsAt hb e)))).1, fun b hb => ?_⟩
        obtain ⟨o, e, d⟩ := T.obj _ _ st5 b hb
        exact (I7.pin (b, o) (List.mem_append_right _ (List.mem_append_right _ (mem_pinsAt hb e)))).2.1
      have h6 := tgt _ s5 σ3 H5 x u _ I5' r5 (step x H5 y5)
      rw [eP, eW] at h6
      refine wpAny_mono h6 (fun _ s6 ⟨σ6, H6, I6, q6⟩ => ?_) fun e s' z => (nn e s' z).elim
      have h7 := tst _ s6 σ6 H6 _ I6 q6
      rw [eP, eW] at h7
      refine wpAny_mono h7 (fun ok s7 ⟨H7, I7, q7⟩ => ?_) fun e s' z => (nn e s' z).elim
      cases ok with
      | false =>
        obtain ⟨m', hm, w7⟩ := q7
        obtain ⟨st7, fr7⟩ := back I7
        exact ⟨m', hm, i + 1, ys, σ6, H7, I7.unpinned, st7, fr7, w7⟩
      | true =>
        have h8 := el _ s7 σ6 H7 _ I7 q7
        rw [eP, eW] at h8
        refine wpAny_mono h8 (fun v s8 ⟨y, H8, I8, r8, hD, hz, m', hm, w8⟩ => ?_) fun e s' z => (nn e s' z).elim
        have h9 := mt_append (X := XB) _ s8 σ6 H8 (.ref s.heap.objs.size) [y] (.ref s.heap.objs.size) [v] (fun r H9 => H9 = upd H8 s.heap.objs.size (.lst (ys ++ [y]))) I8 rfl (.cons r8 .nil) ⟨_, ys, y, rfl, rfl, hD, hz, rfl⟩
        rw [eP, eW] at h9
        refine wpAny_mono h9 (fun _ s9 ⟨_, H9, I9, _, e9⟩ => ?_) fun e s' z => (nn e s' z).elim
        subst e9
        obtain ⟨st9, fr9⟩ := back I9
        exact ⟨m', hm, i + 1, _, σ6, _, I9.unpinned, st9, fr9, w8⟩
  have hself := T.self X.A 0 { s with heap := h₁, toks := s.toks + ([] : List (Str × Value)).length }
  exact codeAny_compStart_list (loop _ rfl) (hself _ _ st₁ (loop _ rfl))
theorem pe_lc (hi : PI X tg iter wi) (L : LcParts X scope nl js tg ifs elt g tc te) (hs : ∀ x, foldedSetIterable iter X.env x = pure x := by intro _; rfl) :
    PE X (.ListComp elt [⟨tg, iter, ifs, 0⟩] scope pos) (tLc nl js wi g tc te) := by
  intro pins s σ H Q I h
  rw [eval_ListComp]
  obtain ⟨cl, hcl, hc2, hc3⟩ := closure_ok (scope := scope) (env := X.env) fun x hx hf => I.ok.has x.1 (.inl (L.sc.free x hx hf))
  refine wpAny_comprehension_free (use := none) rfl hs hcl L.sc.kind L.sc.loc (thn (hi pins s σ H _ I h) fun v s1 h1 => thn h1 fun itv s2 h2 => ?_)
  obtain ⟨it, fp, tn, J, H2, e, I2, T, st2, f2, h2⟩ := h2
  subst e
  refine lc_block (Q := fun D H' => Q (.ref D) H') (RR := fun acc C => compPost (model X.prog X.w) X.A X.xe none (EP X pins σ Q) acc C) L I2 T st2 f2 hc2 hc3 h2 ?_
  intro D C s' H' m' hn I' hC hL hcc hpp h0 q
  refine ⟨m', hn, fun h' hs' => ⟨.ref D, H', ?_, rfl, q⟩⟩
  exact I'.turned (t' := s'.toks) (it := C) (fun b o hb e => (hs'.2 b hb).trans e) hC (Nat.ne_of_gt hL) (.inr h0) (fun x c hx => Nat.ne_of_lt (hcc x c hx)) fun p hp => Nat.ne_of_lt (hpp p hp)
theorem ps_lcset {i : Nat} {y : Str} {py spos : Pos} (hN : X.N.Nodup) (hy : X.N[i]? = some y) (hx : Loc X.env.scope y) (hi : PI X tg iter wi) (L : LcParts X scope nl js tg ifs elt g tc te)
    (hsw : swapsWith (.ListComp elt [⟨tg, iter, ifs, 0⟩] scope pos) (some (.Name y py)) spos.line X.env = pure true := by rfl) (hs : ∀ x, foldedSetIterable iter X.env x = pure x := by intro _; rfl)
    (hf : X.fn y = true ∨ X.env.scope.names.lookup y = some .local := by first | exact .inl rfl | exact .inr rfl | assumption) :
    PS X (.Assign [.Name y py] (.ListComp elt [⟨tg, iter, ifs, 0⟩] scope pos) spos) (tAsg (tLc nl js wi g tc te) (gName i)) := by
  intro pins s σ H D I h
  rw [exec_Assign_Name_used _ _ _ _ hsw]
  refine wpAny_bind (wpAny_standAt (wpAny_bind ?_))
  show wpAny _ X.A (do let _ ← comprehension (.ListComp elt [⟨tg, iter, ifs, 0⟩] scope pos) scope X.env _ (newList []) false (eval iter X.env) (some (assign (.Name y py) X.env))) _ _ s
  obtain ⟨cl, hcl, hc2, hc3⟩ := closure_ok (scope := scope) (env := X.env) fun x hx hf => I.ok.has x.1 (.inl (L.sc.free x hx hf))
  refine wpAny_bind (wpAny_mono (wpAny_comprehension_free (use := some (assign (.Name y py) X.env)) (Q := fun _ s' => ∃ σ' H', Inv X pins σ' H' s' ∧ D.nx σ' H') rfl hs hcl L.sc.kind L.sc.loc
    (thn (hi pins s σ H _ I h) fun v s1 h1 => thn h1 fun itv s2 h2 => ?_)) (fun _ s' q => wpAny_pure (wpAny_pure q)) fun _ _ z => z)
  · obtain ⟨it, fp, tn, J, H2, e, I2, T, st2, f2, h2⟩ := h2
    subst e
    refine lc_block (Q := fun D' H' => D.nx (σ.set i (some (.ref D'))) H') (RR := fun acc C => compPost (model X.prog X.w) X.A X.xe (some (assign (.Name y py) X.env)) (fun _ s' => ∃ σ' H', Inv X pins σ' H' s' ∧ D.nx σ' H') acc C) L I2 T st2 f2 hc2 hc3 h2 ?_
    intro D' C s' H' m' hn I' hC hL hcc hpp h0 q
    refine wpAny_assign_Name (store_ok2 I' hN hy hx (v := .ref D') rfl (fun s'' I'' ⟨a, hsb, ha⟩ => ?_) hf)
    have hCa : C ≠ a := by
      rcases ha with rfl | ha
      · exact Nat.ne_of_gt hL
      · exact Nat.ne_of_gt (hcc _ _ ha)
    refine ⟨m', hn.sameBut hsb hCa, fun h' hs' => ⟨_, H', ?_, q⟩⟩
    exact I''.turned (t' := s''.toks) (it := C) (fun b o hb e => (hs'.2 b hb).trans e) hC (Nat.ne_of_gt hL) (.inr h0) (fun x c hx => Nat.ne_of_lt (hcc x c hx)) fun p hp => Nat.ne_of_lt (hpp p hp)
end
end L3
namespace L3
open PySem PySem.Spec PyProof.Rows L2
theorem Inv.pair {X : Cx} {pins : List (Addr × Obj)} {σ : L2.St} {H : Hp} {s : Shared} {h' : Heap} {t' : Nat} {fp : List Addr} {x y : V} {u v : Value} (I : Inv X pins σ H s) (hfp : ∀ b ∈ fp, FpOk X pins H b)
    (k : ∀ b o, b ∉ fp → s.heap.get? b = some o → h'.get? b = some o) (hp : h'.get? s.heap.objs.size = some { cls := .type "tuple", data := .seq #[u, v] }) (rx : RelV x u) (ry : RelV y v) :
    Inv X pins σ (upd H s.heap.objs.size (.tup [x, y])) { s with heap := h', toks := t' } := by
  have nf : ∀ b o, H b = some o → b ∉ fp := fun b o e hb => by rw [(hfp b hb).1] at e; cases e
  have fr : H s.heap.objs.size = none := I.hok.fresh (Nat.le_refl _)
  refine I.step (g' := s.gens) (d' := s.drawn) (ch := fp) (fun b hb => ⟨(hfp b hb).2.2.2.1, (hfp b hb).2.1, (hfp b hb).2.2.2.2.1, (hfp b hb).2.2.2.2.2⟩) (fun b o _ _ hc e _ => k b o hc e) (fun b o _ _ hc e _ => ⟨o.slots, k b o hc e⟩)
    (fun b o _ e n => by rw [upd_ne (Nat.ne_of_lt (Heap.lt_size e))]; exact n) (fun b o hc e => ⟨o, k b o hc e⟩) (fun b xs e => by rw [upd_ne (ne_of_none e fr)]; exact e) (fun b o xs e => by rw [upd_ne (ne_of_none e fr)]; exact e)
    (fun b ps e => ⟨#[], by rw [upd_ne (ne_of_none e fr), e]; simp⟩) (fun m hm => ?_) (fun b o e => ?_) I.bare
  · obtain ⟨o, es, ep, ho, r⟩ := hm
    exact ⟨o, es, ep, k _ o (fun z => (hfp _ z).2.1 rfl) ho, r⟩
  · by_cases hb : b = s.heap.objs.size
    · subst hb
      rw [upd_same] at e
      cases e
      exact ⟨by show 2 ≤ sizeLine; decide, [u, v], .cons rx (.cons ry .nil), ⟨_, hp, rfl, _, rfl⟩⟩
    · rw [upd_ne hb] at e
      refine (I.hok b o e).stay (fun c w' hc q => k c w' ?_ q) (fun c q => by rw [upd_ne (ne_of_none q fr)]; exact q) fun c xs q => by rw [upd_ne (ne_of_none q fr)]; exact q
      rcases hc with z | z
      · rw [z]; exact nf b o e
      · exact nf c _ z
theorem Inv.turnedL {X : Cx} {pins : List (Addr × Obj)} {σ : L2.St} {H : Hp} {s : Shared} {h' : Heap} {t' : Nat} {fp : List Addr} (I : Inv X pins σ H s) (hfp : ∀ b ∈ fp, FpOk X pins H b)
    (k : ∀ b o, b ∉ fp → s.heap.get? b = some o → h'.get? b = some o) : Inv X pins σ H { s with heap := h', toks := t' } := by
  have nf : ∀ b o, H b = some o → b ∉ fp := fun b o e hb => by rw [(hfp b hb).1] at e; cases e
  refine I.step (g' := s.gens) (d' := s.drawn) (ch := fp) (fun b hb => ⟨(hfp b hb).2.2.2.1, (hfp b hb).2.1, (hfp b hb).2.2.2.2.1, (hfp b hb).2.2.2.2.2⟩) (fun b o _ _ hc e _ => k b o hc e) (fun b o _ _ hc e _ => ⟨o.slots, k b o hc e⟩)
    (fun b o _ e n => n) (fun b o hc e => ⟨o, k b o hc e⟩) (fun b xs e => e) (fun b o xs e => e) (fun b ps e => ⟨#[], by rw [e]; simp⟩) (fun m hm => ?_) (fun b o e => ?_) I.bare
  · obtain ⟨o, es, ep, ho, r⟩ := hm
    exact ⟨o, es, ep, k _ o (fun z => (hfp _ z).2.1 rfl) ho, r⟩
  · refine (I.hok b o e).stay (fun c w' hc q => k c w' ?_ q) (fun c q => q) fun c xs q => q
    rcases hc with z | z
    · rw [z]; exact nf b o e
    · exact nf c _ z
def Itz (K : PySem.W.Frag) (a b : Addr) (xs ys : List V) : It :=
  ⟨fun i H => SqL K H a xs ∧ SqL K H b ys ∧ i < xs.length ∧ i < ys.length, fun i H v H' => ∃ p x y, H p = none ∧ xs[i]? = some x ∧ ys[i]? = some y ∧ v = .ref p ∧ H' = upd H p (.tup [x, y]),
    fun i H => SqL K H a xs ∧ SqL K H b ys ∧ (xs.length ≤ i ∨ ys.length ≤ i)⟩
theorem turn_zip {P : Program} {w : World} {K : PySem.W.Frag} {elts : List Expr} {k1 : Nat} {pt : Pos} {z TI TO i1 i2 a b : Addr} {xs ys : List V} (DD : ZipApart z TI TO i1 i2 a b) :
    Turn P w K (.Tuple elts k1 pt) (Itz K a b xs ys) [z, TI, TO, i1, i2] z (fun i h => IsZip h z TI TO .none ∧ IsPair h TI (.ref i1) (.ref i2) ∧ (∃ u v, IsPair h TO u v) ∧ h.IsListIter i1 a i ∧ h.IsListIter i2 b i) where
  mem := by simp
  obj := fun i h st c hc => by
    obtain ⟨hz, hTI, ⟨u, v, hTO⟩, h1, h2⟩ := st
    simp at hc
    rcases hc with rfl | rfl | rfl | rfl | rfl
    · exact ⟨_, hz, fun v z => by cases z⟩
    · exact ⟨_, hTI, fun v z => by cases z⟩
    · exact ⟨_, hTO, fun v z => by cases z⟩
    · obtain ⟨o, e, _, d⟩ := h1
      exact ⟨o, e, fun v z => by rw [d] at z; cases z⟩
    · obtain ⟨o, e, _, d⟩ := h2
      exact ⟨o, e, fun v z => by rw [d] at z; cases z⟩
  keep := fun i h h' st k => by
    obtain ⟨hz, hTI, ⟨u, v, hTO⟩, h1, h2⟩ := st
    exact ⟨k z (by simp) _ hz, k TI (by simp) _ hTI, ⟨u, v, k TO (by simp) _ hTO⟩, h1.at fun o e => k i1 (by simp) o e, h2.at fun o e => k i2 (by simp) o e⟩
  item := by
    intro X hP hw hK hc i pins s σ H E I hf st hg
    subst hP hw hK
    obtain ⟨hq1, hq2, l1, l2⟩ := hg
    obtain ⟨hz, hTI, ⟨u, v, hTO⟩, h1, h2⟩ := st
    obtain ⟨its1, rv1, p1, _⟩ := I.list hq1
    obtain ⟨its2, rv2, p2, _⟩ := I.list hq2
    obtain ⟨u1, hu1, ru1⟩ := rv1.get (List.getElem?_eq_getElem l1)
    obtain ⟨u2, hu2, ru2⟩ := rv2.get (List.getElem?_eq_getElem l2)
    refine wpAny_pyNext_zip_item DD hz hTI hTO h1 h2 p1.isList p2.isList (x := u1) (y := u2) (by simpa using hu1) (by simpa using hu2) fun h' a1 a2 a3 a4 a5 a6 hk => ?_
    refine ⟨_, rfl, wpAny_letOwnedTupleGo_zip a1 fun h'' hz'' hs'' => ?_⟩
    have lt : ∀ {c o}, s.heap.get? c = some o → s.heap.objs.size ≠ c := fun e => Nat.ne_of_gt (Heap.lt_size e)
    have kk : ∀ c o, c ∉ [z, TI, TO, i1, i2] → s.heap.get? c = some o → h''.get? c = some o := fun c o hc e => hs''.extBut c o (fun q => hc (by simp [q])) (hk c o (fun q => hc (by simp [q])) (fun q => hc (by simp [q])) (fun q => hc (by simp [q])) (fun q => hc (by simp [q])) e)
    refine ⟨.ref s.heap.objs.size, _, Inv.pair (s := s) (t' := s.toks) I hf kk (hs''.extBut _ _ (lt hz) a5) ru1 ru2, rfl, ⟨_, _, _, I.hok.fresh (Nat.le_refl _), List.getElem?_eq_getElem l1, List.getElem?_eq_getElem l2, rfl, rfl⟩,
      ⟨hz'', hs''.extBut _ _ DD.TIz (hk _ _ DD.TIz DD.TITO DD.TIi1 DD.TIi2 hTI), ⟨_, _, hs''.extBut _ _ DD.TOz a2⟩, a3.extBut hs''.extBut DD.i1z, a4.extBut hs''.extBut DD.i2z⟩, fun c hc => ?_⟩
    rw [upd_ne]
    · exact (hf c hc).1
    · have hob : ∃ o, s.heap.get? c = some o := by
        simp at hc
        rcases hc with rfl | rfl | rfl | rfl | rfl
        · exact ⟨_, hz⟩
        · exact ⟨_, hTI⟩
        · exact ⟨_, hTO⟩
        · obtain ⟨o, e, _⟩ := h1; exact ⟨o, e⟩
        · obtain ⟨o, e, _⟩ := h2; exact ⟨o, e⟩
      obtain ⟨o, e⟩ := hob
      exact (lt e).symm
  done := by
    intro X hP hw hK hc i pins s σ H E I hf st hg
    subst hP hw hK
    obtain ⟨hq1, hq2, hl⟩ := hg
    obtain ⟨hz, hTI, ⟨u, v, hTO⟩, h1, h2⟩ := st
    obtain ⟨its1, rv1, p1, _⟩ := I.list hq1
    obtain ⟨its2, rv2, p2, _⟩ := I.list hq2
    have e1 := rv1.length
    have e2 := rv2.length
    refine wpAny_pyNext_zip_end (I.ok.hd hc) DD hz hTI hTO h1 h2 p1.isList p2.isList ?_ fun h' hk => ⟨rfl, ?_⟩
    · rcases hl with q | q
      · exact .inl (by simp; omega)
      · exact .inr (by simp; omega)
    · exact Inv.turnedL (t' := s.toks) I hf fun c o hc e => hk c o (fun q => hc (by simp [q])) (fun q => hc (by simp [q])) (fun q => hc (by simp [q])) (fun q => hc (by simp [q])) e
  self := fun _ _ _ _ _ st h => wpAny_pyIter_zip st.1 h
def Ite (K : PySem.W.Frag) (a : Addr) (xs : List V) : It :=
  ⟨fun i H => SqL K H a xs ∧ i < xs.length, fun i H v H' => ∃ p x, H p = none ∧ xs[i]? = some x ∧ v = .ref p ∧ H' = upd H p (.tup [.int i, x]), fun i H => SqL K H a xs ∧ xs.length ≤ i⟩
theorem turn_enum {P : Program} {w : World} {K : PySem.W.Frag} {elts : List Expr} {k1 : Nat} {pt : Pos} {e it a : Addr} {xs : List V} (hei : e ≠ it) :
    Turn P w K (.Tuple elts k1 pt) (Ite K a xs) [e, it] e (fun i h => (∃ old, IsEnum h e it i old) ∧ h.IsListIter it a i) where
  mem := by simp
  obj := fun i h st c hc => by
    obtain ⟨⟨old, he⟩, h1⟩ := st
    simp at hc
    rcases hc with rfl | rfl
    · exact ⟨_, he, fun v z => by cases z⟩
    · obtain ⟨o, e, _, d⟩ := h1
      exact ⟨o, e, fun v z => by rw [d] at z; cases z⟩
  keep := fun i h h' st k => by
    obtain ⟨⟨old, he⟩, h1⟩ := st
    exact ⟨⟨old, k e (by simp) _ he⟩, h1.at fun o x => k it (by simp) o x⟩
  item := by
    intro X hP hw hK hc i pins s σ H E I hf st hg
    subst hP hw hK
    obtain ⟨hq1, l1⟩ := hg
    obtain ⟨⟨old, he⟩, h1⟩ := st
    obtain ⟨its1, rv1, p1, _⟩ := I.list hq1
    obtain ⟨u1, hu1, ru1⟩ := rv1.get (List.getElem?_eq_getElem l1)
    refine wpAny_pyNext_enum_item he h1 p1.isList (x := u1) (by simpa using hu1) hei fun h' ho hit' hT hsz hk => ?_
    refine ⟨_, rfl, wpAny_letOwnedTupleGo_enum ho fun h'' he'' hs'' => ?_⟩
    have lt : ∀ {c o}, s.heap.get? c = some o → s.heap.objs.size ≠ c := fun e => Nat.ne_of_gt (Heap.lt_size e)
    have kk : ∀ c o, c ∉ [e, it] → s.heap.get? c = some o → h''.get? c = some o := fun c o hc e => hs''.extBut c o (fun q => hc (by simp [q])) (hk c o (fun q => hc (by simp [q])) (fun q => hc (by simp [q])) e)
    refine ⟨.ref s.heap.objs.size, _, Inv.pair (s := s) (x := .int i) (t' := s.toks + 1) I hf kk (hs''.extBut _ _ (lt he) hT) ⟨_, rfl⟩ ru1, rfl, ⟨_, _, I.hok.fresh (Nat.le_refl _), List.getElem?_eq_getElem l1, rfl, rfl⟩,
      ⟨⟨_, by simpa using he''⟩, hit'.extBut hs''.extBut hei.symm⟩, fun c hc => ?_⟩
    rw [upd_ne]
    · exact (hf c hc).1
    · have hob : ∃ o, s.heap.get? c = some o := by
        simp at hc
        rcases hc with rfl | rfl
        · exact ⟨_, he⟩
        · obtain ⟨o, e, _⟩ := h1; exact ⟨o, e⟩
      obtain ⟨o, e⟩ := hob
      exact (lt e).symm
  done := by
    intro X hP hw hK hc i pins s σ H E I hf st hg
    subst hP hw hK
    obtain ⟨hq1, hl⟩ := hg
    obtain ⟨⟨old, he⟩, h1⟩ := st
    obtain ⟨its1, rv1, p1, _⟩ := I.list hq1
    have e1 := rv1.length
    refine wpAny_pyNext_enum_end (I.ok.hd hc) he h1 p1.isList (by simp; omega) fun h' hk => ⟨rfl, ?_⟩
    exact Inv.turnedL (t' := s.toks) I hf fun c o hc e => hk c o (fun q => hc (by simp [q])) e
  self := fun _ _ _ _ _ st h => by
    obtain ⟨⟨old, he⟩, _⟩ := st
    exact wpAny_pyIter_enum he h
section
variable {X : Cx} {elts : List Expr} {k1 : Nat} {pt : Pos}
def iZip (K : PySem.W.Frag) (ta : TA) : TI := fun σ H R => ta σ H fun vs H1 => ∃ a b xs ys, vs = [.ref a, .ref b] ∧ SqL K H1 a xs ∧ SqL K H1 b ys ∧ R (Itz K a b xs ys) H1
theorem b_zip : bootBuiltins "zip" = some (.type "zip") := by decide +kernel
theorem b_enumerate : bootBuiltins "enumerate" = some (.type "enumerate") := by decide +kernel
theorem pi_zip {a b : Expr} {ta : TA} {p pos : Pos} (hg : Gl X "zip") (hm : X.mg "zip" = none) (ha : PA X [a, b] ta) (hs : starEach [a, b] X.env = [(false, eval a X.env), (false, eval b X.env)] := by rfl) (hs2 : starEach [b] X.env = [(false, eval b X.env)] := by rfl) :
    PI X (.Tuple elts k1 pt) (.Call (.Name "zip" p) [a, b] [] pos) (iZip X.K ta) := by
  intro pins s σ H R I h
  refine Call_ (ld_blt I hg hm b_zip (PyProof.Rows.callWith_type1 (thn (ha pos pins s σ H _ I h) fun us s1 ⟨vs, H1, I1, r1, q1⟩ => ?_) (by rw [hs, hs2]) (by rw [hs2]; rfl)))
  obtain ⟨l1, l2, xs, ys, e, hq1, hq2, q⟩ := q1
  subst e
  obtain ⟨u, v, rfl, ru, rv⟩ := vals2 r1
  cases ru
  cases rv
  obtain ⟨its1, rv1, p1, _⟩ := I1.list hq1
  obtain ⟨its2, rv2, p2, _⟩ := I1.list hq2
  refine call_zip_2 p1.isList p2.isList fun h' hz hTI hTO h1 h2 hsz hk => ?_
  have I2 : Inv X pins σ H1 { s1 with heap := h', toks := s1.toks } := I1.kept hk
  have lt1 : l1 < s1.heap.objs.size := by obtain ⟨o, e, _⟩ := p1.isList; exact Heap.lt_size e
  have lt2 : l2 < s1.heap.objs.size := by obtain ⟨o, e, _⟩ := p2.isList; exact Heap.lt_size e
  refine wpAny_pyIter_zip hz ⟨_, [s1.heap.objs.size + 4, s1.heap.objs.size + 2, s1.heap.objs.size + 3, s1.heap.objs.size, s1.heap.objs.size + 1], _, _, H1, rfl, I2, turn_zip (zipApart_new lt1 lt2), ⟨hz, hTI, ⟨_, _, hTO⟩, h1, h2⟩, fun c hc => ?_, q⟩
  refine I1.fpOk ?_ (I1.hok.fresh ?_) <;> (simp at hc; rcases hc with rfl | rfl | rfl | rfl | rfl <;> omega)
def iEnum (K : PySem.W.Frag) (ta : TA) : TI := fun σ H R => ta σ H fun vs H1 => ∃ a xs, vs = [.ref a] ∧ SqL K H1 a xs ∧ R (Ite K a xs) H1
theorem pi_enum {a : Expr} {ta : TA} {p pos : Pos} (hg : Gl X "enumerate") (hm : X.mg "enumerate" = none) (ha : PA X [a] ta) (hs : starEach [a] X.env = [(false, eval a X.env)] := by rfl) :
    PI X (.Tuple elts k1 pt) (.Call (.Name "enumerate" p) [a] [] pos) (iEnum X.K ta) := by
  intro pins s σ H R I h
  refine Call_ (ld_blt I hg hm b_enumerate (PyProof.Rows.callWith_type1 (thn (ha pos pins s σ H _ I h) fun us s1 ⟨vs, H1, I1, r1, q1⟩ => ?_) (by rw [hs]; rfl) rfl))
  obtain ⟨l1, xs, e, hq1, q⟩ := q1
  subst e
  obtain ⟨u, rfl, ru⟩ := vals1 r1
  cases ru
  obtain ⟨its1, rv1, p1, _⟩ := I1.list hq1
  refine call_enumerate_list p1.isList fun h' he h1 hsz hk => ?_
  have I2 : Inv X pins σ H1 { s1 with heap := h', toks := s1.toks } := I1.kept hk
  refine wpAny_pyIter_enum he ⟨_, [s1.heap.objs.size + 1, s1.heap.objs.size], _, _, H1, rfl, I2, turn_enum (Nat.succ_ne_self _), ⟨⟨_, he⟩, h1⟩, fun c hc => ?_, q⟩
  refine I1.fpOk ?_ (I1.hok.fresh ?_) <;> (simp at hc; rcases hc with rfl | rfl <;> omega)
end
theorem for_zip {K : PySem.W.Frag} {a b : Addr} {xs ys : List V} {g : TG} {tb : TS} {D : Ends} {σ : L2.St} {H : Hp} (Pv : Nat → L2.St → Hp → Prop) (h0 : Pv 0 σ H) (hl : ∀ i σ H, Pv i σ H → SqL K H a xs ∧ SqL K H b ys) (hxy : xs.length = ys.length)
    (hs : ∀ i x y p σ H, xs[i]? = some x → ys[i]? = some y → Pv i σ H → H p = none → g (.ref p) σ (upd H p (.tup [x, y])) fun σ2 H2 => tb { D with nx := Pv (i + 1), ct := Pv (i + 1), bk := D.nx } σ2 H2) (hd : ∀ σ H, Pv xs.length σ H → D.nx σ H) :
    ∃ W : Nat → Nat → L2.St → Hp → Prop, (∃ m, W 0 m σ H) ∧ ∀ i m σ H, W i m σ H →
      ((Itz K a b xs ys).stop i H ∧ D.nx σ H) ∨ ((Itz K a b xs ys).go i H ∧ ∃ N : L2.St → Hp → Prop, (∀ σ' H', N σ' H' → ∃ m', m' < m ∧ W (i + 1) m' σ' H') ∧ ∀ x H', (Itz K a b xs ys).yld i H x H' → g x σ H' fun σ2 H2 => tb { D with nx := N, ct := N, bk := D.nx } σ2 H2) := by
  refine ⟨fun i m σ H => m = xs.length - i ∧ i ≤ xs.length ∧ Pv i σ H, ⟨xs.length, by simp, Nat.zero_le _, h0⟩, ?_⟩
  rintro i m σ H ⟨rfl, hi, p⟩
  obtain ⟨q1, q2⟩ := hl i σ H p
  by_cases hlt : i < xs.length
  · refine .inr ⟨⟨q1, q2, hlt, by omega⟩, Pv (i + 1), fun σ' H' p' => ⟨xs.length - (i + 1), by omega, rfl, hlt, p'⟩, fun v H' y => ?_⟩
    obtain ⟨p', x, y, hp, hx, hy, rfl, rfl⟩ := y
    exact hs i x y p' σ H hx hy p hp
  · have e : i = xs.length := by omega
    subst e
    exact .inl ⟨⟨q1, q2, .inl (Nat.le_refl _)⟩, hd σ H p⟩
end L3
set_option Elab.async false
set_option linter.all false
set_option maxRecDepth 100000
namespace Fd
open PySem L2 L3
def Rel {α β : Type} (R : α → β → Prop) (as : List α) (bs : List β) : Prop := as.length = bs.length ∧ ∀ (i : Nat) (a : α) (b : β), as[i]? = some a → bs[i]? = some b → R a b
theorem Rel.nil {α β : Type} {R : α → β → Prop} : Rel R [] [] := ⟨rfl, fun i a b h => by simp at h⟩
theorem Rel.mono {α β : Type} {R R' : α → β → Prop} (k : ∀ a b, R a b → R' a b) {as : List α} {bs : List β} (h : Rel R as bs) : Rel R' as bs := ⟨h.1, fun i a b x y => k a b (h.2 i a b x y)⟩
theorem Rel.snoc {α β : Type} {R : α → β → Prop} {as : List α} {bs : List β} {a : α} {b : β} (h : Rel R as bs) (k : R a b) : Rel R (as ++ [a]) (bs ++ [b]) := by
  refine ⟨by simp [h.1], fun i x y e1 e2 => ?_⟩
  by_cases hi : i < as.length
  · rw [List.getElem?_append_left hi] at e1
    rw [List.getElem?_append_left (h.1 ▸ hi)] at e2
    exact h.2 i x y e1 e2
  · rw [List.getElem?_append_right (by omega)] at e1
    rw [List.getElem?_append_right (by rw [← h.1]; omega), ← h.1] at e2
    cases e : i - as.length with
    | zero =>
      rw [e] at e1 e2
      cases e1
      cases e2
      exact k
    | succ j => rw [e] at e1; simp at e1
theorem Rel.get {α β : Type} {R : α → β → Prop} {as : List α} {bs : List β} (h : Rel R as bs) {i : Nat} {a : α} (e : as[i]? = some a) : ∃ b, bs[i]? = some b ∧ R a b := by
  have hi : i < as.length := by
    rcases Nat.lt_or_ge i as.length with z | z
    · exact z
    · rw [List.getElem?_eq_none z] at e; cases e
  have hj : i < bs.length := h.1 ▸ hi
  exact ⟨bs[i], List.getElem?_eq_getElem hj, h.2 i a _ e (List.getElem?_eq_getElem hj)⟩
theorem take_snoc {α : Type} {ds : List α} {i : Nat} {e : α} (h : ds[i]? = some e) : ds.take (i + 1) = ds.take i ++ [e] := by
  rw [List.take_succ, h]
  rfl
end Fd
namespace Lw
open PySem L2 L3 Fd
section
variable {K : PySem.W.Frag}
theorem map_get {α : Type} {f : α → V} {xs : List α} {i : Nat} {v : V} (h : (xs.map f)[i]? = some v) : ∃ x, xs[i]? = some x ∧ v = f x := by
  rw [List.getElem?_map] at h
  cases e : xs[i]? with
  | none => rw [e] at h; cases h
  | some x => rw [e] at h; exact ⟨x, rfl, (Option.some.inj h).symm⟩
theorem list_turns {a D : Addr} {xs : List V} {nm : Str} {js : List Nat} {tc : TT} {te : TE} {σ : L2.St} {H : Hp} {Q : Hp → Prop} (st : L2.St) (Pv : Nat → List V → Hp → Prop) (hst : js.map (fun j => σ.getD j none) = st) (hx : xs.length < 1000)
    (ha : SqL K H a xs) (hD : H D = none) (h0 : Pv 0 [] (upd H D (.lst [])))
    (hs : ∀ (i : Nat) (x : V) (ys : List V) (H1 : Hp) (Y : V → Hp → Prop) (N : Hp → Prop), xs[i]? = some x → Same H H1 → H1 D = some (.lst ys) → Pv i ys H1 → (∀ y H5, Same H1 H5 → Pv (i + 1) (ys ++ [y]) (upd H5 D (.lst (ys ++ [y]))) → Y y H5) → (∀ H4, Same H1 H4 → Pv (i + 1) ys H4 → N H4) →
      tc (some x :: st) H1 fun ok H4 => if ok = true then te (some x :: st) H4 Y else N H4)
    (q : ∀ ys H', Same H H' → H' D = some (.lst ys) → Pv xs.length ys H' → Q H') :
    LcTurns [nm] js (Itl K a) (gName 0) tc te σ H D Q := by
  refine ⟨fun i m ys σ' H' => m = xs.length - i ∧ i ≤ xs.length ∧ ys.length ≤ i ∧ (∃ o, σ' = o :: st) ∧ Same H H' ∧ H' D = some (.lst ys) ∧ Pv i ys H', ⟨_, rfl, Nat.zero_le _, Nat.le_refl _, ⟨none, ?_⟩, same_new hD _, upd_same, h0⟩, ?_⟩
  · unfold lcStart
    rw [hst]
    rfl
  rintro i m ys σ1 H1 ⟨rfl, hi, hy, ⟨o, rfl⟩, s1, hD1, p⟩
  have ha1 := s1.seq ha
  by_cases hlt : i < xs.length
  · refine .inr ⟨⟨xs, xs[i], ha1, List.getElem?_eq_getElem hlt⟩, fun x H2 hyl => ?_⟩
    obtain ⟨rfl, hx2⟩ := hyl
    refine hs i x ys H2 _ _ (hx2 xs ha1) s1 hD1 p (fun y H5 s5 p5 => ?_) (fun H4 s4 p4 => ?_)
    · refine ⟨s5 _ _ hD1, by rw [sizeLine_eq]; omega, xs.length - (i + 1), by omega, rfl, hlt, by rw [List.length_append]; simp; omega, ⟨_, rfl⟩, (s1.trans s5).upd_new hD _, upd_same, p5⟩
    · exact ⟨xs.length - (i + 1), by omega, rfl, hlt, by omega, ⟨_, rfl⟩, s1.trans s4, s4 _ _ hD1, p4⟩
  · have ei : i = xs.length := by omega
    subst ei
    exact .inl ⟨⟨xs, ha1, Nat.le_refl _⟩, q ys H1 s1 hD1 p⟩
end
end Lw
set_option Elab.async false
set_option linter.all false
set_option maxRecDepth 100000
namespace Fd
open PySem
theorem cut_eq {c : Nat} : ∀ {a b r s : List Nat}, c ∉ a → c ∉ b → a ++ c :: r = b ++ c :: s → a = b ∧ r = s
  | [], [], r, s, _, _, e => ⟨rfl, (List.cons.inj e).2⟩
  | [], y :: b, r, s, _, hb, e => absurd (List.mem_cons.mpr (.inl (List.cons.inj e).1)) hb
  | x :: a, [], r, s, ha, _, e => absurd (List.mem_cons.mpr (.inl (List.cons.inj e).1.symm)) ha
  | x :: a, y :: b, r, s, ha, hb, e => by
    obtain ⟨h1, h2⟩ := List.cons.inj e
    obtain ⟨h3, h4⟩ := cut_eq (fun z => ha (List.mem_cons_of_mem _ z)) (fun z => hb (List.mem_cons_of_mem _ z)) h2
    exact ⟨by rw [h1, h3], h4⟩
theorem str_ext {a b : Str} (h : a.cps.toList = b.cps.toList) : a = b := by
  obtain ⟨⟨a⟩⟩ := a
  obtain ⟨⟨b⟩⟩ := b
  have h : a = b := h
  rw [h]
theorem join_list (c : Nat) (a b : Str) (r : List Str) : (Str.join ⟨#[c]⟩ (a :: b :: r)).cps.toList = a.cps.toList ++ c :: (Str.join ⟨#[c]⟩ (b :: r)).cps.toList := by
  show ((a.cps ++ #[c]) ++ (Str.join ⟨#[c]⟩ (b :: r)).cps).toList = _
  simp
theorem join_inj {c : Nat} : ∀ {ps qs : List Str}, ps ≠ [] → qs ≠ [] → (∀ p ∈ ps, c ∉ p.cps.toList) → (∀ q ∈ qs, c ∉ q.cps.toList) → Str.join ⟨#[c]⟩ ps = Str.join ⟨#[c]⟩ qs → ps = qs
  | [], _, h, _, _, _, _ => absurd rfl h
  | _, [], _, h, _, _, _ => absurd rfl h
  | [p], [q], _, _, _, _, e => by
    have e : p = q := e
    rw [e]
  | [p], q :: q' :: qs, _, _, hp, _, e => by
    have e1 := congrArg (fun z : Str => z.cps.toList) e
    simp only [join_list] at e1
    have e1 : p.cps.toList = q.cps.toList ++ c :: _ := e1
    exact absurd (by rw [e1]; simp) (hp p (List.mem_singleton.mpr rfl))
  | p :: p' :: ps, [q], _, _, _, hq, e => by
    have e1 := congrArg (fun z : Str => z.cps.toList) e
    simp only [join_list] at e1
    have e1 : p.cps.toList ++ c :: _ = q.cps.toList := e1
    exact absurd (by rw [← e1]; simp) (hq q (List.mem_singleton.mpr rfl))
  | p :: p' :: ps, q :: q' :: qs, _, _, hp, hq, e => by
    have e1 := congrArg (fun z : Str => z.cps.toList) e
    simp only [join_list] at e1
    obtain ⟨h1, h2⟩ := cut_eq (hp p List.mem_cons_self) (hq q List.mem_cons_self) e1
    have h3 := join_inj (ps := p' :: ps) (qs := q' :: qs) (by simp) (by simp) (fun z hz => hp z (List.mem_cons_of_mem _ hz)) (fun z hz => hq z (List.mem_cons_of_mem _ hz)) (str_ext h2)
    rw [str_ext h1, h3]
theorem split_join {c : Nat} {ws : List Str} (h : ws ≠ []) (hf : ∀ w ∈ ws, c ∉ w.cps.toList) : Txt.split (Str.join ⟨#[c]⟩ ws) ⟨#[c]⟩ = ws := by
  refine join_inj (c := c) ?_ h (StrLaws.split_free _ c) hf (StrLaws.join_split _ _)
  intro e
  have := PyProof.Rows.split_pos (Str.join ⟨#[c]⟩ ws) ⟨#[c]⟩
  rw [e] at this
  exact absurd this (by decide)
theorem join_app (c : Nat) : ∀ {ps qs : List Str}, ps ≠ [] → qs ≠ [] → Str.join ⟨#[c]⟩ (ps ++ qs) = Str.join ⟨#[c]⟩ ps ++ ⟨#[c]⟩ ++ Str.join ⟨#[c]⟩ qs
  | [], _, h, _ => absurd rfl h
  | [p], q :: qs, _, _ => rfl
  | [p], [], _, h => absurd rfl h
  | p :: p' :: ps, qs, _, h => by
    have e : Str.join ⟨#[c]⟩ ((p :: p' :: ps) ++ qs) = p ++ ⟨#[c]⟩ ++ Str.join ⟨#[c]⟩ ((p' :: ps) ++ qs) := rfl
    have e2 : Str.join ⟨#[c]⟩ (p :: p' :: ps) = p ++ ⟨#[c]⟩ ++ Str.join ⟨#[c]⟩ (p' :: ps) := rfl
    rw [e, join_app c (ps := p' :: ps) (by simp) h, e2]
    simp only [Str.append_assoc]
def num (i : Int) : Str := Str.ofString (toString i)
inductive Tk
  | pl (r : Rule)
  | wd (s : Str)
def wordOf : Rule → Str
  | .both _ _ => "and"
  | .either _ _ => "or"
  | .but _ _ => "but"
  | _ => "off"
def toks : Rule → List Tk
  | .both x y => [.wd "("] ++ toks x ++ [.wd "and"] ++ toks y ++ [.wd ")"]
  | .either x y => [.wd "("] ++ toks x ++ [.wd "or"] ++ toks y ++ [.wd ")"]
  | .but x y => [.wd "("] ++ toks x ++ [.wd "but"] ++ toks y ++ [.wd ")"]
  | .moved x y => [.wd "("] ++ toks x ++ [.wd "off"] ++ toks y ++ [.wd ")"]
  | r => [.pl r]
def plainWords : Rule → List Str
  | .every m s => ["every", num m, "from", num s]
  | .date d => ["date", num d]
  | .nth w k => ["nth", num w, "weekday", num k]
  | _ => []
def tkWords : Tk → List Str
  | .pl r => plainWords r
  | .wd s => [s]
def words (r : Rule) : List Str := (toks r).flatMap tkWords
def sp : Str := ⟨#[32]⟩
theorem sp_is : (" " : Str) = sp := by decide +kernel
def lineOf : Rule → Str
  | .every m s => "every " ++ num m ++ " from " ++ num s
  | .date d => "date " ++ num d
  | .nth w k => "nth " ++ num w ++ " weekday " ++ num k
  | .both x y => "( " ++ lineOf x ++ " " ++ "and" ++ " " ++ lineOf y ++ " )"
  | .either x y => "( " ++ lineOf x ++ " " ++ "or" ++ " " ++ lineOf y ++ " )"
  | .but x y => "( " ++ lineOf x ++ " " ++ "but" ++ " " ++ lineOf y ++ " )"
  | .moved x y => "( " ++ lineOf x ++ " " ++ "off" ++ " " ++ lineOf y ++ " )"
theorem w_every : ("every " : Str) = "every" ++ sp := by decide +kernel
theorem w_from : (" from " : Str) = sp ++ "from" ++ sp := by decide +kernel
theorem w_date : ("date " : Str) = "date" ++ sp := by decide +kernel
theorem w_nth : ("nth " : Str) = "nth" ++ sp := by decide +kernel
theorem w_weekday : (" weekday " : Str) = sp ++ "weekday" ++ sp := by decide +kernel
theorem w_open : ("( " : Str) = "(" ++ sp := by decide +kernel
theorem w_close : (" )" : Str) = sp ++ ")" := by decide +kernel
theorem words_ne : ∀ r : Rule, words r ≠ []
  | .every _ _ => by simp [words, toks, tkWords, plainWords]
  | .date _ => by simp [words, toks, tkWords, plainWords]
  | .nth _ _ => by simp [words, toks, tkWords, plainWords]
  | .both _ _ => by simp [words, toks, tkWords]
  | .either _ _ => by simp [words, toks, tkWords]
  | .but _ _ => by simp [words, toks, tkWords]
  | .moved _ _ => by simp [words, toks, tkWords]
theorem pair_join (w : Str) (a b : List Str) (ha : a ≠ []) (hb : b ≠ []) : Str.join sp (([("(" : Str)] ++ a ++ [w] ++ b ++ [(")" : Str)])) = "( " ++ Str.join sp a ++ " " ++ w ++ " " ++ Str.join sp b ++ " )" := by
  have j : ∀ {p q : List Str}, p ≠ [] → q ≠ [] → Str.join sp (p ++ q) = Str.join sp p ++ sp ++ Str.join sp q := fun hp hq => join_app 32 hp hq
  have j1 : ∀ x : Str, Str.join sp [x] = x := fun _ => rfl
  rw [j (by simp) (by simp), j (by simp) hb, j (by simp) (by simp), j (by simp) ha, j1, j1, j1, w_open, w_close, sp_is]
  simp only [Str.append_assoc]
theorem words_pair (w : Str) (x y : Rule) : ([Tk.wd "("] ++ toks x ++ [Tk.wd w] ++ toks y ++ [Tk.wd ")"]).flatMap tkWords = [("(" : Str)] ++ words x ++ [w] ++ words y ++ [(")" : Str)] := by
  simp [words, tkWords, List.flatMap_append]
theorem line_words : ∀ r : Rule, lineOf r = Str.join sp (words r)
  | .every m s => by
    show "every " ++ num m ++ " from " ++ num s = "every" ++ sp ++ (num m ++ sp ++ ("from" ++ sp ++ num s))
    rw [w_every, w_from]
    simp only [Str.append_assoc]
  | .date d => by
    show "date " ++ num d = "date" ++ sp ++ num d
    rw [w_date]
  | .nth w k => by
    show "nth " ++ num w ++ " weekday " ++ num k = "nth" ++ sp ++ (num w ++ sp ++ ("weekday" ++ sp ++ num k))
    rw [w_nth, w_weekday]
    simp only [Str.append_assoc]
  | .both x y => by
    show "( " ++ lineOf x ++ " " ++ "and" ++ " " ++ lineOf y ++ " )" = Str.join sp (([Tk.wd "("] ++ toks x ++ [Tk.wd "and"] ++ toks y ++ [Tk.wd ")"]).flatMap tkWords)
    rw [words_pair, pair_join _ _ _ (words_ne x) (words_ne y), line_words x, line_words y]
  | .either x y => by
    show "( " ++ lineOf x ++ " " ++ "or" ++ " " ++ lineOf y ++ " )" = Str.join sp (([Tk.wd "("] ++ toks x ++ [Tk.wd "or"] ++ toks y ++ [Tk.wd ")"]).flatMap tkWords)
    rw [words_pair, pair_join _ _ _ (words_ne x) (words_ne y), line_words x, line_words y]
  | .but x y => by
    show "( " ++ lineOf x ++ " " ++ "but" ++ " " ++ lineOf y ++ " )" = Str.join sp (([Tk.wd "("] ++ toks x ++ [Tk.wd "but"] ++ toks y ++ [Tk.wd ")"]).flatMap tkWords)
    rw [words_pair, pair_join _ _ _ (words_ne x) (words_ne y), line_words x, line_words y]
  | .moved x y => by
    show "( " ++ lineOf x ++ " " ++ "off" ++ " " ++ lineOf y ++ " )" = Str.join sp (([Tk.wd "("] ++ toks x ++ [Tk.wd "off"] ++ toks y ++ [Tk.wd ")"]).flatMap tkWords)
    rw [words_pair, pair_join _ _ _ (words_ne x) (words_ne y), line_words x, line_words y]
theorem num_nat (m : Nat) : (num (m : Int)).cps.toList = (Nat.toDigits 10 m).map Char.toNat := by
  have e : toString ((m : Nat) : Int) = Nat.repr m := rfl
  unfold num
  rw [e, Str.ofString_eq_toList, Nat.toList_repr]
theorem num_neg (m : Nat) : (num (-((m + 1 : Nat) : Int))).cps.toList = 45 :: (Nat.toDigits 10 (m + 1)).map Char.toNat := by
  have e : toString (-((m + 1 : Nat) : Int)) = "-" ++ Nat.repr (m + 1) := rfl
  unfold num
  rw [e, Str.ofString_eq_toList, String.toList_append, List.map_append, Nat.toList_repr]
  rfl
theorem digit_of {m c : Nat} (h : c ∈ (Nat.toDigits 10 m).map Char.toNat) : 48 ≤ c ∧ c ≤ 57 := by
  obtain ⟨d, hd, rfl⟩ := List.mem_map.mp h
  have h1 := Nat.isDigit_of_mem_toDigits (by decide) (by decide) hd
  simp only [Char.isDigit, Bool.and_eq_true, decide_eq_true_eq] at h1
  exact ⟨h1.1, h1.2⟩
theorem num_free (i : Int) : 32 ∉ (num i).cps.toList := by
  intro h
  rcases Int.eq_nat_or_neg i with ⟨m, rfl | rfl⟩
  · rw [num_nat] at h
    have := digit_of h
    omega
  · cases m with
    | zero =>
      rw [show -((0 : Nat) : Int) = ((0 : Nat) : Int) from rfl, num_nat] at h
      have := digit_of h
      omega
    | succ m =>
      rw [num_neg] at h
      rcases List.mem_cons.mp h with h | h
      · omega
      · have := digit_of h
        omega
theorem words_free : ∀ (r : Rule), ∀ w ∈ words r, 32 ∉ w.cps.toList := by
  have pl : ∀ (r : Rule), ∀ w ∈ plainWords r, 32 ∉ w.cps.toList := by
    intro r w hw
    cases r with
    | every m s =>
      simp only [plainWords, List.mem_cons, List.mem_nil_iff, or_false] at hw
      rcases hw with rfl | rfl | rfl | rfl
      · decide +kernel
      · exact num_free _
      · decide +kernel
      · exact num_free _
    | date d =>
      simp only [plainWords, List.mem_cons, List.mem_nil_iff, or_false] at hw
      rcases hw with rfl | rfl
      · decide +kernel
      · exact num_free _
    | nth x k =>
      simp only [plainWords, List.mem_cons, List.mem_nil_iff, or_false] at hw
      rcases hw with rfl | rfl | rfl | rfl
      · decide +kernel
      · exact num_free _
      · decide +kernel
      · exact num_free _
    | _ => simp [plainWords] at hw
  have pair : ∀ (c : Str) (x y : Rule), 32 ∉ c.cps.toList → (∀ w ∈ words x, 32 ∉ w.cps.toList) → (∀ w ∈ words y, 32 ∉ w.cps.toList) → ∀ w ∈ ([Tk.wd "("] ++ toks x ++ [Tk.wd c] ++ toks y ++ [Tk.wd ")"]).flatMap tkWords, 32 ∉ w.cps.toList := by
    intro c x y hc hx hy w hw
    rw [words_pair] at hw
    simp only [List.mem_append, List.mem_singleton] at hw
    rcases hw with (((rfl | hw) | rfl) | hw) | rfl
    · decide +kernel
    · exact hx w hw
    · exact hc
    · exact hy w hw
    · decide +kernel
  intro r
  induction r with
  | every m s => intro w hw; exact pl (.every m s) w (by simpa [words, toks, tkWords] using hw)
  | date d => intro w hw; exact pl (.date d) w (by simpa [words, toks, tkWords] using hw)
  | nth x k => intro w hw; exact pl (.nth x k) w (by simpa [words, toks, tkWords] using hw)
  | both x y hx hy => exact pair "and" x y (by decide +kernel) hx hy
  | either x y hx hy => exact pair "or" x y (by decide +kernel) hx hy
  | but x y hx hy => exact pair "but" x y (by decide +kernel) hx hy
  | moved x y hx hy => exact pair "off" x y (by decide +kernel) hx hy
theorem split_line (r : Rule) : Txt.split (lineOf r) sp = words r := by
  rw [line_words]
  exact split_join (words_ne r) (words_free r)
end Fd
set_option Elab.async false
set_option linter.all false
set_option maxRecDepth 100000
namespace Fd
open PySem
theorem len_app (a b : Str) : (a ++ b).length = a.length + b.length := Str.length_append a b
theorem num_len {i : Int} (h : -(10 ^ 62) < i ∧ i < 10 ^ 62) : (num i).length ≤ 63 := by
  have e : ∀ s : Str, s.length = s.cps.toList.length := fun s => by simp [Str.length]
  have d : ∀ m : Nat, m < 10 ^ 62 → (Nat.toDigits 10 m).length ≤ 62 := fun m hm => PyProof.Rows.digits10_le (by decide) hm
  rw [e]
  have p : (10 : Int) ^ 62 = ((10 ^ 62 : Nat) : Int) := by norm_cast
  rw [p] at h
  rcases Int.eq_nat_or_neg i with ⟨m, rfl | rfl⟩
  · rw [num_nat, List.length_map]
    have := d m (by omega)
    omega
  · cases m with
    | zero =>
      rw [show -((0 : Nat) : Int) = ((0 : Nat) : Int) from rfl, num_nat, List.length_map]
      have := d 0 (by decide)
      omega
    | succ m =>
      rw [num_neg, List.length_cons, List.length_map]
      have := d (m + 1) (by omega)
      omega
def Low : Rule → Prop
  | .every m s => (-(10 ^ 62) < m ∧ m < 10 ^ 62) ∧ (-(10 ^ 62) < s ∧ s < 10 ^ 62)
  | .date d => -(10 ^ 62) < d ∧ d < 10 ^ 62
  | .nth x k => (-(10 ^ 62) < x ∧ x < 10 ^ 62) ∧ (-(10 ^ 62) < k ∧ k < 10 ^ 62)
  | .both x y => Low x ∧ Low y
  | .either x y => Low x ∧ Low y
  | .but x y => Low x ∧ Low y
  | .moved x y => Low x ∧ Low y
theorem low_of : ∀ {r : Rule}, Good r → Near r → Low r
  | .every m s, g, n => by
    have g : 1 ≤ m ∧ m ≤ 60 := g
    have n : -(10 ^ 61) < s ∧ s < 10 ^ 61 := n
    exact ⟨⟨by omega, by omega⟩, by omega, by omega⟩
  | .date d, g, _ => by
    have g : (1 ≤ d ∧ d ≤ 37) ∨ (-37 ≤ d ∧ d ≤ -1) := g
    exact ⟨by omega, by omega⟩
  | .nth x k, g, _ => by
    have g : ((1 ≤ x ∧ x ≤ 5) ∨ (-5 ≤ x ∧ x ≤ -1)) ∧ 0 ≤ k ∧ k < 9 := g
    exact ⟨⟨by omega, by omega⟩, by omega, by omega⟩
  | .both _ _, g, n => ⟨low_of g.1 n.1, low_of g.2 n.2⟩
  | .either _ _, g, n => ⟨low_of g.1 n.1, low_of g.2 n.2⟩
  | .but _ _, g, n => ⟨low_of g.1 n.1, low_of g.2 n.2⟩
  | .moved _ _, g, n => ⟨low_of g.1 n.1, low_of g.2 n.2⟩
theorem line_len : ∀ {r : Rule}, Low r → (lineOf r).length ≤ 200 * size r
  | .every m s, h => by
    show ("every " ++ num m ++ " from " ++ num s : Str).length ≤ 200 * 1
    have h1 := num_len h.1
    have h2 := num_len h.2
    have a : ("every " : Str).length = 6 := by decide +kernel
    have b : (" from " : Str).length = 6 := by decide +kernel
    simp only [len_app, a, b]
    omega
  | .date d, h => by
    show ("date " ++ num d : Str).length ≤ 200 * 1
    have h1 := num_len h
    have a : ("date " : Str).length = 5 := by decide +kernel
    simp only [len_app, a]
    omega
  | .nth x k, h => by
    show ("nth " ++ num x ++ " weekday " ++ num k : Str).length ≤ 200 * 1
    have h1 := num_len h.1
    have h2 := num_len h.2
    have a : ("nth " : Str).length = 4 := by decide +kernel
    have b : (" weekday " : Str).length = 9 := by decide +kernel
    simp only [len_app, a, b]
    omega
  | .both x y, h => by
    show ("( " ++ lineOf x ++ " " ++ "and" ++ " " ++ lineOf y ++ " )" : Str).length ≤ 200 * (size x + size y + 1)
    have h1 := line_len h.1
    have h2 := line_len h.2
    have a : ("( " : Str).length = 2 ∧ (" " : Str).length = 1 ∧ ("and" : Str).length = 3 ∧ (" )" : Str).length = 2 := by decide +kernel
    simp only [len_app, a]
    omega
  | .either x y, h => by
    show ("( " ++ lineOf x ++ " " ++ "or" ++ " " ++ lineOf y ++ " )" : Str).length ≤ 200 * (size x + size y + 1)
    have h1 := line_len h.1
    have h2 := line_len h.2
    have a : ("( " : Str).length = 2 ∧ (" " : Str).length = 1 ∧ ("or" : Str).length = 2 ∧ (" )" : Str).length = 2 := by decide +kernel
    simp only [len_app, a]
    omega
  | .but x y, h => by
    show ("( " ++ lineOf x ++ " " ++ "but" ++ " " ++ lineOf y ++ " )" : Str).length ≤ 200 * (size x + size y + 1)
    have h1 := line_len h.1
    have h2 := line_len h.2
    have a : ("( " : Str).length = 2 ∧ (" " : Str).length = 1 ∧ ("but" : Str).length = 3 ∧ (" )" : Str).length = 2 := by decide +kernel
    simp only [len_app, a]
    omega
  | .moved x y, h => by
    show ("( " ++ lineOf x ++ " " ++ "off" ++ " " ++ lineOf y ++ " )" : Str).length ≤ 200 * (size x + size y + 1)
    have h1 := line_len h.1
    have h2 := line_len h.2
    have a : ("( " : Str).length = 2 ∧ (" " : Str).length = 1 ∧ ("off" : Str).length = 3 ∧ (" )" : Str).length = 2 := by decide +kernel
    simp only [len_app, a]
    omega
inductive Sk
  | ru (r : Rule)
  | wd (s : Str)
def pairOf (w : Str) (x y : Rule) : Option Rule :=
  if w = "and" then some (.both x y) else if w = "or" then some (.either x y) else if w = "but" then some (.but x y) else if w = "off" then some (.moved x y) else none
def step (st : List Sk) : Tk → Option (List Sk)
  | .pl r => some (.ru r :: st)
  | .wd s => if s = ")" then
      match st with
      | .ru y :: .wd w :: .ru x :: .wd o :: st' => if o = "(" then (pairOf w x y).map fun r => .ru r :: st' else none
      | _ => none
    else some (.wd s :: st)
def run : List Sk → List Tk → Option (List Sk)
  | st, [] => some st
  | st, t :: ts => (step st t).bind fun st' => run st' ts
theorem run_app : ∀ (a b : List Tk) (st : List Sk), run st (a ++ b) = (run st a).bind fun st' => run st' b
  | [], b, st => rfl
  | t :: a, b, st => by
    show (step st t).bind (fun st' => run st' (a ++ b)) = ((step st t).bind fun st' => run st' a).bind fun st' => run st' b
    cases step st t with
    | none => rfl
    | some st' => exact run_app a b st'
theorem run_pair {w : Str} {x y r : Rule} {st : List Sk} (hw : pairOf w x y = some r) (hn : w ≠ ")") (hx : ∀ st, run st (toks x) = some (.ru x :: st)) (hy : ∀ st, run st (toks y) = some (.ru y :: st)) :
    run st ([Tk.wd "("] ++ toks x ++ [Tk.wd w] ++ toks y ++ [Tk.wd ")"]) = some (.ru r :: st) := by
  have r1 : ∀ st t, run st [t] = step st t := fun st t => by
    show (step st t).bind (fun st' => some st') = step st t
    cases step st t <;> rfl
  have o : step st (Tk.wd "(") = some (.wd "(" :: st) := by
    have h : ("(" : Str) ≠ ")" := by decide +kernel
    simp [step, h]
  have m : ∀ st, step st (Tk.wd w) = some (.wd w :: st) := fun st => by simp [step, hn]
  have c : step (.ru y :: .wd w :: .ru x :: .wd "(" :: st) (Tk.wd ")") = some (.ru r :: st) := by simp [step, hw]
  rw [run_app, run_app, run_app, run_app, r1, o]
  dsimp only [Option.bind]
  rw [hx]
  dsimp only [Option.bind]
  rw [r1, m]
  dsimp only [Option.bind]
  rw [hy]
  dsimp only [Option.bind]
  rw [r1, c]
theorem run_toks : ∀ (r : Rule) (st : List Sk), run st (toks r) = some (.ru r :: st) := by
  intro r
  induction r with
  | every m s => exact fun _ => rfl
  | date d => exact fun _ => rfl
  | nth x k => exact fun _ => rfl
  | both x y hx hy => exact fun st => run_pair (r := .both x y) (by unfold pairOf; rw [if_pos rfl]) (by decide +kernel) hx hy
  | either x y hx hy => exact fun st => run_pair (r := .either x y) (by unfold pairOf; rw [if_neg (by decide +kernel), if_pos rfl]) (by decide +kernel) hx hy
  | but x y hx hy => exact fun st => run_pair (r := .but x y) (by unfold pairOf; rw [if_neg (by decide +kernel), if_neg (by decide +kernel), if_pos rfl]) (by decide +kernel) hx hy
  | moved x y hx hy => exact fun st => run_pair (r := .moved x y) (by unfold pairOf; rw [if_neg (by decide +kernel), if_neg (by decide +kernel), if_neg (by decide +kernel), if_pos rfl]) (by decide +kernel) hx hy
theorem run_steps {ts : List Tk} {st fin : List Sk} (h : run st ts = some fin) {i : Nat} {t : Tk} (ht : ts[i]? = some t) : ∃ a b, run st (ts.take i) = some a ∧ step a t = some b ∧ run st (ts.take (i + 1)) = some b := by
  have e : ts = ts.take i ++ t :: ts.drop (i + 1) := by
    have hi : i < ts.length := by
      rcases Nat.lt_or_ge i ts.length with z | z
      · exact z
      · rw [List.getElem?_eq_none z] at ht; cases ht
    have h2 := List.drop_eq_getElem_cons hi
    rw [List.getElem?_eq_getElem hi] at ht
    rw [Option.some.inj ht] at h2
    rw [← h2, List.take_append_drop]
  rw [e, run_app] at h
  cases ha : run st (ts.take i) with
  | none => rw [ha] at h; cases h
  | some a =>
    rw [ha] at h
    have h : (step a t).bind (fun st' => run st' (ts.drop (i + 1))) = some fin := h
    cases hb : step a t with
    | none => rw [hb] at h; cases h
    | some b =>
      refine ⟨a, b, rfl, hb, ?_⟩
      have e2 : ts.take (i + 1) = ts.take i ++ [t] := by rw [List.take_succ, ht]; rfl
      rw [e2, run_app, ha]
      show (step a t).bind (fun st' => some st') = some b
      rw [hb]
      rfl
def valOf (cs : List Nat) : Nat := cs.foldl (fun acc c => acc * 10 + (c - 48)) 0
theorem val_digits (m : Nat) : valOf ((Nat.toDigits 10 m).map Char.toNat) = m := PySem.W.KIN.val_back m
theorem head_digit {m : Nat} (h : 0 < m) : ∃ c r, (Nat.toDigits 10 m).map Char.toNat = c :: r ∧ c ≠ 48 := by
  induction m using Nat.strongRecOn with
  | _ m ih =>
    by_cases h10 : m < 10
    · rw [Nat.toDigits_of_lt_base h10]
      refine ⟨_, [], rfl, ?_⟩
      have : ∀ d : Nat, d < 10 → 0 < d → (Nat.digitChar d).toNat ≠ 48 := by decide
      exact this m h10 h
    · have hm : m % 10 < 10 := Nat.mod_lt m (by decide)
      have t : Nat.toDigits 10 (m / 10) ++ Nat.toDigits 10 (m % 10) = Nat.toDigits 10 (10 * (m / 10) + m % 10) := Nat.toDigits_append_toDigits (by decide) (by omega) hm
      rw [Nat.div_add_mod] at t
      obtain ⟨c, r, e, hc⟩ := ih (m / 10) (by omega) (by omega)
      refine ⟨c, r ++ (Nat.toDigits 10 (m % 10)).map Char.toNat, ?_, hc⟩
      rw [← t, List.map_append, e]
      rfl
end Fd
set_option Elab.async false
set_option linter.all false
set_option maxRecDepth 100000
namespace L3
open PySem PySem.Spec PyProof.Rows L2
open PyProof.Rows.KTD (TabOf Rows datumAt)
def rowsOf : List DictEntry → Option (List (Str × V))
  | [] => some []
  | e :: es => match e.key, absV e.val, rowsOf es with
    | .str x _, some v, some r => some ((x, v) :: r)
    | _, _, _ => none
theorem rel_abs : ∀ {u : Value} {x : V}, absV u = some x → RelV x u
  | .none, _, h => by cases h; rfl
  | .bool _, _, h => by cases h; rfl
  | .int _ t, _, h => by cases h; exact ⟨t, rfl⟩
  | .str _ t, _, h => by cases h; exact ⟨t, rfl⟩
  | .bytes _ t, _, h => by cases h; exact ⟨t, rfl⟩
  | .float _ t, _, h => by cases h; exact ⟨t, rfl⟩
  | .ref _, _, h => by cases h; rfl
  | .type _, _, h => by cases h; rfl
theorem rows_rel : ∀ {es : List DictEntry} {D : List (Str × V)}, rowsOf es = some D → Rows RelV es D
  | [], _, h => by cases h; exact .nil
  | e :: es, D, h => by
    unfold rowsOf at h
    split at h
    · rename_i x t v r h1 h2 h3
      cases h
      exact .cons h1 (rel_abs h2) (rows_rel h3)
    · cases h
def KDict (K : PySem.W.Frag) (a : Addr) (D : List (Str × V)) : Prop := (a == sysModules) = false ∧ ∃ (o : Obj) (es : Array DictEntry) (ep : Nat), K.lookup a = some o ∧ o.ExactDict ∧ o.data = .dict es ep ∧ rowsOf es.toList = some D
theorem KDict.tab {X : Cx} {pins : List (Addr × Obj)} {σ : L2.St} {H : Hp} {s : Shared} {a : Addr} {D : List (Str × V)} (I : Inv X pins σ H s) (k : KDict X.K a D) : TabOf RelV s.heap a D := by
  obtain ⟨h0, o, es, ep, h1, h2, h3, h4⟩ := k
  exact ⟨h0, o, es, ep, I.kIn a o h1, h2, h3, rows_rel h4⟩
section
variable {P : Program} {w : World} {A : Around} {E : Value → Shared → Prop} {s : Shared} {a : Addr} {D : List (Str × V)} {k : Str} {tk : Tok}
theorem tab_type (T : TabOf RelV s.heap a D) : s.TypeIs (.ref a) "dict" := by
  obtain ⟨_, o, _, _, h1, h2, _⟩ := T
  exact ⟨o, h1, h2.1⟩
theorem tab_find {Q : Option Value → Shared → Prop} (T : TabOf RelV s.heap a D) (yes : ∀ d v, datumAt k D = some d → RelV d v → Q (some v) { s with toks := s.toks + 1 }) (no : datumAt k D = none → Q none { s with toks := s.toks + 1 }) :
    wpAny (model P w) A (dictGet a (.str k tk)) Q E s := by
  obtain ⟨_, o, ⟨l⟩, ep, o1, o2, o3, rw1⟩ := T
  have got : Q ((l.find? fun e => e.key.isStr k).map (·.val)) { s with toks := s.toks + 1 } := by
    cases at1 : datumAt k D with
    | none => rw [rw1.find_none at1]; exact no at1
    | some d => obtain ⟨v, v1, v2⟩ := rw1.find_some at1; rw [v1]; exact yes d v at1 v2
  have got2 : Q (findBy (fun k v => v.isStr k) ⟨l⟩ k) { s with toks := s.toks + 1 } := by simpa [findBy] using got
  unfold dictGet; (try with_reducible refine wpAny_holding ?_)
  refine wpAny_bind (wpAny_pyHash_str (wpAny_bind (PyProof.Rows.KTD.kt_dictFind_strs (s := { s with toks := s.toks + 1 }) o1 o3 (by simpa using rw1.exact) ?_)))
  rw [findBy_of_findIdx?] at got2; revert got2
  cases (Array.findIdx? (fun e => e.key.isStr k) (⟨l⟩ : Array DictEntry)) with
  | some i => exact fun g => wpAny_bind (wpAny_dictEntries (s := { s with toks := s.toks + 1 }) o1 o3 (wpAny_pure g))
  | none => exact fun g => wpAny_pure g
theorem tab_item {Q : Value → Shared → Prop} {d : V} (T : TabOf RelV s.heap a D) (hd : datumAt k D = some d) (q : ∀ v, RelV d v → Q v { s with toks := s.toks + 1 }) : wpAny (model P w) A (getItem (.ref a) (.str k tk)) Q E s := by
  unfold getItem; (try with_reducible refine wpAny_holding ?_)
  refine wpAny_bind (wpAny_sequenceKey (tab_type T) (by decide) (wpAny_bind (wpAny_callSpecial?_slot (name := Str.ofString "__getitem__") (tab_type T) PySem.F.slot_dict_getitem (wpAny_call_entry PySem.F.slot_dict_getitem (tab_type T) PySem.F.entry_dict_getitem ?_ (PySem.F.args_dict_getitem_2 _ _)))))
  show wpAny _ _ (dictGet a (.str k tk) >>= fun _ => _) _ _ s
  refine wpAny_bind (tab_find T (fun d' v e1 r => ?_) fun e1 => ?_)
  · rw [hd] at e1; cases e1
    exact wpAny_pure ⟨v, rfl, wpAny_pure (q v r)⟩
  · rw [hd] at e1; cases e1
theorem tab_has {Q : Bool → Shared → Prop} (T : TabOf RelV s.heap a D) (q : Q (datumAt k D).isSome { s with toks := s.toks + 1 }) : wpAny (model P w) A (contains (.ref a) (.str k tk)) Q E s := by
  unfold contains; (try with_reducible refine wpAny_holding ?_); refine wpAny_bind (wpAny_specialOf (tab_type T) PySem.F.slot_dict_contains.lookup ?_)
  show wpAny _ _ (if (some (Value.builtin "dict.__contains__") == some Value.none) = true then _ else _) _ _ _; rw [if_neg (by rw [beq_builtin_none]; decide)]
  refine wpAny_bind (wpAny_callSpecialUnlessNone?_slot (name := Str.ofString "__contains__") (tab_type T) PySem.F.slot_dict_contains (wpAny_call_entry PySem.F.slot_dict_contains (tab_type T) PySem.F.entry_dict_contains ?_ (PySem.F.args_dict_contains_2 _ _)))
  show wpAny _ _ (dictGet a (.str k tk) >>= fun _ => _) _ _ s
  refine wpAny_bind (tab_find T (fun d' v e1 r => ?_) fun e1 => ?_)
  · rw [e1] at q
    show wpAny _ _ (ret (.bool true)) _ _ _; exact wpAny_pure ⟨_, rfl, wpAny_truthy_bool q⟩
  · rw [e1] at q
    show wpAny _ _ (Builtin.Dict.pendingKey? a (.str k tk) >>= fun _ => _) _ _ _; exact wpAny_bind (wpAny_pendingKey_other T.1 (wpAny_pure ⟨_, rfl, wpAny_truthy_bool q⟩))
end
section
variable {X : Cx} {o i : Expr} {td ty : TE} {pos : Pos}
def tKGet (K : PySem.W.Frag) (td ty : TE) : TE := fun σ H Q => td σ H fun x H1 => ty σ H1 fun y H2 => ∃ a k D d, x = .ref a ∧ y = .str k ∧ KDict K a D ∧ datumAt k D = some d ∧ Q d H2
def tKIn (K : PySem.W.Frag) (ty td : TE) : TE := fun σ H Q => ty σ H fun y H1 => td σ H1 fun x H2 => ∃ a k D, x = .ref a ∧ y = .str k ∧ KDict K a D ∧ Q (.bl (datumAt k D).isSome) H2
def tKNotIn (K : PySem.W.Frag) (ty td : TE) : TE := fun σ H Q => ty σ H fun y H1 => td σ H1 fun x H2 => ∃ a k D, x = .ref a ∧ y = .str k ∧ KDict K a D ∧ Q (.bl (!(datumAt k D).isSome)) H2
theorem pe_kget (ho : PE X o td) (hi : PE X i ty) (hs : NoSl i) : PE X (.Subscript o i pos) (tKGet X.K td ty) := by
  intro pins s σ H Q I h
  refine subD_of PySem.F.slot_dict_getitem.lookup hs (thn (ho pins s σ H _ I h) fun u s1 ⟨x, H1, I1, rx, q1⟩ => thn (hi pins s1 σ H1 _ I1 q1) fun iv s2 ⟨y, H2, I2, ry, a, k, D, d, ex, ey, kd, hd, q2⟩ => ?_)
  subst ex ey
  obtain rfl : u = Value.ref a := rx
  obtain ⟨t, rfl⟩ := ry
  have T := kd.tab I2
  exact ⟨tab_type T, tab_item T hd fun v r => ⟨d, H2, I2.tok _, r, q2⟩⟩
theorem pc_kin (hi : PE X i ty) (ho : PE X o td) : PC X .In i o (tKIn X.K ty td) := by
  intro pins s σ H Q I h
  refine thn (hi pins s σ H _ I h) fun iv s1 ⟨y, H1, I1, ry, q1⟩ => thn (ho pins s1 σ H1 _ I1 q1) fun u s2 ⟨x, H2, I2, rx, a, k, D, ex, ey, kd, q2⟩ => ?_
  subst ex ey
  obtain rfl : u = Value.ref a := rx
  obtain ⟨t, rfl⟩ := ry
  exact wpAny_bind (tab_has (kd.tab I2) (wpAny_pure ⟨.bl _, H2, I2.tok _, rfl, q2⟩))
theorem pc_knotin (hi : PE X i ty) (ho : PE X o td) : PC X .NotIn i o (tKNotIn X.K ty td) := by
  intro pins s σ H Q I h
  refine thn (hi pins s σ H _ I h) fun iv s1 ⟨y, H1, I1, ry, q1⟩ => thn (ho pins s1 σ H1 _ I1 q1) fun u s2 ⟨x, H2, I2, rx, a, k, D, ex, ey, kd, q2⟩ => ?_
  subst ex ey
  obtain rfl : u = Value.ref a := rx
  obtain ⟨t, rfl⟩ := ry
  exact wpAny_bind (tab_has (kd.tab I2) (wpAny_pure ⟨.bl _, H2, I2.tok _, rfl, q2⟩))
theorem mt_startswith : MtR X "str.startswith" (fun x vs H Q => ∃ z y, x = .str z ∧ vs = [.str y] ∧ Q (.bl (decide (0 + y.length ≤ z.length) && Builtin.Str.subAt z y 0)) H) := by
  intro pins s σ H x vs v us Q I rx rv h
  obtain ⟨z, y, rfl, rfl, q⟩ := h
  obtain ⟨t, rfl⟩ := rx
  obtain ⟨u, rfl, tu, rfl⟩ := rv.one
  exact call_gives PySem.F.slot_str_startswith (typeIs_str _ _ _) PySem.F.entry_str_startswith (PySem.F.args_str_startswith_2 _ _) (gives_str_startswith z y t tu) ⟨.bl _, H, I, rfl, q⟩
theorem vals_strs : ∀ l : List (Str × Tok), Vals ((l.map (·.1)).map V.str) (strValues l)
  | [] => .nil
  | p :: r => .cons ⟨p.2, rfl⟩ (vals_strs r)
theorem strs_vals : ∀ {ss : List Str} {us : List Value}, Vals (ss.map V.str) us → ∃ l : List (Str × Tok), us = strValues l ∧ l.map (·.1) = ss
  | [], _, .nil => ⟨[], rfl, rfl⟩
  | x :: ss, _, .cons r t => by
    obtain ⟨l, e1, e2⟩ := strs_vals t
    obtain ⟨tk, rfl⟩ := r
    exact ⟨(x, tk) :: l, by rw [e1]; rfl, by rw [List.map_cons, e2]⟩
theorem mt_split : MtR X "str.split" (fun x vs H Q => ∃ z y, x = .str z ∧ vs = [.str y] ∧ (y.length == 0) = false ∧ z.length + 2 ≤ sizeLine ∧ ∀ l, H l = none → Q (.ref l) (upd H l (.lst ((Txt.split z y).map V.str)))) := by
  intro pins s σ H x vs v us Q I rx rv h
  obtain ⟨z, y, rfl, rfl, hy, hz, q⟩ := h
  obtain ⟨t, rfl⟩ := rx
  obtain ⟨u, rfl, tu, rfl⟩ := rv.one
  have fin : ∀ (l : List (Str × Tok)) (tk : Nat), l.map (·.1) = Txt.split z y → EP X pins σ Q (.ref s.heap.objs.size) { s with heap := s.heap.push { cls := .type "list", data := .seq (strValues l).toArray }, toks := tk } := fun l tk e => by
    have hn := split_le z y
    refine ⟨.ref s.heap.objs.size, _, I.laid (t' := tk) (o := .lst ((Txt.split z y).map V.str)) (fun b u q => Heap.get?_push_of_some _ q) (Nat.le_refl _) ⟨?_, _, 0, e ▸ vals_strs l, Heap.get?_push_size _ rfl⟩, rfl, q _ (I.hok.fresh (Nat.le_refl _))⟩
    rw [List.length_map]; omega
  have hn : (Builtin.Str.partsBetween z (Builtin.Str.occurrences z y 0 z.length (z.length + 1)) y.length).length ≤ sizeLine := by
    have e1 := StrLaws.occ_length_le z y 0 z.length (z.length + 1); rw [length_partsBetween]; omega
  cases k1 : (decide (z.length < y.length) || decide (Builtin.Str.strKind z < Builtin.Str.strKind y)) with
  | true => exact call_meets PySem.F.slot_str_split (typeIs_str _ _ _) PySem.F.entry_str_split (PySem.F.args_str_split_2 _ _) (meets_str_split_cannot_occur z y t tu k1) (fin [(z, t)] s.toks (if_pos k1).symm)
  | false =>
    cases k2 : (Builtin.Str.occurrences z y 0 z.length (z.length + 1)).isEmpty with
    | true => exact call_meets PySem.F.slot_str_split (typeIs_str _ _ _) PySem.F.entry_str_split (PySem.F.args_str_split_2 _ _) (meets_str_split_not_found z y t tu k1 hy k2) (fin [(z, t)] s.toks ((if_neg (ne_true_of_eq_false k1)).trans (if_pos k2)).symm)
    | false =>
      refine call_meets PySem.F.slot_str_split (typeIs_str _ _ _) PySem.F.entry_str_split (PySem.F.args_str_split_2 _ _) (meets_str_split_sep z y t tu k1 hy k2 (by omega) hn) ?_
      show wants _ _ _ { s with toks := _, heap := s.heap.push { cls := .type "list", data := .seq (strsFrom s.toks (Builtin.Str.partsBetween z (Builtin.Str.occurrences z y 0 z.length (z.length + 1)) y.length)).toArray } }
      rw [strsFrom_eq]
      exact fin (numbered s.toks _) _ ((numbered_texts _ _).trans ((if_neg (ne_true_of_eq_false k1)).trans (if_neg (ne_true_of_eq_false k2))).symm)
theorem mt_join : MtR X "str.join" (fun x vs H Q => ∃ z l ss, x = .str z ∧ vs = [.ref l] ∧ SqL X.K H l (ss.map V.str) ∧ JoinOk z ss = true ∧ Q (.str (Txt.join z ss)) H) := by
  intro pins s σ H x vs v us Q I rx rv h
  obtain ⟨z, l, ss, rfl, rfl, hq, hj, q⟩ := h
  obtain ⟨t, rfl⟩ := rx
  obtain ⟨u, rfl, ru⟩ := rv.one
  cases ru
  obtain ⟨its, r, pl, _⟩ := I.list hq
  obtain ⟨ls, rfl, e2⟩ := strs_vals r
  exact SC.join pl.isList e2 hj fun t' k => ⟨.str _, H, I.tok _, ⟨_, rfl⟩, q⟩
theorem sl_str : SlR X (fun x lo hi H Q => ∃ z, x = .str z ∧ z.length ≤ sizeLine ∧ Q (.str (Txt.slice z lo hi)) H) := by
  intro pins s σ H x v vl vu lo hi sl Q I rx hs pl pu h
  obtain ⟨z, rfl, hz, q⟩ := h
  obtain ⟨t, rfl⟩ := rx
  obtain ⟨o, o1, o2, o3⟩ := hs
  have fin : ∀ t' k, EP X pins σ Q (.str (Txt.slice z lo hi) t') { s with toks := k } := fun t' k => ⟨.str _, H, I.tok _, ⟨_, rfl⟩, q⟩
  refine ⟨"str", _, PySem.F.slot_str_getitem.lookup, typeIs_str _ _ _, ?_⟩
  cases pl with
  | none =>
    cases pu with
    | none => exact wpAny_getItem_str_slice (l := none) (u := none) (st := none) ⟨o, o1, o2, o3⟩ rfl (post_val_or_str ⟨Nat.le_trans (Txt.slice_le z _ _) hz, fin⟩)
    | int j tj => exact wpAny_getItem_str_slice (l := none) (u := some (j, tj)) (st := none) ⟨o, o1, o2, o3⟩ rfl (post_val_or_str ⟨Nat.le_trans (Txt.slice_le z _ _) hz, fin⟩)
  | int i ti =>
    cases pu with
    | none => exact wpAny_getItem_str_slice (l := some (i, ti)) (u := none) (st := none) ⟨o, o1, o2, o3⟩ rfl (post_val_or_str ⟨Nat.le_trans (Txt.slice_le z _ _) hz, fin⟩)
    | int j tj => exact wpAny_getItem_str_slice (l := some (i, ti)) (u := some (j, tj)) (st := none) ⟨o, o1, o2, o3⟩ rfl (post_val_or_str ⟨Nat.le_trans (Txt.slice_le z _ _) hz, fin⟩)
theorem call_int_text : CallR X (.type "int") (fun xs H Q => ∃ z n, xs = [.str z] ∧ PySem.intText? z = some n ∧ z.length ≤ 640 ∧ Q (.int n) H) := by
  intro pins s σ H xs us Q I r h
  obtain ⟨z, n, rfl, hn, hl, q⟩ := h
  obtain ⟨u, rfl, t, rfl⟩ := vals1 r
  exact PySem.W.KIN.call_text hn hl ⟨.int n, H, I.tok _, ⟨_, rfl⟩, q⟩
end
end L3
set_option Elab.async false
set_option linter.all false
set_option maxRecDepth 100000
namespace L3
open PySem PySem.Spec PyProof.Rows L2
section
variable {X : Cx}
def rEqT (K : PySem.W.Frag) : R2 := fun x y H Q => ∃ z, y = .str z ∧ ((∃ u, x = .str u ∧ Q (.bl (decide (u = z))) H) ∨ ∃ a xs, x = .ref a ∧ SqT K H a xs ∧ Q (.bl false) H)
theorem op_eqT (hu : X.A.units < cLine) : OpR X (compareOp .Eq) (rEqT X.K) := by
  intro pins s σ H x y v u Q I rx ry h
  obtain ⟨z, rfl, h⟩ := h
  rcases h with ⟨x', rfl, q⟩ | ⟨a, xs, rfl, hq, q⟩
  · refine op_eq pins s σ H (.str x') (.str z) v u Q I rx ry ⟨rfl, ?_⟩
    have e : decide (V.str x' = V.str z) = decide (x' = z) := by by_cases h : x' = z <;> simp [h]
    rw [e]
    exact q
  · obtain ⟨t, rfl⟩ := ry
    cases rx
    obtain ⟨its, r, pl, hz⟩ := I.tuple hq
    exact SeqAt.RcAt.tuple_str z t (show s.heap.IsTuple a its.toArray from pl) hu X.prog X.w _ _ ⟨.bl false, H, I, rfl, q⟩
def neqV : List V → List V → Bool
  | [], [] => false
  | x :: xs, y :: ys => !eqV x y || neqV xs ys
  | _, _ => true
def rNeL (K : PySem.W.Frag) : R2 := fun x y H Q => ∃ p b xs ys, x = .ref p ∧ y = .ref b ∧ SqL K H p xs ∧ SqL K H b ys ∧ xs.all flatV = true ∧ ys.all flatV = true ∧ Q (.bl (neqV xs ys)) H
theorem neqV_len : ∀ {xs ys : List V}, xs.length ≠ ys.length → neqV xs ys = true
  | [], [], h => absurd rfl h
  | [], _ :: _, _ => rfl
  | _ :: _, [], _ => rfl
  | x :: xs, y :: ys, h => by
    have : xs.length ≠ ys.length := fun e => h (by simp [e])
    simp [neqV, neqV_len this]
theorem neqV_all : ∀ {xs ys : List V} (e : Nat → Bool) (k : Nat), xs.length = ys.length → (∀ j x y, xs[j]? = some x → ys[j]? = some y → e (k + j) = eqV x y) → neqV xs ys = !((List.range xs.length).all fun j => e (k + j))
  | [], [], _, _, _, _ => rfl
  | [], _ :: _, _, _, h, _ => by simp at h
  | _ :: _, [], _, _, h, _ => by simp at h
  | x :: xs, y :: ys, e, k, h, he => by
    have ih := neqV_all (xs := xs) (ys := ys) e (k + 1) (by simpa using h) (fun j a b h1 h2 => by
      have := he (j + 1) a b (by simpa using h1) (by simpa using h2)
      rw [← this]
      congr 1
      omega)
    have h0 := he 0 x y rfl rfl
    rw [List.length_cons, List.range_succ_eq_map, List.all_cons, List.all_map]
    show (!eqV x y || neqV xs ys) = _
    rw [ih, ← h0, Bool.not_and]
    congr 1
    congr 1
    refine List.all_congr rfl fun j => ?_
    show e (k + 1 + j) = e (k + (j + 1))
    congr 1
    omega
theorem op_neL (hu : X.A.units < cLine) : OpR X (compareOp .NotEq) (rNeL X.K) := by
  intro pins s σ H x y v u Q I rx ry h
  obtain ⟨p, b, xs, ys, rfl, rfl, hq, hb, fx, fy, q⟩ := h
  cases rx
  cases ry
  obtain ⟨its, r1, pl, hz⟩ := I.list hq
  obtain ⟨its2, r2, pl2, hz2⟩ := I.list hb
  have l1 := r1.length
  have l2 := r2.length
  by_cases hl : xs.length = ys.length
  · have e := neqV_all (xs := xs) (ys := ys) (fun j => match xs[j]?, ys[j]? with | some x, some y => eqV x y | _, _ => true) 0 hl (fun j x y h1 h2 => by simp [h1, h2])
    rw [e] at q
    have L := SeqAt.RcNeAt.lists (e := fun j => match xs[j]?, ys[j]? with | some x, some y => eqV x y | _, _ => true) pl.isList pl2.isList (by simp; omega) hu (fun j h1 h2 => ?_) X.prog X.w X.xe (EP X pins σ Q) ?_
    · exact L
    · have h1' : j < xs.length := by simp at h1; omega
      have h2' : j < ys.length := by simp at h2; omega
      obtain ⟨w1, g1, k1⟩ := r1.get (List.getElem?_eq_getElem h1')
      obtain ⟨w2, g2, k2⟩ := r2.get (List.getElem?_eq_getElem h2')
      have e1 : its.toArray[j] = w1 := by
        have := List.getElem?_eq_getElem (show j < its.length by simpa using h1)
        rw [g1] at this
        simpa using (Option.some.inj this).symm
      have e2 : its2.toArray[j] = w2 := by
        have := List.getElem?_eq_getElem (show j < its2.length by simpa using h2)
        rw [g2] at this
        simpa using (Option.some.inj this).symm
      rw [e1, e2, List.getElem?_eq_getElem h1', List.getElem?_eq_getElem h2']
      exact eqAt_V k1 k2 (List.all_eq_true.mp fx _ (List.getElem_mem h1')) (List.all_eq_true.mp fy _ (List.getElem_mem h2'))
    · have e3 : its.toArray.size = xs.length := by simp; omega
      rw [e3]
      simp only [Nat.zero_add] at q
      exact ⟨.bl _, H, I, rfl, q⟩
  · rw [neqV_len hl] at q
    exact SeqAt.RcNeAt.lists_lengths pl.isList pl2.isList (by simp; omega) hu X.prog X.w _ _ ⟨.bl true, H, I, rfl, q⟩
def PF (X : Cx) (e : Expr) (t : TE) : Prop := ∀ (pins : List (Addr × Obj)) (s : Shared) (σ : L2.St) (H : Hp) (Q : VK), Inv X pins σ H s → t σ H Q → wpAny (model X.prog X.w) X.A (eval e X.env) (EP X pins σ Q) X.xe s
def tFmt (te : TE) : TE := fun σ H Q => te σ H fun v H1 => ∃ z, v = .str z ∧ z.length ≤ sizeLine ∧ Q (.str z) H1
theorem pf_val {e : Expr} {te : TE} {pos : Pos} (h : PE X e te) : PE X (.FormattedValue e (-1) none pos) (tFmt te) := by
  intro pins s σ H Q I hq
  refine FormattedValue_plain (thn (h pins s σ H _ I hq) fun u s1 ⟨x, H1, I1, r1, z, e, hz, q⟩ => ?_)
  subst e
  obtain ⟨t, rfl⟩ := r1
  exact formatField_str (fun t' tk => ⟨.str z, H1, I1.tok tk, ⟨t', rfl⟩, q⟩) hz
def tJoin : List TE → Str → TE
  | [], acc => fun _ H Q => acc.length ≤ sizeLine ∧ Q (.str acc) H
  | t :: ts, acc => fun σ H Q => t σ H fun v H1 => ∃ y, v = .str y ∧ (acc ++ y).length ≤ sizeLine ∧ tJoin ts (acc ++ y) σ H1 Q
inductive PEs (X : Cx) : List Expr → List TE → Prop
  | nil : PEs X [] []
  | cons {e : Expr} {t : TE} {es : List Expr} {ts : List TE} : PE X e t → PEs X es ts → PEs X (e :: es) (t :: ts)
theorem join_parts {es : List Expr} {ts : List TE} (h : PEs X es ts) : ∀ (acc : Str) (pins : List (Addr × Obj)) (s : Shared) (σ : L2.St) (H : Hp) (Q : VK), Inv X pins σ H s → tJoin ts acc σ H Q →
    wpAny (model X.prog X.w) X.A (joinParts acc (evalEach es X.env)) (EP X pins σ Q) X.xe s := by
  induction h with
  | nil => exact fun acc pins s σ H Q I q => joinParts_nil ⟨.str acc, H, I.tok _, ⟨_, rfl⟩, q.2⟩ q.1
  | cons hp _ ih =>
    intro acc pins s σ H Q I q
    refine joinParts_cons (thn (hp pins s σ H _ I q) fun u s1 ⟨x, H1, I1, r1, y, e, hz, q1⟩ => ?_)
    subst e
    obtain ⟨t, rfl⟩ := r1
    exact ⟨hz, ih _ pins s1 σ H1 Q I1 q1⟩
theorem pe_fstr {a b : Expr} {es : List Expr} {ta tb : TE} {ts : List TE} {pos : Pos} (h : PEs X (a :: b :: es) (ta :: tb :: ts)) : PE X (.JoinedStr (a :: b :: es) pos) (tJoin (ta :: tb :: ts) Str.empty) := fun pins s σ H Q I q => JoinedStr_many (join_parts h Str.empty pins s σ H Q I q)
end
end L3
set_option Elab.async false
set_option linter.all false
set_option maxRecDepth 100000
namespace L3
open PySem PySem.Spec PyProof.Rows L2
section
variable {P : Program} {w : World} {A : Around} {E : Value → Shared → Prop} {s : Shared}
theorem nextT_item {it a : Addr} {i : Nat} {its : Array Value} {x : Value} {Q : Value → Shared → Prop} (hi : s.heap.IsTupleIter it a i) (ha : s.heap.IsTuple a its) (hx : its[i]? = some x)
    (q : ∀ h', h'.IsTupleIter it a (i + 1) → Heap.SameBut it s.heap h' → Q x { s with heap := h' }) : wpAny (model P w) A (Builtin.SmallTypes.nextOf (.ref it)) Q E s := by
  obtain ⟨o, o1, o2, o3⟩ := id hi
  obtain ⟨oa, a1, _, n, a3⟩ := ha
  unfold Builtin.SmallTypes.nextOf
  refine wpAny_bind (wpAny_callSpecial?_slot (name := Str.ofString "__next__") hi.typeIs PySem.F.slot_tuple_iterator_next (wpAny_call_entry PySem.F.slot_tuple_iterator_next hi.typeIs PySem.F.entry_tuple_iterator_next ?_ (PySem.F.args_tuple_iterator_next_1 _)))
  show wpAny _ _ (field (.ref it) 0 >>= fun _ => _) _ _ s
  refine wpAny_bind (wpAny_field o1 o3 (x := .ref a) rfl ?_)
  show wpAny _ _ (if (Value.ref a == Value.none) = true then _ else _) _ _ _; rw [if_neg (show ¬ ((Value.ref a == Value.none) = true) from fun z => Bool.false_ne_true z)]
  show wpAny _ _ (field (.ref it) 1 >>= fun _ => _) _ _ s
  refine wpAny_bind (wpAny_field o1 o3 (x := .int i 0) rfl ?_)
  show wpAny _ _ (seqItems? (.ref a) >>= fun _ => _) _ _ s
  refine wpAny_bind (wpAny_seqItems a1 a3 ?_); simp only [Int.toNat_natCast, hx]
  refine wpAny_bind (wpAny_setField o1 o3 (by simp) (wpAny_pure ⟨x, rfl, wpAny_pure (q _ ⟨_, Heap.get?_update_self _ o1 (Obj.isFreed_of_fields (Obj.data_mapFields o3 _)), (Obj.cls_mapFields ..).trans o2, ?_⟩ (Heap.SameBut.update ..))⟩))
  rw [Obj.data_mapFields o3]; simp [rawInt]
theorem nextT_end {it a : Addr} {i : Nat} {its : Array Value} {Q : Value → Shared → Prop} (hh : A.handled = none) (hi : s.heap.IsTupleIter it a i) (ha : s.heap.IsTuple a its) (hx : its[i]? = none)
    (q : ∀ h' e, Heap.ExtBut it s.heap h' → (∃ o, h'.get? e = some o ∧ o.cls = .type "StopIteration") → E (.ref e) { s with heap := h' }) : wpAny (model P w) A (Builtin.SmallTypes.nextOf (.ref it)) Q E s := by
  obtain ⟨o, o1, o2, o3⟩ := id hi
  obtain ⟨oa, a1, _, n, a3⟩ := ha
  unfold Builtin.SmallTypes.nextOf
  refine wpAny_bind (wpAny_callSpecial?_slot (name := Str.ofString "__next__") hi.typeIs PySem.F.slot_tuple_iterator_next (wpAny_call_entry PySem.F.slot_tuple_iterator_next hi.typeIs PySem.F.entry_tuple_iterator_next ?_ (PySem.F.args_tuple_iterator_next_1 _)))
  show wpAny _ _ (field (.ref it) 0 >>= fun _ => _) _ _ s
  refine wpAny_bind (wpAny_field o1 o3 (x := .ref a) rfl ?_)
  show wpAny _ _ (if (Value.ref a == Value.none) = true then _ else _) _ _ _; rw [if_neg (show ¬ ((Value.ref a == Value.none) = true) from fun z => Bool.false_ne_true z)]
  show wpAny _ _ (field (.ref it) 1 >>= fun _ => _) _ _ s
  refine wpAny_bind (wpAny_field o1 o3 (x := .int i 0) rfl ?_)
  show wpAny _ _ (seqItems? (.ref a) >>= fun _ => _) _ _ s
  refine wpAny_bind (wpAny_seqItems a1 a3 ?_); simp only [Int.toNat_natCast, hx]
  refine wpAny_bind (wpAny_rule (wpAny_bind (wpAny_setField o1 o3 (by simp) ?_))); show wpAny _ _ (newExc (.type "StopIteration") [] >>= fun _ => _) _ _ _
  refine wpAny_bind ?_; simp only [newExc, newTuple]; refine wpAny_bind (wpAny_newObj_type ?_ (by size_fits))
  refine wpAny_bind (m := firstArgMember _ _) (wpAny_of_eq (a := Value.none) (by first | rfl | (simp only [firstArgMember] <;> rfl)) ?_); refine wpAny_newObj_type ?_ (by size_fits); simp only [raiseNew]
  refine wpAny_bind (wpAny_handled ?_); first | rw [show A.in1.handled = none from hh] | rw [hh]
  exact wpAny_bind (wpAny_pure (wpAny_throw (q _ _ (((Heap.SameBut.update ..).extBut.push _).push _) ⟨_, Heap.get?_push_size _ rfl, rfl⟩)))
theorem zipT_item {z TI TO i1 i2 l1 l2 : Addr} {k : Nat} {xs ys : Array Value} {x y a b : Value} {Q : Value → Shared → Prop} (D : ZipApart z TI TO i1 i2 l1 l2)
    (hz : IsZip s.heap z TI TO .none) (hI : IsPair s.heap TI (.ref i1) (.ref i2)) (hO : IsPair s.heap TO a b) (h1 : s.heap.IsTupleIter i1 l1 k) (h2 : s.heap.IsListIter i2 l2 k) (t1 : s.heap.IsTuple l1 xs) (t2 : s.heap.IsList l2 ys) (hx : xs[k]? = some x) (hy : ys[k]? = some y)
    (q : ∀ h', IsZip h' z TI TO (rawInt s.heap.objs.size) → IsPair h' TO x y → h'.IsTupleIter i1 l1 (k + 1) → h'.IsListIter i2 l2 (k + 1) → IsPair h' s.heap.objs.size x y →
      (∀ c o, c ≠ z → c ≠ TO → c ≠ i1 → c ≠ i2 → s.heap.get? c = some o → h'.get? c = some o) → Q (.ref s.heap.objs.size) { s with heap := h' }) :
    wpAny (model P w) A (Builtin.«zip.__next__» ⟨[.ref z], []⟩) (fun fin s' => ∃ v, fin = .done (.ret v) ∧ Q v s') E s := by
  show wpAny _ _ (field (.ref z) 2 >>= fun _ => _) _ _ _
  refine wpAny_bind (wpAny_field hz rfl (x := .bool false) rfl ?_); show wpAny _ _ (field (.ref z) 3 >>= fun _ => _) _ _ _
  refine wpAny_bind (wpAny_field hz rfl (x := .ref TI) rfl (wpAny_bind (wpAny_seqItems hI rfl ?_))); show wpAny _ _ (Builtin.SmallTypes.ownedTupleIsFree (.ref z) >>= fun _ => _) _ _ _
  refine wpAny_bind ?_; unfold Builtin.SmallTypes.ownedTupleIsFree
  refine wpAny_bind (wpAny_field hz rfl (x := .none) rfl (wpAny_pure ?_)); simp only [if_true]
  refine wpAny_bind (wpAny_rule (wpAny_bind (wpAny_field hz rfl (x := .ref TO) rfl (wpAny_bind (wpAny_setField_rec hz (by simp) fun g1 z1 e1 => ?_)))))
  replace z1 : IsZip g1 z TI TO .ellipsis := z1
  refine wpAny_bind ?_; simp only [List.zipIdx_cons, List.zipIdx_nil, List.forIn_cons, List.forIn_nil]
  refine wpAny_bind (wpAny_bind (wpAny_onRaise ?_)); show wpAny _ _ (Builtin.SmallTypes.nextOf (.ref i1) >>= fun _ => _) _ _ _
  refine wpAny_bind (nextT_item (h1.extBut e1.extBut D.i1z) (t1.extBut e1.extBut D.l1z) hx fun g2 i1' e2 => wpAny_pure ?_)
  have o2 : IsPair g2 TO a b := e2.extBut _ _ D.TOi1 (e1.extBut _ _ D.TOz hO)
  refine wpAny_bind (wpAny_seqItems o2 rfl (wpAny_bind (wpAny_updateSeq_pair o2 fun g3 o3 e3 => ?_)))
  replace o3 : IsPair g3 TO x b := o3
  refine wpAny_bind (wpAny_letGo (wpAny_pure (wpAny_bind (wpAny_bind (wpAny_onRaise ?_))))); show wpAny _ _ (Builtin.SmallTypes.nextOf (.ref i2) >>= fun _ => _) _ _ _
  refine wpAny_bind (wpAny_nextOf_list_item (((h2.extBut e1.extBut D.i2z).extBut e2.extBut D.i12.symm).extBut e3.extBut D.TOi2.symm) (((t2.extBut e1.extBut D.l2z).extBut e2.extBut D.l2i1).extBut e3.extBut D.l2TO) hy fun g4 i2' e4 => wpAny_pure ?_)
  have o4 : IsPair g4 TO x b := e4.extBut _ _ D.TOi2 o3
  refine wpAny_bind (wpAny_seqItems o4 rfl (wpAny_bind (wpAny_updateSeq_pair o4 fun g5 o5 e5 => ?_)))
  replace o5 : IsPair g5 TO x y := o5
  refine wpAny_bind (wpAny_letGo (wpAny_pure (wpAny_pure (wpAny_bind (wpAny_seqItems o5 rfl (wpAny_bind (wpAny_newTuple ?_)))))))
  have sz : g5.objs.size = s.heap.objs.size := by rw [e5.1, e4.1, e3.1, e2.1, e1.1]
  have z5 : IsZip g5 z TI TO .ellipsis := e5.extBut _ _ D.TOz.symm (e4.extBut _ _ D.i2z.symm (e3.extBut _ _ D.TOz.symm (e2.extBut _ _ D.i1z.symm z1)))
  have k5 : ∀ c o, c ≠ z → c ≠ TO → c ≠ i1 → c ≠ i2 → s.heap.get? c = some o → g5.get? c = some o := fun c o c1 c2 c3 c4 e => e5.extBut _ _ c2 (e4.extBut _ _ c4 (e3.extBut _ _ c2 (e2.extBut _ _ c3 (e1.extBut _ _ c1 e))))
  have i1'' : g5.IsTupleIter i1 l1 (k + 1) := ((i1'.extBut e3.extBut D.TOi1.symm).extBut e4.extBut D.i12).extBut e5.extBut D.TOi1.symm
  have i2'' : g5.IsListIter i2 l2 (k + 1) := i2'.extBut e5.extBut D.TOi2.symm
  have ltz : z < g5.objs.size := Heap.lt_size z5
  show wpAny _ _ (Builtin.SmallTypes.ownedTupleHandOut (.ref z) (.ref g5.objs.size) >>= fun _ => _) _ _ _
  refine wpAny_bind ?_; unfold Builtin.SmallTypes.ownedTupleHandOut
  have z6 : IsZip (g5.push { cls := .type "tuple", data := .seq #[x, y] }) z TI TO .ellipsis := Heap.get?_push_of_some _ z5
  refine wpAny_bind (wpAny_setField_rec z6 (by simp) fun g7 z7 e7 => ?_)
  replace z7 : IsZip g7 z TI TO (rawInt g5.objs.size) := z7
  refine wpAny_setField_rec z7 (by simp) fun g8 z8 e8 => ?_
  replace z8 : IsZip g8 z TI TO (rawInt g5.objs.size) := z8
  have up : ∀ c o, c ≠ z → g5.get? c = some o → g8.get? c = some o := fun c o c1 e => e8.extBut _ _ c1 (e7.extBut _ _ c1 (Heap.get?_push_of_some _ e))
  have t8 : IsPair g8 g5.objs.size x y := e8.extBut _ _ (Nat.ne_of_gt ltz) (e7.extBut _ _ (Nat.ne_of_gt ltz) (Heap.get?_push_size _ rfl))
  rw [sz] at z8 t8
  refine wpAny_pure ⟨_, rfl, ?_⟩
  show Q (.ref g5.objs.size) _; rw [sz]
  refine q g8 z8 (up _ _ D.TOz o5) ?_ (i2''.at fun o e => up _ o D.i2z e) t8 fun c o c1 c2 c3 c4 e => up c o c1 (k5 c o c1 c2 c3 c4 e)
  obtain ⟨o, b1, b2⟩ := i1''; exact ⟨o, up _ o D.i1z b1, b2⟩
theorem zipT_end {z TI TO i1 i2 l1 : Addr} {k : Nat} {xs : Array Value} {Q : Fin → Shared → Prop} (hh : A.handled = none) (n1 : i1 ≠ z) (n2 : l1 ≠ z)
    (hz : IsZip s.heap z TI TO .none) (hI : IsPair s.heap TI (.ref i1) (.ref i2)) (h1 : s.heap.IsTupleIter i1 l1 k) (t1 : s.heap.IsTuple l1 xs) (hx : xs[k]? = none)
    (q : ∀ h' e, (∀ c o, c ≠ z → c ≠ i1 → s.heap.get? c = some o → h'.get? c = some o) → (∃ o, h'.get? e = some o ∧ o.cls = .type "StopIteration") → E (.ref e) { s with heap := h' }) :
    wpAny (model P w) A (Builtin.«zip.__next__» ⟨[.ref z], []⟩) Q E s := by
  show wpAny _ _ (field (.ref z) 2 >>= fun _ => _) _ _ _
  refine wpAny_bind (wpAny_field hz rfl (x := .bool false) rfl ?_); show wpAny _ _ (field (.ref z) 3 >>= fun _ => _) _ _ _
  refine wpAny_bind (wpAny_field hz rfl (x := .ref TI) rfl (wpAny_bind (wpAny_seqItems hI rfl ?_))); show wpAny _ _ (Builtin.SmallTypes.ownedTupleIsFree (.ref z) >>= fun _ => _) _ _ _
  refine wpAny_bind ?_; unfold Builtin.SmallTypes.ownedTupleIsFree
  refine wpAny_bind (wpAny_field hz rfl (x := .none) rfl (wpAny_pure ?_)); simp only [if_true]
  refine wpAny_bind (wpAny_rule (wpAny_bind (wpAny_field hz rfl (x := .ref TO) rfl (wpAny_bind (wpAny_setField_rec hz (by simp) fun g1 z1 e1 => ?_)))))
  replace z1 : IsZip g1 z TI TO .ellipsis := z1
  refine wpAny_bind ?_; simp only [List.zipIdx_cons, List.zipIdx_nil, List.forIn_cons, List.forIn_nil]
  refine wpAny_bind (wpAny_bind (wpAny_onRaise ?_)); show wpAny _ _ (Builtin.SmallTypes.nextOf (.ref i1) >>= fun _ => _) _ _ _
  refine wpAny_bind (nextT_end hh (h1.extBut e1.extBut n1) (t1.extBut e1.extBut n2) hx fun g2 e e2 he => ?_)
  obtain ⟨oe, b1, b2⟩ := he
  have z2 : IsZip g2 z TI TO .ellipsis := e2 _ _ n1.symm z1
  have ne : e ≠ z := fun h => by rw [h, z2] at b1; cases b1; simp at b2
  exact wpAny_setField_rec z2 (by simp) fun g3 _ e3 => q g3 e (fun c o c1 c2 h => e3.extBut _ _ c1 (e2 _ _ c2 (e1.extBut _ _ c1 h))) ⟨oe, e3.extBut _ _ ne b1, b2⟩
theorem pyNextT_item {z TI TO i1 i2 l1 l2 : Addr} {k : Nat} {xs ys : Array Value} {x y a b : Value} {Q : Option Value → Shared → Prop} (D : ZipApart z TI TO i1 i2 l1 l2)
    (hz : IsZip s.heap z TI TO .none) (hI : IsPair s.heap TI (.ref i1) (.ref i2)) (hO : IsPair s.heap TO a b) (h1 : s.heap.IsTupleIter i1 l1 k) (h2 : s.heap.IsListIter i2 l2 k) (t1 : s.heap.IsTuple l1 xs) (t2 : s.heap.IsList l2 ys) (hx : xs[k]? = some x) (hy : ys[k]? = some y)
    (q : ∀ h', IsZip h' z TI TO (rawInt s.heap.objs.size) → IsPair h' TO x y → h'.IsTupleIter i1 l1 (k + 1) → h'.IsListIter i2 l2 (k + 1) → IsPair h' s.heap.objs.size x y →
      (∀ c o, c ≠ z → c ≠ TO → c ≠ i1 → c ≠ i2 → s.heap.get? c = some o → h'.get? c = some o) → Q (some (.ref s.heap.objs.size)) { s with heap := h' }) : wpAny (model P w) A (pyNext (.ref z)) Q E s := by
  have ty : s.TypeIs (.ref z) "zip" := ⟨_, hz, rfl⟩
  unfold pyNext
  refine wpAny_bind (wpAny_attempt (wpAny_callSpecial?_slot (name := Str.ofString "__next__") ty PySem.F.slot_zip_next (wpAny_call_entry PySem.F.slot_zip_next ty PySem.F.entry_zip_next (zipT_item D hz hI hO h1 h2 t1 t2 hx hy fun h' b1 b2 b3 b4 b5 b6 => wpAny_pure (q h' b1 b2 b3 b4 b5 b6)) (PySem.F.args_zip_next_1 _))))
theorem pyNextT_end {z TI TO i1 i2 l1 : Addr} {k : Nat} {xs : Array Value} {Q : Option Value → Shared → Prop} (hh : A.handled = none) (n1 : i1 ≠ z) (n2 : l1 ≠ z)
    (hz : IsZip s.heap z TI TO .none) (hI : IsPair s.heap TI (.ref i1) (.ref i2)) (h1 : s.heap.IsTupleIter i1 l1 k) (t1 : s.heap.IsTuple l1 xs) (hx : xs[k]? = none)
    (q : ∀ h', (∀ c o, c ≠ z → c ≠ i1 → s.heap.get? c = some o → h'.get? c = some o) → Q none { s with heap := h' }) : wpAny (model P w) A (pyNext (.ref z)) Q E s := by
  have ty : s.TypeIs (.ref z) "zip" := ⟨_, hz, rfl⟩
  unfold pyNext
  refine wpAny_bind (wpAny_attempt (wpAny_callSpecial?_slot (name := Str.ofString "__next__") ty PySem.F.slot_zip_next (wpAny_call_entry PySem.F.slot_zip_next ty PySem.F.entry_zip_next (zipT_end hh n1 n2 hz hI h1 t1 hx fun h' e b1 b2 => ?_) (PySem.F.args_zip_next_1 _))))
  obtain ⟨o, c1, c2⟩ := b2
  exact wpAny_bind (wpAny_isInstance (T := "StopIteration") (b := true) ⟨o, c1, c2⟩ isSubtype_stop (wpAny_pure (q _ b1)))
theorem call_zipT {l1 l2 : Addr} {xs ys : Array Value} {Q : Value → Shared → Prop} (t1 : s.heap.IsTuple l1 xs) (t2 : s.heap.IsList l2 ys)
    (q : ∀ h', IsZip h' (s.heap.objs.size + 4) (s.heap.objs.size + 2) (s.heap.objs.size + 3) .none → IsPair h' (s.heap.objs.size + 2) (.ref s.heap.objs.size) (.ref (s.heap.objs.size + 1)) →
      IsPair h' (s.heap.objs.size + 3) .none .none → h'.IsTupleIter s.heap.objs.size l1 0 → h'.IsListIter (s.heap.objs.size + 1) l2 0 →
      (∀ c o, s.heap.get? c = some o → h'.get? c = some o) → Q (.ref (s.heap.objs.size + 4)) { s with heap := h' }) : wpAny (model P w) A (call (.type "zip") [.ref l1, .ref l2]) Q E s := by
  let g1 : Heap := s.heap.push { cls := .type "tuple_iterator", data := .fields #[.ref l1, .int 0 0] }
  let g2 : Heap := g1.push { cls := .type "list_iterator", data := .fields #[.ref l2, .int 0 0] }
  let g3 : Heap := g2.push { cls := .type "tuple", data := .seq #[.ref s.heap.objs.size, .ref g1.objs.size] }
  let g4 : Heap := g3.push { cls := .type "tuple", data := .seq #[.none, .none] }
  let g5 : Heap := g4.push { cls := .type "zip", data := .fields #[.none, .bool false, .bool false, .ref g2.objs.size, .ref g3.objs.size] }
  have M : Meets (Builtin.«zip.__new__» ⟨[.type "zip", .ref l1, .ref l2], []⟩) (fun _ R s' => s' = s ∧ R (.ok (.ret (.ref g4.objs.size))) { s with heap := g5 }) := .of_wp fun P w A R s' h => by
    obtain ⟨rfl, h⟩ := h
    obtain ⟨hp, g, d, tk, os⟩ := s'
    have hsub := sub_zip
    have u1 : Heap.IsTuple (Shared.heap ⟨hp, g, d, tk, os⟩) l1 xs := t1
    have u2 : Heap.IsList (Shared.heap ⟨hp.push { cls := .type "tuple_iterator", data := .fields #[.ref l1, .int 0 0] }, g, d, tk, os⟩) l2 ys := Heap.IsList.push t2 _
    wp_walk using wpAny_pyIter_tuple u1, wpAny_pyIter_list u2
    exact ⟨_, rfl, h⟩
  refine callType_new PySem.F.called_zip (by decide) (PySem.F.typeCall_zip_2 _ _) (PySem.F.newCall_zip_2 _ _) (fun obj => PySem.F.args_object_init_3 obj _ _) PySem.F.entry_zip_new M ⟨rfl, ?_⟩
  have z1 : g1.objs.size = s.heap.objs.size + 1 := Heap.size_push ..
  have z2 : g2.objs.size = s.heap.objs.size + 2 := by rw [Heap.size_push, z1]
  have z3 : g3.objs.size = s.heap.objs.size + 3 := by rw [Heap.size_push, z2]
  have z4 : g4.objs.size = s.heap.objs.size + 4 := by rw [Heap.size_push, z3]
  have k5 : g5.get? g4.objs.size = some _ := Heap.get?_push_size _ rfl
  have k4 : g5.get? g3.objs.size = some _ := Heap.get?_push_of_some _ (Heap.get?_push_size _ rfl)
  have k3 : g5.get? g2.objs.size = some _ := Heap.get?_push_of_some _ (Heap.get?_push_of_some _ (Heap.get?_push_size _ rfl))
  have k2 : g5.get? g1.objs.size = some _ := Heap.get?_push_of_some _ (Heap.get?_push_of_some _ (Heap.get?_push_of_some _ (Heap.get?_push_size _ rfl)))
  have k1 : g5.get? s.heap.objs.size = some _ := Heap.get?_push_of_some _ (Heap.get?_push_of_some _ (Heap.get?_push_of_some _ (Heap.get?_push_of_some _ (Heap.get?_push_size _ rfl))))
  rw [z2, z3, z4] at k5
  rw [z1, z2] at k3
  rw [z3] at k4
  rw [z1] at k2
  show _ ∧ _
  rw [z4]
  exact ⟨⟨_, k5, rfl⟩, q _ k5 k3 k4 ⟨_, k1, rfl, rfl⟩ ⟨_, k2, rfl, rfl⟩ fun c o x => Heap.get?_push_of_some _ (Heap.get?_push_of_some _ (Heap.get?_push_of_some _ (Heap.get?_push_of_some _ (Heap.get?_push_of_some _ x))))⟩
end
def Itzt (K : PySem.W.Frag) (a b : Addr) (xs ys : List V) : It :=
  ⟨fun i H => SqT K H a xs ∧ SqL K H b ys ∧ i < xs.length ∧ i < ys.length, fun i H v H' => ∃ p x y, H p = none ∧ xs[i]? = some x ∧ ys[i]? = some y ∧ v = .ref p ∧ H' = upd H p (.tup [x, y]), fun i H => SqT K H a xs ∧ xs.length ≤ i⟩
theorem turn_zipT {P : Program} {w : World} {K : PySem.W.Frag} {elts : List Expr} {k1 : Nat} {pt : Pos} {z TI TO i1 i2 a b : Addr} {xs ys : List V} (DD : ZipApart z TI TO i1 i2 a b) :
    Turn P w K (.Tuple elts k1 pt) (Itzt K a b xs ys) [z, TI, TO, i1, i2] z (fun i h => IsZip h z TI TO .none ∧ IsPair h TI (.ref i1) (.ref i2) ∧ (∃ u v, IsPair h TO u v) ∧ h.IsTupleIter i1 a i ∧ h.IsListIter i2 b i) where
  mem := by simp
  obj := fun i h st c hc => by
    obtain ⟨hz, hTI, ⟨u, v, hTO⟩, h1, h2⟩ := st
    simp at hc
    rcases hc with rfl | rfl | rfl | rfl | rfl
    · exact ⟨_, hz, fun v z => by cases z⟩
    · exact ⟨_, hTI, fun v z => by cases z⟩
    · exact ⟨_, hTO, fun v z => by cases z⟩
    · obtain ⟨o, e, _, d⟩ := h1
      exact ⟨o, e, fun v z => by rw [d] at z; cases z⟩
    · obtain ⟨o, e, _, d⟩ := h2
      exact ⟨o, e, fun v z => by rw [d] at z; cases z⟩
  keep := fun i h h' st k => by
    obtain ⟨hz, hTI, ⟨u, v, hTO⟩, ⟨o1, e1, r1⟩, h2⟩ := st
    exact ⟨k z (by simp) _ hz, k TI (by simp) _ hTI, ⟨u, v, k TO (by simp) _ hTO⟩, ⟨o1, k i1 (by simp) o1 e1, r1⟩, h2.at fun o e => k i2 (by simp) o e⟩
  item := by
    intro X hP hw hK hc i pins s σ H E I hf st hg
    subst hP hw hK
    obtain ⟨hq1, hq2, l1, l2⟩ := hg
    obtain ⟨hz, hTI, ⟨u, v, hTO⟩, h1, h2⟩ := st
    obtain ⟨its1, rv1, p1, _⟩ := I.tuple hq1
    obtain ⟨its2, rv2, p2, _⟩ := I.list hq2
    obtain ⟨u1, hu1, ru1⟩ := rv1.get (List.getElem?_eq_getElem l1)
    obtain ⟨u2, hu2, ru2⟩ := rv2.get (List.getElem?_eq_getElem l2)
    refine pyNextT_item DD hz hTI hTO h1 h2 (show s.heap.IsTuple a its1.toArray from p1) p2.isList (x := u1) (y := u2) (by simpa using hu1) (by simpa using hu2) fun h' a1 a2 a3 a4 a5 hk => ?_
    refine ⟨_, rfl, wpAny_letOwnedTupleGo_zip a1 fun h'' hz'' hs'' => ?_⟩
    have lt : ∀ {c o}, s.heap.get? c = some o → s.heap.objs.size ≠ c := fun e => Nat.ne_of_gt (Heap.lt_size e)
    have kk : ∀ c o, c ∉ [z, TI, TO, i1, i2] → s.heap.get? c = some o → h''.get? c = some o := fun c o hc e => hs''.extBut c o (fun q => hc (by simp [q])) (hk c o (fun q => hc (by simp [q])) (fun q => hc (by simp [q])) (fun q => hc (by simp [q])) (fun q => hc (by simp [q])) e)
    refine ⟨.ref s.heap.objs.size, _, Inv.pair (s := s) (t' := s.toks) I hf kk (hs''.extBut _ _ (lt hz) a5) ru1 ru2, rfl, ⟨_, _, _, I.hok.fresh (Nat.le_refl _), List.getElem?_eq_getElem l1, List.getElem?_eq_getElem l2, rfl, rfl⟩,
      ⟨hz'', hs''.extBut _ _ DD.TIz (hk _ _ DD.TIz DD.TITO DD.TIi1 DD.TIi2 hTI), ⟨_, _, hs''.extBut _ _ DD.TOz a2⟩, a3.extBut hs''.extBut DD.i1z, a4.extBut hs''.extBut DD.i2z⟩, fun c hc => ?_⟩
    rw [upd_ne]
    · exact (hf c hc).1
    · have hob : ∃ o, s.heap.get? c = some o := by
        simp at hc
        rcases hc with rfl | rfl | rfl | rfl | rfl
        · exact ⟨_, hz⟩
        · exact ⟨_, hTI⟩
        · exact ⟨_, hTO⟩
        · obtain ⟨o, e, _⟩ := h1; exact ⟨o, e⟩
        · obtain ⟨o, e, _⟩ := h2; exact ⟨o, e⟩
      obtain ⟨o, e⟩ := hob
      exact (lt e).symm
  done := by
    intro X hP hw hK hc i pins s σ H E I hf st hg
    subst hP hw hK
    obtain ⟨hq1, hl⟩ := hg
    obtain ⟨hz, hTI, _, h1, h2⟩ := st
    obtain ⟨its1, rv1, p1, _⟩ := I.tuple hq1
    have e1 := rv1.length
    refine pyNextT_end (I.ok.hd hc) DD.i1z DD.l1z hz hTI h1 (show s.heap.IsTuple a its1.toArray from p1) (by simp; omega) fun h' hk => ⟨rfl, ?_⟩
    exact Inv.turnedL (t' := s.toks) I hf fun c o hc e => hk c o (fun q => hc (by simp [q])) (fun q => hc (by simp [q])) e
  self := fun _ _ _ _ _ st h => wpAny_pyIter_zip st.1 h
section
variable {X : Cx} {elts : List Expr} {k1 : Nat} {pt : Pos}
def iZipT (K : PySem.W.Frag) (ta : TA) : TI := fun σ H R => ta σ H fun vs H1 => ∃ a b xs ys, vs = [.ref a, .ref b] ∧ SqT K H1 a xs ∧ SqL K H1 b ys ∧ R (Itzt K a b xs ys) H1
theorem pi_zipT {a b : Expr} {ta : TA} {p pos : Pos} (hg : Gl X "zip") (hm : X.mg "zip" = none) (ha : PA X [a, b] ta) (hs : starEach [a, b] X.env = [(false, eval a X.env), (false, eval b X.env)] := by rfl) (hs2 : starEach [b] X.env = [(false, eval b X.env)] := by rfl) :
    PI X (.Tuple elts k1 pt) (.Call (.Name "zip" p) [a, b] [] pos) (iZipT X.K ta) := by
  intro pins s σ H R I h
  refine Call_ (ld_blt I hg hm b_zip (PyProof.Rows.callWith_type1 (thn (ha pos pins s σ H _ I h) fun us s1 ⟨vs, H1, I1, r1, q1⟩ => ?_) (by rw [hs, hs2]) (by rw [hs2]; rfl)))
  obtain ⟨l1, l2, xs, ys, e, hq1, hq2, q⟩ := q1
  subst e
  obtain ⟨u, v, rfl, ru, rv⟩ := vals2 r1
  cases ru
  cases rv
  obtain ⟨its1, rv1, p1, _⟩ := I1.tuple hq1
  obtain ⟨its2, rv2, p2, _⟩ := I1.list hq2
  refine call_zipT (show s1.heap.IsTuple l1 its1.toArray from p1) p2.isList fun h' hz hTI hTO h1 h2 hk => ?_
  have I2 : Inv X pins σ H1 { s1 with heap := h', toks := s1.toks } := I1.kept hk
  have lt1 : l1 < s1.heap.objs.size := by obtain ⟨o, e, _⟩ := p1; exact Heap.lt_size e
  have lt2 : l2 < s1.heap.objs.size := by obtain ⟨o, e, _⟩ := p2.isList; exact Heap.lt_size e
  refine wpAny_pyIter_zip hz ⟨_, [s1.heap.objs.size + 4, s1.heap.objs.size + 2, s1.heap.objs.size + 3, s1.heap.objs.size, s1.heap.objs.size + 1], _, _, H1, rfl, I2, turn_zipT (zipApart_new lt1 lt2), ⟨hz, hTI, ⟨_, _, hTO⟩, h1, h2⟩, fun c hc => ?_, q⟩
  refine I1.fpOk ?_ (I1.hok.fresh ?_) <;> (simp at hc; rcases hc with rfl | rfl | rfl | rfl | rfl <;> omega)
end
theorem for_zipT {K : PySem.W.Frag} {a b : Addr} {xs ys : List V} {g : TG} {tb : TS} {D : Ends} {σ : L2.St} {H : Hp} (Pv : Nat → L2.St → Hp → Prop) (h0 : Pv 0 σ H) (hl : ∀ i σ H, Pv i σ H → SqT K H a xs ∧ SqL K H b ys) (hxy : xs.length = ys.length)
    (hs : ∀ i x y p σ H, xs[i]? = some x → ys[i]? = some y → Pv i σ H → H p = none → g (.ref p) σ (upd H p (.tup [x, y])) fun σ2 H2 => tb { D with nx := Pv (i + 1), ct := Pv (i + 1), bk := D.nx } σ2 H2) (hd : ∀ σ H, Pv xs.length σ H → D.nx σ H) :
    ∃ W : Nat → Nat → L2.St → Hp → Prop, (∃ m, W 0 m σ H) ∧ ∀ i m σ H, W i m σ H →
      ((Itzt K a b xs ys).stop i H ∧ D.nx σ H) ∨ ((Itzt K a b xs ys).go i H ∧ ∃ N : L2.St → Hp → Prop, (∀ σ' H', N σ' H' → ∃ m', m' < m ∧ W (i + 1) m' σ' H') ∧ ∀ x H', (Itzt K a b xs ys).yld i H x H' → g x σ H' fun σ2 H2 => tb { D with nx := N, ct := N, bk := D.nx } σ2 H2) := by
  refine ⟨fun i m σ H => m = xs.length - i ∧ i ≤ xs.length ∧ Pv i σ H, ⟨xs.length, by simp, Nat.zero_le _, h0⟩, ?_⟩
  rintro i m σ H ⟨rfl, hi, p⟩
  obtain ⟨q1, q2⟩ := hl i σ H p
  by_cases hlt : i < xs.length
  · refine .inr ⟨⟨q1, q2, hlt, by omega⟩, Pv (i + 1), fun σ' H' p' => ⟨xs.length - (i + 1), by omega, rfl, hlt, p'⟩, fun v H' y => ?_⟩
    obtain ⟨p', x, y, hp, hx, hy, rfl, rfl⟩ := y
    exact hs i x y p' σ H hx hy p hp
  · have e : i = xs.length := by omega
    subst e
    exact .inl ⟨⟨q1, Nat.le_refl _⟩, hd σ H p⟩
def Its (x : Str) : It := ⟨fun i _ => i < x.cps.size, fun i H v H' => H' = H ∧ ∃ c, x.cps[i]? = some c ∧ v = .str ⟨#[c]⟩, fun i _ => i = x.cps.size⟩
theorem turn_str {P : Program} {w : World} {K : PySem.W.Frag} {tg : Expr} (it : Addr) (x : Str) (t : Tok) : Turn P w K tg (Its x) [it] it (fun i h => h.IsStrIter it "str_ascii_iterator" x t i) where
  mem := by simp
  obj := fun i h st b hb => by
    have e : b = it := by simpa using hb
    subst e
    obtain ⟨o, e, c, d⟩ := st
    exact ⟨o, e, fun v z => by rw [d] at z; cases z⟩
  keep := fun i h h' st k => by
    obtain ⟨o, e, r⟩ := st
    exact ⟨o, k it (by simp) o e, r⟩
  item := by
    intro X hP hw hK hc i pins s σ H E I hf st hg
    subst hP hw hK
    obtain ⟨f0, f1, f2, f3, f4, f5⟩ := hf it (by simp)
    have hg : i < x.cps.size := hg
    refine wpAny_pyNext_ascii_item st (c := x.cps[i]) (by simp [hg]) fun h' st' sb => ?_
    have I1 : Inv X pins σ H { s with heap := h', toks := s.toks + 1 } := I.turned (t' := s.toks + 1) (fun b o hb e => (sb.2 b hb).trans e) f0 f1 f3 f4 f5
    obtain ⟨o, e, c, d⟩ := id st'
    exact ⟨_, rfl, go_of (s := { s with heap := h', toks := s.toks + 1 }) e c d (by decide) ⟨.str ⟨#[x.cps[i]]⟩, H, I1, ⟨_, rfl⟩, ⟨rfl, x.cps[i], by simp [hg], rfl⟩, st', fun b hb => (hf b hb).1⟩⟩
  done := by
    intro X hP hw hK hc i pins s σ H E I hf st hg
    subst hP hw hK
    obtain ⟨f0, f1, f2, f3, f4, f5⟩ := hf it (by simp)
    have hg : i = x.cps.size := hg
    subst hg
    exact wpAny_pyNext_ascii_end (I.ok.hd hc) st (by simp) fun h' eb => ⟨rfl, I.turned (t' := s.toks) (fun b o hb e => eb b o hb e) f0 f1 f3 f4 f5⟩
  self := fun _ _ _ _ _ st h => wpAny_pyIter_striter_ascii st h
section
variable {X : Cx} {tg : Expr}
def iStr (ts : TE) : TI := fun σ H R => ts σ H fun v H1 => ∃ x, v = .str x ∧ x.cps.all (· < 128) = true ∧ R (Its x) H1
theorem pi_str {l : Expr} {tl : TE} (hl : PE X l tl) : PI X tg l (iStr tl) := by
  intro pins s σ H R I h
  refine thn (hl pins s σ H _ I h) fun v s1 ⟨y, H1, I1, r1, x, e, ha, q⟩ => ?_
  subst e
  obtain ⟨t, rfl⟩ := r1
  refine wpAny_pyIter_ascii ha ?_
  refine ⟨s1.heap.objs.size, [s1.heap.objs.size], _, _, H1, rfl, I1.kept (t' := s1.toks) fun b o e => Heap.get?_push_of_some _ e, turn_str _ x t, ⟨_, Heap.get?_push_size _ rfl, rfl, rfl⟩, fun b hb => ?_, q⟩
  have e : b = s1.heap.objs.size := by simpa using hb
  subst e
  exact I1.fpOk (Nat.le_refl _) (I1.hok.fresh (Nat.le_refl _))
end
theorem for_str {x : Str} {g : TG} {tb : TS} {D : Ends} {σ : L2.St} {H : Hp} (Pv : Nat → L2.St → Hp → Prop) (h0 : Pv 0 σ H)
    (hs : ∀ i c σ H, x.cps[i]? = some c → Pv i σ H → g (.str ⟨#[c]⟩) σ H fun σ2 H2 => tb { D with nx := Pv (i + 1), ct := Pv (i + 1), bk := D.nx } σ2 H2) (hd : ∀ σ H, Pv x.cps.size σ H → D.nx σ H) :
    ∃ W : Nat → Nat → L2.St → Hp → Prop, (∃ m, W 0 m σ H) ∧ ∀ i m σ H, W i m σ H →
      ((Its x).stop i H ∧ D.nx σ H) ∨ ((Its x).go i H ∧ ∃ N : L2.St → Hp → Prop, (∀ σ' H', N σ' H' → ∃ m', m' < m ∧ W (i + 1) m' σ' H') ∧ ∀ v H', (Its x).yld i H v H' → g v σ H' fun σ2 H2 => tb { D with nx := N, ct := N, bk := D.nx } σ2 H2) := by
  refine ⟨fun i m σ H => m = x.cps.size - i ∧ i ≤ x.cps.size ∧ Pv i σ H, ⟨x.cps.size, by simp, Nat.zero_le _, h0⟩, ?_⟩
  rintro i m σ H ⟨rfl, hi, p⟩
  by_cases hlt : i < x.cps.size
  · refine .inr ⟨hlt, Pv (i + 1), fun σ' H' p' => ⟨x.cps.size - (i + 1), by omega, rfl, hlt, p'⟩, fun v H' y => ?_⟩
    obtain ⟨rfl, c, hc, rfl⟩ := y
    exact hs i c σ _ hc p
  · have e : i = x.cps.size := by omega
    subst e
    exact .inl ⟨rfl, hd σ H p⟩
end L3
set_option Elab.async false
set_option linter.all false
set_option maxRecDepth 100000
namespace L3
open PySem PySem.Spec PyProof.Rows L2
def CXe (P : Program) (w : World) : CXT := fun outer H s E e s' => ∃ (x : Addr) (cls a0 : Value) (B : Heap) (H' : Hp), e = .ref x ∧ s'.os = s.os ∧ AllBare s'.gens ∧ Un (frs outer) [] H H' s.heap s'.heap ∧ HOk P w H' s'.heap ∧
  Heap.FlyingW B outer x cls a0 s'.heap ∧ H' x = none ∧ (∀ b o, s'.heap.get? b = some o → b ∉ frs outer → ((∃ o', s.heap.get? b = some o') ∨ H' b ≠ none) → B.get? b = some o) ∧ E cls none H'
theorem ObjOk.some {P : Program} {w : World} {H : Hp} {h : Heap} {a : Addr} {o : HO} (x : ObjOk P w H h a o) : ∃ ob, h.get? a = Option.some ob := by
  cases o with
  | lst xs => obtain ⟨_, its, n, _, e⟩ := x; exact ⟨_, e⟩
  | tup xs => obtain ⟨_, its, _, o, e, _⟩ := x; exact ⟨_, e⟩
  | dK kvs => obtain ⟨_, _, vs, _, d⟩ := x; obtain ⟨o, es, ep, e, _⟩ := d; exact ⟨_, e⟩
  | dT kvs => obtain ⟨_, _, xs, _, o, es, ep, e, _⟩ := x; exact ⟨_, e⟩
  | set S n => obtain ⟨o, _, _, _, e, _⟩ := x; exact ⟨_, e⟩
  | ins C dx fs => obtain ⟨_, _, _, e, _⟩ := x; exact ⟨_, e⟩
  | own y => exact x
  | xd fs => obtain ⟨_, ⟨_, _, _, e, _⟩, _⟩ := x; exact ⟨_, e⟩
  | rng lo hi => obtain ⟨t, u, v, e⟩ := x; exact ⟨_, e⟩
  | frz o u => exact ⟨_, x.1⟩
  | tbl ps => exact ⟨_, x⟩
  | met f y => exact ⟨_, x⟩
  | ext φ => exact x.2.1
theorem HOk.held {P : Program} {w : World} {H : Hp} {h h' : Heap} (x : HOk P w H h) (k : ∀ b o, h.get? b = some o → H b ≠ none → h'.get? b = some o) : HOk P w H h' := fun a o e =>
  (x a o e).stay (fun b u hb hu => by
    rcases hb with rfl | hb
    · exact k b u hu (by rw [e]; simp)
    · exact k b u hu (by rw [hb]; simp)) (fun b hb => hb) (fun b xs hb => hb)
section
variable {P : Program} {w : World} {K : PySem.W.Frag} {mg : Str → Option Value} {base : Heap} {N : List Str} {qual : Str} {scope : Scope} {f : Addr} {cd : Value} {A : Around} {outer : List Env} {s₀ s : Shared} {H₀ H : Hp} {E : XK}
variable {pins : List (Addr × Obj)} {σ : L2.St}
theorem cxe_of {X : Cx} (I : Inv X pins σ H s) (hX : X = cxOf (CXe P w) P w K mg base N qual scope f cd A outer s₀ H₀ E) {H' : Hp} {h'' : Heap} {g : Array GenState} {tk : Nat} {d : Drawn} {os : OsState} {x : Addr} {cls a0 : Value} {B : Heap}
    (hos : os = s.os) (hg : AllBare g) (u : ∀ b o, X.s₀.heap.get? b = some o → X.H₀ b = none → b ∉ frs X.outer → h''.get? b = some o) (us : ∀ b o, X.s₀.heap.get? b = some o → X.H₀ b = none → b ∈ frs X.outer → ∃ sl, h''.get? b = some { o with slots := sl })
    (uf : ∀ b o, X.s₀.heap.get? b = some o → X.H₀ b = none → H' b = none) (ut : ∀ b o, X.s₀.heap.get? b = some o → ∃ o', h''.get? b = some o') (tups : ∀ b xs, X.H₀ b = some (.tup xs) → H' b = some (.tup xs)) (frzs : ∀ b o u, X.H₀ b = some (.frz o u) → H' b = some (.frz o u)) (tbls : ∀ b ps, X.H₀ b = some (.tbl ps) → ∃ more, H' b = some (.tbl (ps ++ more)))
    (hok : HOk P w H' h'') (fl : Heap.FlyingW B outer x cls a0 h'') (hx : H' x = none) (cov : ∀ b o, h''.get? b = some o → b ∉ frs outer → ((∃ o', s₀.heap.get? b = some o') ∨ H' b ≠ none) → B.get? b = some o) (q : E cls none H') :
    CXe P w outer H₀ s₀ E (.ref x) { heap := h'', gens := g, toks := tk, drawn := d, os := os } := by
  subst hX
  exact ⟨x, cls, a0, B, H', rfl, hos.trans I.os, hg, ⟨fun b o h1 h2 h3 _ => u b o h1 h2 h3, fun b o h1 h2 h3 _ => us b o h1 h2 h3, fun b o h1 h2 _ => uf b o h1 h2, fun b o h1 _ => ut b o h1, tups, frzs, tbls⟩, hok, fl, hx, cov, q⟩
theorem frs_cons {L : Addr} {env : Env} {outer : List Env} (hf : env.frame = some L) {b : Addr} (h1 : b ≠ L) (h2 : b ∉ frs outer) : b ∉ frs (env :: outer) := by
  unfold frs at *
  rw [List.filterMap_cons, hf]
  intro m
  rcases List.mem_cons.mp m with e | m
  · exact h1 e
  · exact h2 m
theorem xe_raise {x : Addr} {cls : Value} {args : List Value} {h' : Heap} (I : Inv (cxOf (CXe P w) P w K mg base N qual scope f cd A outer s₀ H₀ E) pins σ H s) (hm : Heap.MadeExcOf s.heap h' x cls args) (q : E cls none H) :
    (cxOf (CXe P w) P w K mg base N qual scope f cd A outer s₀ H₀ E).xe (.ref x) { s with heap := h' } := by
  have hff : (envOfC qual scope s₀.heap.objs.size f cd).frame = some s₀.heap.objs.size := rfl
  have hin : ∀ env ∈ (envOfC qual scope s₀.heap.objs.size f cd :: outer), ∀ b, env.frame = some b → b ∈ frs (envOfC qual scope s₀.heap.objs.size f cd :: outer) := fun env he b hb => List.mem_filterMap.mpr ⟨env, he, hb⟩
  have ff : s.heap.FunFrames base (envOfC qual scope s₀.heap.objs.size f cd :: outer) := I.stack
  have ffB := PySem.W.funFrames_hide ff hin
  obtain ⟨t, he, ht, htup⟩ := hm.there
  have hen : (PySem.W.hideAll s.heap (frs (envOfC qual scope s₀.heap.objs.size f cd :: outer))).get? x = none := by
    cases z : (PySem.W.hideAll s.heap (frs (envOfC qual scope s₀.heap.objs.size f cd :: outer))).get? x with
    | none => rfl
    | some o => have := PySem.W.of_hideAll _ z; rw [hm.new] at this; cases this
  have nl : ∀ b o, s₀.heap.get? b = some o → b ≠ s₀.heap.objs.size := fun b o hb => Nat.ne_of_lt (Heap.lt_size hb)
  show wpAny _ _ (leaving _ (.ref x)) _ _ _
  refine wpAny_leaving_firstW (a0 := .ref t) I.ok.frames (ffB.of_keeps fun b o hb _ => ⟨o, hm.keeps b o hb, rfl⟩) hff he (fun b o hb => hm.keeps b o (PySem.W.of_hideAll _ hb)) hen rfl rfl rfl fun h'' hL => ?_
  obtain ⟨k1, ⟨_, _, k2⟩, k3, k4⟩ := hL
  have B_of : ∀ b o, s.heap.get? b = some o → b ≠ s₀.heap.objs.size → b ∉ frs outer → (PySem.W.hideAll s.heap (frs (envOfC qual scope s₀.heap.objs.size f cd :: outer))).get? b = some o := fun b o hb h1 h2 => PySem.W.hideAll_get _ hb (frs_cons hff h1 h2)
  have keepT : ∀ b o, s.heap.get? b = some o → H b ≠ none → h''.get? b = some o := fun b o hb hn => by
    refine k1 b o (B_of b o hb (fun z => hn (by rw [z]; exact I.free)) fun z => hn ?_)
    exact I.stkFree b (List.mem_filterMap.mpr (by
      obtain ⟨env, h1, h2⟩ := List.mem_filterMap.mp z
      exact ⟨env, List.mem_cons_of_mem _ h1, h2⟩))
  have frm : ∀ b o, s.heap.get? b = some o → b ∈ frs outer → ∃ sl, h''.get? b = some { o with slots := sl } := fun b o hb hf => by
    have hm' : b ∈ (envOfC qual scope s₀.heap.objs.size f cd :: outer).filterMap (·.frame) := by
      obtain ⟨env, h1, h2⟩ := List.mem_filterMap.mp hf
      exact List.mem_filterMap.mpr ⟨env, List.mem_cons_of_mem _ h1, h2⟩
    obtain ⟨_, o', ho', hnf⟩ := ff.mem hm'
    rw [hb] at ho'
    obtain rfl := Option.some.inj ho'
    exact k4 b o (hm.keeps b o hb) hnf
  have B0 : Un (frs outer) [] H₀ H s₀.heap s.heap := I.base
  refine cxe_of I rfl rfl I.bare (fun b o h1 h2 h3 => ?_) (fun b o h1 h2 h3 => ?_) (fun b o h1 h2 => B0.free b o h1 h2 (by simp)) (fun b o h1 => ?_) B0.tups B0.frzs B0.tbls (L3.HOk.held I.hok keepT) ⟨k1, hen, k2, k3⟩ ?_ (fun b o h1 h2 h3 => ?_) q
  · exact k1 b o (B_of b o (B0.keep b o h1 h2 h3 (by simp)) (nl b o h1) h3)
  · obtain ⟨sl, e1⟩ := B0.slot b o h1 h2 h3 (by simp)
    obtain ⟨sl2, e2⟩ := frm b _ e1 h3
    exact ⟨sl2, e2⟩
  · obtain ⟨o', e1⟩ := B0.there b o h1 (by simp)
    by_cases hf : b ∈ frs outer
    · obtain ⟨sl, e2⟩ := frm b o' e1 hf
      exact ⟨_, e2⟩
    · exact ⟨o', k1 b o' (B_of b o' e1 (nl b o h1) hf)⟩
  · cases z : H x with
    | none => rfl
    | some o =>
      obtain ⟨ob, e1⟩ := ObjOk.some (I.hok x o z)
      rw [hm.new] at e1
      cases e1
  · have ex : ∃ o', s.heap.get? b = some o' ∧ b ≠ s₀.heap.objs.size := by
      rcases h3 with ⟨o', h3⟩ | h3
      · obtain ⟨o2, e2⟩ := B0.there b o' h3 (by simp)
        exact ⟨o2, e2, nl b o' h3⟩
      · cases z : H b with
        | none => exact absurd z h3
        | some ob =>
          obtain ⟨o2, e2⟩ := ObjOk.some (I.hok b ob z)
          exact ⟨o2, e2, fun y => by rw [y, show H s₀.heap.objs.size = none from I.free] at z; cases z⟩
    obtain ⟨o', e1, ne⟩ := ex
    have e2 := B_of b o' e1 ne h2
    have e3 := k1 b o' e2
    have h1' : h''.get? b = some o := h1
    rw [h1'] at e3
    rw [Option.some.inj e3]
    exact e2
theorem pass_e : Passes (CXe P w) (cxOf (CXe P w) P w K mg base N qual scope f cd A outer s₀ H₀ E) E := by
  intro pins σ H s e s' I hc
  obtain ⟨x, cls, a0, B, H', rfl, hos, hg, U, hok, fl, hx, cov, q⟩ := hc
  have hff : (envOfC qual scope s₀.heap.objs.size f cd).frame = some s₀.heap.objs.size := rfl
  have U : Un (frs (envOfC qual scope s₀.heap.objs.size f cd :: outer)) [] H H' s.heap s'.heap := U
  have fl : Heap.FlyingW B (envOfC qual scope s₀.heap.objs.size f cd :: outer) x cls a0 s'.heap := fl
  have cov : ∀ b o, s'.heap.get? b = some o → b ∉ frs (envOfC qual scope s₀.heap.objs.size f cd :: outer) → ((∃ o', s.heap.get? b = some o') ∨ H' b ≠ none) → B.get? b = some o := cov
  have nl : ∀ b o, s₀.heap.get? b = some o → b ≠ s₀.heap.objs.size := fun b o hb => Nat.ne_of_lt (Heap.lt_size hb)
  have ff : s.heap.FunFrames base (envOfC qual scope s₀.heap.objs.size f cd :: outer) := I.stack
  have B0 : Un (frs outer) [] H₀ H s₀.heap s.heap := I.base
  have sub : ∀ b, b ∈ frs outer → b ∈ frs (envOfC qual scope s₀.heap.objs.size f cd :: outer) := fun b hf => by
    obtain ⟨env, h1, h2⟩ := List.mem_filterMap.mp hf
    exact List.mem_filterMap.mpr ⟨env, List.mem_cons_of_mem _ h1, h2⟩
  have nf : ∀ b, b ∈ frs (envOfC qual scope s₀.heap.objs.size f cd :: outer) → H' b = none := fun b hb => by
    obtain ⟨_, o, ho, _⟩ := ff.mem hb
    exact U.free b o ho (I.stkFree b hb) (by simp)
  show wpAny _ _ (leaving _ (.ref x)) _ _ _
  refine wpAny_leaves_onW I.ok.frames hff fl fun h'' fl2 up => ?_
  have k1 : B.StaysIn h'' := fl2.1
  have frm : ∀ b o, s'.heap.get? b = some o → b ∈ frs outer → ∃ sl, h''.get? b = some { o with slots := sl } := fun b o hb hf => by
    obtain ⟨_, o', ho', hnf⟩ := fl.2.2.1.mem (sub b hf)
    rw [hb] at ho'
    obtain rfl := Option.some.inj ho'
    exact up b o hb hnf
  have keepT : ∀ b o, s'.heap.get? b = some o → H' b ≠ none → h''.get? b = some o := fun b o hb hn => k1 b o (cov b o hb (fun m => hn (nf b m)) (.inr hn))
  refine cxe_of I rfl hos hg (fun b o h1 h2 h3 => ?_) (fun b o h1 h2 h3 => ?_) (fun b o h1 h2 => ?_) (fun b o h1 => ?_) (fun b xs h => U.tups b xs (B0.tups b xs h)) (fun b o u h => U.frzs b o u (B0.frzs b o u h)) (fun b ps h => ?_) (L3.HOk.held hok keepT) fl2 hx (fun b o h1 h2 h3 => ?_) q
  · have e1 := B0.keep b o h1 h2 h3 (by simp)
    have n2 := frs_cons hff (nl b o h1) h3
    have e2 := U.keep b o e1 (B0.free b o h1 h2 (by simp)) n2 (by simp)
    exact k1 b o (cov b o e2 n2 (.inl ⟨o, e1⟩))
  · obtain ⟨sl, e1⟩ := B0.slot b o h1 h2 h3 (by simp)
    obtain ⟨sl2, e2⟩ := U.slot b _ e1 (B0.free b o h1 h2 (by simp)) (sub b h3) (by simp)
    obtain ⟨sl3, e3⟩ := frm b _ e2 h3
    exact ⟨sl3, e3⟩
  · by_cases hf : b ∈ frs outer
    · exact nf b (sub b hf)
    · exact U.free b o (B0.keep b o h1 h2 hf (by simp)) (B0.free b o h1 h2 (by simp)) (by simp)
  · obtain ⟨o1, e1⟩ := B0.there b o h1 (by simp)
    obtain ⟨o2, e2⟩ := U.there b o1 e1 (by simp)
    by_cases hf : b ∈ frs outer
    · obtain ⟨sl, e3⟩ := frm b o2 e2 hf
      exact ⟨_, e3⟩
    · exact ⟨o2, k1 b o2 (cov b o2 e2 (frs_cons hff (nl b o h1) hf) (.inl ⟨o1, e1⟩))⟩
  · obtain ⟨m1, e1⟩ := B0.tbls b ps h
    obtain ⟨m2, e2⟩ := U.tbls b _ e1
    exact ⟨m1 ++ m2, by rw [e2, Array.append_assoc]⟩
  · have ex : ∃ o', s'.heap.get? b = some o' ∧ b ∉ frs (envOfC qual scope s₀.heap.objs.size f cd :: outer) ∧ ((∃ o', s.heap.get? b = some o') ∨ H' b ≠ none) := by
      rcases h3 with ⟨o', h3⟩ | h3
      · obtain ⟨o1, e1⟩ := B0.there b o' h3 (by simp)
        obtain ⟨o2, e2⟩ := U.there b o1 e1 (by simp)
        exact ⟨o2, e2, frs_cons hff (nl b o' h3) h2, .inl ⟨o1, e1⟩⟩
      · cases z : H' b with
        | none => exact absurd z h3
        | some ob =>
          obtain ⟨o2, e2⟩ := ObjOk.some (hok b ob z)
          exact ⟨o2, e2, (fun m => h3 (nf b m)), .inr (by simp)⟩
    obtain ⟨o', e1, n1, c1⟩ := ex
    have e2 := cov b o' e1 n1 c1
    have e3 := k1 b o' e2
    have h1' : h''.get? b = some o := h1
    rw [h1'] at e3
    rw [Option.some.inj e3]
    exact e2
end
def tRaise (cls : Value) (E : XK) (t : TA) : TS := fun _ σ H => t σ H fun vs H1 => vs.length ≤ sizeLine ∧ E cls none H1
section
variable {X : Cx} {x : Str} {C : Addr} {bm : List Value} {B newId initId : String} {e₀ : Expr} {rest : List Expr} {t : TA} {E : XK} {np cpos pos : Pos}
theorem ps_raise (O : OwnCls x C bm newId X.mg X.base) (FB : ExcBaseFacts B newId initId bm) (hc : X.calm = true) (ha : PA X (e₀ :: rest) t)
    (fin : ∀ (pins : List (Addr × Obj)) (σ : L2.St) (H : Hp) (s : Shared) (a : Addr) (h' : Heap) (vs : List Value), Inv X pins σ H s → Heap.MadeExcOf s.heap h' a (.ref C) vs → E (.ref C) none H → X.xe (.ref a) { s with heap := h' })
    (hg : Gl X x := by rfl) (hd : (x == ("__debug__" : Str)) = false := by decide)
    (he : starEach (e₀ :: rest) X.env = (false, eval e₀ X.env) :: starEach rest X.env := by rfl) (hplain : (backTo cpos (starEach rest X.env)).any (·.1) = false := by rfl) :
    PS X (.Raise (some (.Call (.Name x np) (e₀ :: rest) [] cpos)) none pos) (tRaise (.ref C) E t) := by
  intro pins s σ H D I h
  obtain ⟨above, names, title, place, parents, has, sns, subs, abst, coll, dct, y0, y1, y2, y3, y5, vals, atC, atN, noInit, tail⟩ := O.obj
  have base := tail.hasType FB.hasBase
  have plain : (backTo cpos (starEach (e₀ :: rest) X.env)).any (·.1) = false := by
    rw [he]
    show (false || (backTo cpos (starEach rest X.env)).any (·.1)) = false
    rw [hplain]
    rfl
  refine wpAny_Raise_call_subT (bm := above) (N := names) (nm := title) (q := place) (bs := parents) (hdct := has) (sn := sns) (sub := subs)
    (ab := abst) (col := coll) (dd := dct) (k0 := y0) (k1 := y1) (k2 := y2) (k3 := y3) (k5 := y5) FB (mN := vals) base (I.ok.hd hc) plain noInit
    (ld_glob I hg O.bound ⟨rfl, ?_⟩ hd)
  have hp := ha cpos pins s σ H _ I h
  rw [he] at hp ⊢
  refine Calls.evalArgs_plain (wpAny_mono hp (fun us s2 ⟨vs, H1, I1, r, len, q⟩ => ?_) fun _ _ y => y)
  exact ⟨rfl, by rw [← r.length]; exact len, I1.bk _ _ atC, atN.keeps I1.bk, tail.keeps I1.bk, fun h' a hm => fin pins σ H1 s2 a h' us I1 hm q⟩
end
theorem own_of {K : PySem.W.Frag} {mg : Str → Option Value} {base : Heap} {x : Str} {C : Addr} {bm : List Value} {newId : String} (X : K.In base) (m : mg x = some (.ref C)) (q : PySem.W.excIn K C bm newId = true) : OwnCls x C bm newId mg base := by
  refine ⟨m, ?_⟩
  revert q
  unfold PySem.W.excIn
  split
  case h_1 dct made slots look =>
    split
    case h_1 self above y0 y1 y2 y3 maker y5 e1 e2 =>
      intro q
      simp only [Bool.and_eq_true, beq_iff_eq, Bool.not_eq_true'] at q
      obtain ⟨⟨⟨⟨⟨q1, q2⟩, q3⟩, q4⟩, q5⟩, q6⟩ := q
      subst q1 q2
      cases made with
      | mk title parents order names place has sns subs abst coll gone =>
        have e1 : order = _ := e1
        have q3 : gone = false := q3
        subst e1 q3
        have es : slots = #[y0, y1, y2, y3, some (.builtin maker), y5] := by
          cases slots with
          | mk l =>
            have e2 : l = _ := e2
            rw [e2]
        subst es
        exact ⟨above, names, title, place, parents, has, sns, subs, abst, coll, dct, y0, y1, y2, y3, y5, _, X _ _ look, .of_isNs (PySem.W.isNs_of_in X q5), PySem.W.nsMap_none_of_in X q5 q6, PySem.W.tail_of_in X q4⟩
    case h_2 => intro q; cases q
  case h_2 => intro q; cases q
theorem _root_.L2.FnOk.anyCX {P : Program} {w : World} {K : PySem.W.Frag} {mg : Str → Option Value} {base : Heap} {CX : CXT} {k : Nat} {f : Addr} {fd : FuncData} {ps : List Str} {sp : Sp} (F : FnOk P w K mg base CX0 k f fd ps sp) : FnOk P w K mg base CX k f fd ps sp :=
  ⟨F.len, fun A outer s H args us vs Q E h1 h2 h3 h4 h5 => codeAny_mono (F.run A outer s H args us vs Q E h1 h2 h3 h4 h5) fun r s' hq => by
    cases r with
    | error e => exact False.elim hq
    | ok fl =>
      cases fl with
      | ret u => exact hq
      | next => exact hq
      | brk => exact hq
      | cont => exact hq⟩
end L3
set_option Elab.async false
set_option linter.all false
set_option maxRecDepth 100000
namespace L3
open PySem PySem.Spec PyProof.Rows L2
def IsExc (x : Addr) (cls : Value) : Heap → Prop := fun h => ∃ ob fs, h.get? x = some ob ∧ ob.cls = cls ∧ ob.data = .fields fs
abbrev XO (x : Addr) (cls : Value) : HO := .ext (IsExc x cls)
def Fly (X : Cx) (E : XK) : Value → Shared → Prop := fun e s' => ∃ pins σ H s, Inv X pins σ H s ∧ CXe X.prog X.w X.stack H s E e s'
abbrev Cx.inTry (X : Cx) (pn : List (Addr × Obj)) (E : XK) : Cx := { X with pn := pn, xe := Fly { X with pn := pn } E }
abbrev Cx.got (X : Cx) (x : Addr) : Cx := { X with A := X.A.mark (some (.ref x)), calm := false, xe := fun _ _ => False }
section
variable {X : Cx} {pins pn : List (Addr × Obj)} {σ : L2.St} {H : Hp} {s : Shared} {E : XK}
theorem toTry (I : Inv X pins σ H s) (E : XK) : Inv (Cx.inTry X (X.pn ++ pins) E) [] σ H s :=
  ⟨⟨I.ok.mod, I.ok.kind, I.ok.glob, I.ok.blt, I.ok.above, I.ok.inj, I.ok.has, I.ok.cab, I.ok.hd, I.ok.frames, I.ok.stk, I.ok.exf, I.ok.bs, I.ok.bsz, I.ok.noex, I.ok.exfs, I.ok.funs, I.ok.frf⟩,
    I.os, I.bare, I.base, I.loc, I.cell, I.free, I.freeC, fun p hp => I.pin p (by simpa using hp), I.hok, I.len⟩
theorem ofTry (I : Inv (Cx.inTry X pn E) pins σ H s) : Inv { X with pn := pn } pins σ H s :=
  ⟨⟨I.ok.mod, I.ok.kind, I.ok.glob, I.ok.blt, I.ok.above, I.ok.inj, I.ok.has, I.ok.cab, I.ok.hd, I.ok.frames, I.ok.stk, I.ok.exf, I.ok.bs, I.ok.bsz, I.ok.noex, I.ok.exfs, I.ok.funs, I.ok.frf⟩,
    I.os, I.bare, I.base, I.loc, I.cell, I.free, I.freeC, I.pin, I.hok, I.len⟩
theorem outTry {pins' : List (Addr × Obj)} (I : Inv { X with pn := X.pn ++ pins } pins' σ H s) : Inv X pins σ H s :=
  ⟨⟨I.ok.mod, I.ok.kind, I.ok.glob, I.ok.blt, I.ok.above, I.ok.inj, I.ok.has, I.ok.cab, I.ok.hd, I.ok.frames, I.ok.stk, I.ok.exf, I.ok.bs, I.ok.bsz, I.ok.noex, I.ok.exfs, I.ok.funs, I.ok.frf⟩,
    I.os, I.bare, I.base, I.loc, I.cell, I.free, I.freeC, fun p hp => I.pin p (List.mem_append_left _ hp), I.hok, I.len⟩
theorem toGot (I : Inv X pins σ H s) (x : Addr) : Inv (Cx.got X x) pins σ H s :=
  ⟨⟨I.ok.mod, I.ok.kind, I.ok.glob, I.ok.blt, I.ok.above, I.ok.inj, I.ok.has, I.ok.cab, (fun z => absurd (show false = true from z) (by decide)), I.ok.frames, I.ok.stk, I.ok.exf, I.ok.bs, I.ok.bsz, I.ok.noex, I.ok.exfs, I.ok.funs, I.ok.frf⟩,
    I.os, I.bare, I.base, I.loc, I.cell, I.free, I.freeC, I.pin, I.hok, I.len⟩
theorem ofGot {x : Addr} (hd : X.Ok) (I : Inv (Cx.got X x) pins σ H s) : Inv X pins σ H s :=
  ⟨hd, I.os, I.bare, I.base, I.loc, I.cell, I.free, I.freeC, I.pin, I.hok, I.len⟩
theorem endTry {D : Ends} {f : Flow} (h : SP (Cx.inTry X (X.pn ++ pins) E) [] D f s) : SP X pins D f s := by
  cases f with
  | next => obtain ⟨σ', H', I, q⟩ := h; exact ⟨σ', H', outTry (ofTry I), q⟩
  | brk => obtain ⟨σ', H', I, q⟩ := h; exact ⟨σ', H', outTry (ofTry I), q⟩
  | cont => obtain ⟨σ', H', I, q⟩ := h; exact ⟨σ', H', outTry (ofTry I), q⟩
  | ret u => obtain ⟨v, σ', H', I, r, q⟩ := h; exact ⟨v, σ', H', outTry (ofTry I), r, q⟩
theorem pass_t : Passes (CXe X.prog X.w) (Cx.inTry X pn E) E := fun pins σ H s _ _ I h => ⟨pins, σ, H, s, ofTry I, h⟩
theorem inv_land (I : Inv X pins σ H s) {s' : Shared} {x : Addr} {cls a0 : Value} {B h6 : Heap} {H' : Hp} (hos : s'.os = s.os) (hg : AllBare s'.gens) (U : Un (frs X.stack) [] H H' s.heap s'.heap) (hok : HOk X.prog X.w H' s'.heap) (hx : H' x = none)
    (cov : ∀ b o, s'.heap.get? b = some o → b ∉ frs X.stack → ((∃ o', s.heap.get? b = some o') ∨ H' b ≠ none) → B.get? b = some o) (fl : Heap.FlyingW B X.stack x cls a0 h6) (up : s'.heap.UpToSlots h6) :
    Inv X pins σ (upd H' x (XO x cls)) { s' with heap := h6 } := by
  obtain ⟨k1, k2, k3, k4⟩ := fl
  obtain ⟨oe, vs, T, oT, ts, e1, ⟨e2, _⟩, e3, _⟩ := k4
  have xnf : x ∉ frs X.stack := fun m => by
    obtain ⟨_, o, ho, hn⟩ := k3.mem m
    rw [e1] at ho
    cases ho
    exact hn _ e3
  have xnew : s.heap.get? x = none := by
    cases z : s.heap.get? x with
    | none => rfl
    | some o =>
      obtain ⟨o', z'⟩ := U.there x o z (by simp)
      have := cov x o' z' xnf (.inl ⟨o, z⟩)
      rw [k2] at this
      cases this
  have nf : ∀ b, b ∈ frs X.stack → H' b = none := fun b hb => by
    obtain ⟨_, o, ho, _⟩ := I.stack.mem hb
    exact U.free b o ho (I.stkFree b hb) (by simp)
  have ne : ∀ b o, s.heap.get? b = some o → b ≠ x := fun b o z y => by rw [y, xnew] at z; cases z
  have nt : ∀ b (u : HO), H' b = some u → b ≠ x := fun b u z y => by rw [y, hx] at z; cases z
  have slots : ∀ b o, s.heap.get? b = some o → b ∈ frs X.stack → ∃ sl, h6.get? b = some { o with slots := sl } := fun b o z hb => by
    obtain ⟨_, o2, ho2, hn2⟩ := I.stack.mem hb
    rw [z] at ho2
    cases ho2
    obtain ⟨sl, z1⟩ := U.slot b o z (I.stkFree b hb) hb (by simp)
    obtain ⟨sl2, z2⟩ := up b _ z1 hn2
    exact ⟨sl2, z2⟩
  refine I.call' (s' := { s' with heap := h6 }) (ch := []) hos ⟨fun b o z n hb _ => ?_, fun b o z n hb _ => slots b o z hb, fun b o z n _ => ?_, fun b o z _ => ?_, fun b xs z => ?_, fun b o u z => ?_, fun b ps z => ?_⟩ (fun b u z => ?_) hg (fun b z => absurd z (by simp))
  · exact k1 b o (cov b o (U.keep b o z n hb (by simp)) hb (.inl ⟨o, z⟩))
  · rw [upd_ne (ne b o z)]
    exact U.free b o z n (by simp)
  · by_cases hb : b ∈ frs X.stack
    · obtain ⟨sl, q⟩ := slots b o z hb
      exact ⟨_, q⟩
    · obtain ⟨o', z'⟩ := U.there b o z (by simp)
      exact ⟨o', k1 b o' (cov b o' z' hb (.inl ⟨o, z⟩))⟩
  · have q := U.tups b xs z
    rw [upd_ne (nt b _ q)]
    exact q
  · have q := U.frzs b o u z
    rw [upd_ne (nt b _ q)]
    exact q
  · obtain ⟨m, q⟩ := U.tbls b ps z
    exact ⟨m, by rw [upd_ne (nt b _ q)]; exact q⟩
  · by_cases hb : b = x
    · subst hb
      rw [upd_same] at z
      cases z
      exact ⟨⟨oe, vs, e1, e2, e3⟩, ⟨oe, e1⟩, fun h1 h2 ⟨o, v, q1, q2, q3⟩ k => ⟨o, v, k o q1, q2, q3⟩⟩
    · rw [upd_ne hb] at z
      refine (hok b u z).stay (fun c v hc q => ?_) (fun c q => ?_) fun c xs q => ?_
      · have hn : H' c ≠ none := by
          rcases hc with rfl | hc
          · rw [z]; simp
          · rw [hc]; simp
        exact k1 c v (cov c v q (fun m => hn (nf c m)) (.inr hn))
      · rw [upd_ne (nt c _ q)]; exact q
      · rw [upd_ne (nt c _ q)]; exact q
theorem name_goes {M : Model} {A : Around} {EE : Value → Shared → Prop} {i : Nat} {n : Str} {pos : Pos} {Q : Unit → Shared → Prop} (I : Inv X pins σ H s) (hN : X.N.Nodup) (hi : X.N[i]? = some n) (hk : X.env.scope.names.lookup n = some .local)
    (h : ∀ s', Inv X pins (σ.set i none) H s' → Q () s') : wpAny M A (do bindName X.env n .none; unbindBehindTheSuite X.env n pos) Q EE s := by
  obtain ⟨m, hn, hl⟩ := id I.loc
  have hiσ : i < σ.length := by rw [I.len]; exact (List.getElem?_eq_some_iff.mp hi).1
  refine wpAny_nameGoes_keeps hk hn (by rw [I.ok.kind]; rfl) fun h' v hn' hs => h _ ?_
  have off : ∀ b o, X.s₀.heap.get? b = some o → ∀ r, s.heap.get? b = some r → h'.get? b = some r := fun b o e r q => (hs.2 b (Nat.ne_of_lt (Nat.lt_of_lt_of_le (Heap.lt_size e) I.ok.above))).trans q
  refine ⟨I.ok, I.os, I.bare, ⟨fun b o e n hb hx => off b o e o (I.base.keep b o e n hb hx), fun b o e n hb hx => ?_, I.base.free, fun b o e hx => ?_, I.base.tups, I.base.frzs, I.base.tbls⟩, ⟨_, hn', fun j y v' e1 e2 e3 => ?_⟩, fun y c e => ?_, I.free, I.freeC, fun p hp => ?_, fun b ob e => ?_, ?_⟩
  · obtain ⟨sl, q⟩ := I.base.slot b o e n hb hx
    exact ⟨sl, off b o e _ q⟩
  · obtain ⟨o', q⟩ := I.base.there b o e hx
    exact ⟨o', off b o e o' q⟩
  · have hj : i ≠ j := fun z => by
      subst z
      rw [List.getElem?_set_self hiσ] at e2
      cases e2
    rw [List.getElem?_set_ne hj] at e2
    have hy : y ≠ n := fun z => hj (nodup_ix hN hi (z ▸ e1))
    obtain ⟨u, r, q⟩ := hl j y v' e1 e2 e3
    refine ⟨u, r, ?_⟩
    rcases q with ⟨k, e⟩ | ⟨k, c, e, z⟩
    · exact .inl ⟨k, (if_neg hy).trans e⟩
    · exact .inr ⟨k, c, e, z.sameBut hs (I.cne y c e)⟩
  · obtain ⟨w', z⟩ := I.cell y c e
    exact ⟨w', z.sameBut hs (I.cne y c e)⟩
  · obtain ⟨e, n', ne, nf, d⟩ := I.pin p hp
    exact ⟨(hs.2 p.1 ne).trans e, n', ne, nf, d⟩
  · obtain ⟨oL, _, _, hoL, _⟩ := hn
    refine (I.hok b ob e).stay (fun c w' hc q => (hs.2 c fun z => ?_).trans q) (fun _ q => q) fun _ _ q => q
    have hf : H c = none := by rw [z]; exact I.free
    rcases hc with hc | hc
    · rw [← hc, hf] at e; cases e
    · rw [hf] at hc; cases hc
  · rw [List.length_set]; exact I.len
end
def off (D : Ends) (i : Nat) : Ends := { nx := fun σ H => D.nx (σ.set i none) H, rt := D.rt, bk := fun σ H => D.bk (σ.set i none) H, ct := fun σ H => D.ct (σ.set i none) H }
def wants (K : PySem.W.Frag) (len i : Nat) (F : Value) (ts : Addr → TS) (D : Ends) : XK := fun cls _ H' => PySem.W.exmOne K cls F = some true ∧ ∀ (x : Addr) (σ' : L2.St), H' x = none → σ'.length = len → ts x (off D i) (σ'.set i (some (.ref x))) (upd H' x (XO x cls))
def tTry (K : PySem.W.Frag) (len i : Nat) (F : Value) (tb : List (Addr × Obj) → XK → TS) (ts : Addr → TS) : TS := fun D σ H => ∀ pn, tb pn (wants K len i F ts D) D σ H
theorem ps_try {X : Cx} {i : Nat} {n fx : Str} {F : Value} {body suite : List Stmt} {b₀ : Stmt} {tb : List (Addr × Obj) → XK → TS} {ts : Addr → TS} {pos hpos np : Pos} (hstk : X.stack = X.env :: X.outer) (hfr : X.env.frame = some X.env.locals) (hN : X.N.Nodup) (hi : X.N[i]? = some n)
    (hk : X.env.scope.names.lookup n = some .local) (hb : ∀ pn E, PSs (Cx.inTry X pn E) body (tb pn E)) (hs : ∀ x, PSs (Cx.got X x) (b₀ :: suite) (ts x)) (hm : X.mg fx = some F) (hg : Gl X fx := by rfl) (hd : (fx == ("__debug__" : Str)) = false := by decide) :
    PS X (.Try body [.ExceptHandler (some (.Name fx np)) (some n) (b₀ :: suite) hpos] [] [] pos) (tTry X.K X.N.length i F tb ts) := by
  intro pins s σ H D I h
  refine wpAny_Try_except (wpAny_mono (hb (X.pn ++ pins) _ [] s σ H D (toTry I _) (h _)) (fun f s1 q => ?_) fun e s1 q => ?_)
  · have q' : SP X pins D f s1 := endTry q
    cases f with
    | next => exact wpAny_execs_nil q'
    | brk => exact q'
    | cont => exact q'
    | ret u => exact q'
  · obtain ⟨pins1, σ1, H1, s0, I1, x, cls, a0, B, H', rfl, hos, hgs, U, hok, fl, hx, cov, hE, hw⟩ := q
    have J : Inv X pins σ1 H1 s0 := outTry I1
    have fl' : Heap.FlyingW B (X.env :: X.outer) x cls a0 s1.heap := hstk ▸ fl
    refine wpAny_looks_onW (outer := X.outer) (by rw [I.ok.frames, hstk]) hfr fl' fun h4 held4 up4 => ?_
    refine wpAny_landsW held4 fun h5 fl5 up5 => ?_
    have up := up4.trans up5
    have fl5' : Heap.FlyingW B X.stack x cls a0 h5 := hstk ▸ fl5
    have J5 := inv_land (x := x) (cls := cls) J hos hgs U hok hx cov fl5' up
    refine wpAny_handleBy_cons (codeAny_handlers_test (ld_glob (toGot J5 x) hg hm ?_ hd)) (fun z => by cases z)
    have ty : ∀ M : Model, PySem.W.Looks M h5 (typeOf (.ref x)) cls := fun M => by
      obtain ⟨ob, ho, hc⟩ := fl5.there
      exact hc ▸ (PySem.W.Looks.ld ho).andThen .now
    refine PySem.W.Looks.here (s := { s1 with heap := h5 }) (PySem.W.exm_one (h := h5) J5.kIn (ty _) hE) ?_
    refine codeAny_handlers_suite_as (lands_againW (s := { s1 with heap := h5 }) fl5 fun h6 fl6 up6 => ?_)
    have fl6' : Heap.FlyingW B X.stack x cls a0 h6 := hstk ▸ fl6
    have J6 := inv_land (x := x) (cls := cls) J hos hgs U hok hx cov fl6' (up.trans up6)
    refine store_ok (X := Cx.got X x) (v := .ref x) (toGot J6 x) hN hi (.inl hk) rfl (fun s7 I7 => ?_) (.inr hk)
    refine wpAny_mono (hs x pins s7 _ _ _ I7 (hw x σ1 hx J.len)) (fun f s8 q => ?_) fun _ _ z => False.elim z
    cases f with
    | next =>
      obtain ⟨σ', H2, I8, q⟩ := q
      exact name_goes (ofGot I.ok I8) hN hi hk fun s9 I9 => ⟨_, _, I9, q⟩
    | brk =>
      obtain ⟨σ', H2, I8, q⟩ := q
      exact name_goes (ofGot I.ok I8) hN hi hk fun s9 I9 => ⟨_, _, I9, q⟩
    | cont =>
      obtain ⟨σ', H2, I8, q⟩ := q
      exact name_goes (ofGot I.ok I8) hN hi hk fun s9 I9 => ⟨_, _, I9, q⟩
    | ret u =>
      obtain ⟨v, σ', H2, I8, r, q⟩ := q
      exact name_goes (ofGot I.ok I8) hN hi hk fun s9 I9 => ⟨v, _, _, I9, r, q⟩
end L3
set_option Elab.async false
set_option linter.all false
set_option maxRecDepth 100000
namespace L3
open PySem PySem.Spec PySem.Calls PyProof.Rows L2
structure XCls (K : PySem.W.Frag) (C : Addr) : Prop where
  cls : (PySem.W.clsIn K C).isSome = true
  ga : PySem.W.findIn K (.ref C) "__getattribute__" = some (some (.builtin "BaseException.__getattribute__"))
  gt : PySem.W.findIn K (.ref C) "__getattr__" = some none
  ca : PySem.W.findIn K (.ref C) "__class__" = some (some (.builtin "object.__class__"))
  get : PySem.W.specialIn K (.builtin "object.__class__") "__get__" = some (some (.builtin "getset_descriptor.__get__"))
  tk : PySem.W.takesIn K (.builtin "object.__class__") = some true
  obj : PySem.W.mroIn K C (.type "object") = some true
  bex : PySem.W.mroIn K C (.type "BaseException") = some true
section
variable {prog : Program} {w : World} {A : Around} {E : Value → Shared → Prop} {K : PySem.W.Frag} {x C : Addr} {s : Shared}
open PySem.W Builtin Builtin.ObjectAttr Builtin.Getset_descriptor
theorem xc_find {M : Model} {h : Heap} (X : K.In h) (Z : XCls K C) : Looks M h (find (.ref x) (.ref C) "__class__") (.bind (.builtin "getset_descriptor.__get__") (.builtin "object.__class__")) := by
  refine (looks_findIn X Z.ca).andThen ((looks_specialIn X Z.get).andThen ?_)
  have q : Looks M h (dataDescriptor? (some (.builtin "object.__class__")) (some (.builtin "getset_descriptor.__get__"))) (some (.builtin "getset_descriptor.__get__", .builtin "object.__class__")) := (looks_takesIn X Z.tk).andThen .now
  exact q.andThen (Looks.tag .now)
theorem xc_get {R : Result → Shared → Prop} {tp : Value} (X : K.In s.heap) (ty : ∀ M : Model, Looks M s.heap (typeOf (.ref x)) (.ref C)) (Z : XCls K C) (h : R (.ok (.ret (.ref C))) s) :
    codeAny (model prog w) A (.call (.builtin "getset_descriptor.__get__") ⟨[.builtin "object.__class__", .ref x, tp], []⟩) R s := by
  cases s with
  | mk hp gs dr tk os =>
    have a := ty (model prog w)
    have b := looks_mroIn (M := model prog w) X Z.obj
    refine codeAny_call_builtin KF.slot_gs.plain KF.entry_gs (KF.slot_gs.check _ _ _ _ _ _ _ _ KF.type_class (KF.args_gs _ _ _) ?_)
    unfold Builtin.«getset_descriptor.__get__» descrGet
    rw [dga_obj]
    refine wpAny_bind (wpAny_pure ?_)
    unfold descrGetter descrCheckInstance descrNameAndClass isInstance
    simp only [KF.owner_class]
    repeat lk
    refine ⟨Code.quiet_builtin _ (by decide +kernel), codeAny_builtin KF.entry_class ?_⟩
    unfold Builtin.«object.__class__» shownTypeOf
    repeat lk
    exact h
theorem xc_check {M : Model} {v : Value} {Q : Unit → Shared → Prop} (X : K.In s.heap) (ty : Looks M s.heap (typeOf (.ref x)) (.ref C)) (Z : XCls K C) (h : Q () s) : wpAny M A (checkBuiltinCall "BaseException.__getattribute__" ⟨[.ref x, v], []⟩) Q E s := by
  cases s with
  | mk hp gs dr tk os =>
    have e1 : builtinKind "BaseException.__getattribute__" = some .slot := by decide +kernel
    have e2 : splitId "BaseException.__getattribute__" = some ("BaseException", "__getattribute__") := by decide +kernel
    have b := looks_mroIn (M := M) X Z.bex
    have c : Looks M hp (isInstance (.ref x) (.type "BaseException")) true := ty.andThen b
    have ar := F.args_bexc_ga (.ref x) v
    simp only [checkBuiltinCall, e1, e2]
    refine wpAny_bind (c.at ?_)
    repeat (first | assumption | wp_step)
theorem xc_class {Q : Option Value → Shared → Prop} (X : K.In s.heap) (ty : ∀ M : Model, Looks M s.heap (typeOf (.ref x)) (.ref C)) (Z : XCls K C) (h : Q (some (.ref C)) { s with toks := s.toks + 1 }) :
    wpAny (model prog w) A (getAttr? (.ref x) "__class__") Q E s := by
  cases s with
  | mk hp gs dr tk os =>
    have a := ty (model prog w)
    have b := looks_findIn (M := model prog w) X Z.ga
    have c := looks_findIn (M := model prog w) X Z.gt
    have f := xc_find (M := model prog w) (x := x) X Z
    have bd := F.attr_ValueError.ga.bind (.ref x)
    unfold getAttr? getAttrBy? getAttrBy
    refine wpAny_bind (wpAny_mkText (wpAny_bind (wpAny_attempt (wpAny_holding (wpAny_bind (a.at (wpAny_bind (b.at ?_))))))))
    have ne : (onTheHeap (Value.ref C) && Value.builtin "BaseException.__getattribute__" == Value.builtin "object.__getattribute__") = false := by
      rw [show (Value.builtin "BaseException.__getattribute__" == Value.builtin "object.__getattribute__") = false by decide +kernel]; rfl
    dsimp only
    rw [if_neg (by rw [ne]; decide)]
    unfold getAttrByItsOwn
    refine wpAny_bind (show wpAny _ _ (hookBefore (.ref C)) _ _ _ from c.at ?_)
    refine wpAny_bind (wpAny_attempt (wpAny_holding ?_))
    unfold callGetattribute
    rw [if_neg (by decide)]
    unfold boundAndCalled
    rw [bd]
    refine wpAny_bind (wpAny_pure (wpAny_call (codeAny_call_builtin F.attr_ValueError.ga.plain F.entry_bexc_ga (xc_check (s := ⟨hp, gs, dr, tk + 1, os⟩) X (ty _) Z ?_))))
    unfold Builtin.«object.__getattribute__»
    refine wpAny_bind (wpAny_pure (wpAny_bind (wpAny_pure (wpAny_bind (a.at (wpAny_bind (f.at ?_)))))))
    show wpAny _ _ (bindTo _ _ _ _) _ _ _
    unfold bindTo
    wp_step
    refine wpAny_holding (wpAny_call (xc_get (s := ⟨hp, gs, dr, tk + 1, os⟩) X ty Z ?_))
    refine wpAny_pure ?_
    show wpAny _ _ (handedOut (.ref C)) _ _ _
    exact wpAny_pure (wpAny_pure h)
def OfC (x C : Addr) : Heap → Prop := fun h => ∃ ob, h.get? x = some ob ∧ ob.cls = .ref C
theorem OfC.ty {h : Heap} (p : OfC x C h) (M : Model) : Looks M h (typeOf (.ref x)) (.ref C) := by
  obtain ⟨ob, ho, hc⟩ := p
  exact hc ▸ (Looks.ld ho).andThen .now
theorem kitx_exc (Z : XCls K C) : KitX K (.ref x) (.ref C) (OfC x C) where
  ty := fun M h _ p => p.ty M
  it := fun M h X _ => by
    obtain ⟨cd, hc⟩ := Option.isSome_iff_exists.mp Z.cls
    unfold clsIn at hc
    split at hc
    case h_1 look =>
      intro A' Q' E' s' k q
      unfold isType loadHead
      exact wpAny_bind (wpAny_loadPart (k _ _ (X _ _ look)) (wpAny_pure q))
    case h_2 => cases hc
  ne := fun h tp dd its n sl X htp => by
    obtain ⟨cd, hc⟩ := Option.isSome_iff_exists.mp Z.cls
    refine Bool.eq_false_iff.mpr fun q => ?_
    obtain rfl : C = tp := Value.ref.inj (beq_iff_eq.mp q)
    unfold clsIn at hc
    split at hc
    case h_1 look =>
      have z := X _ _ look
      rw [htp] at z
      cases z
    case h_2 => cases hc
  ca := fun {prog w A E Q s} X p k => xc_class X p.ty Z k
end
section
variable {X : Cx} {e : Expr} {te : TE} {pos p p2 : Pos} {y : Str}
theorem call_isexc {c : Value} {z : V} (hz : RelV z c) (hu : ∀ u, RelV z u → u = c) : CallR X (.builtin "isinstance") (fun xs H Q => ∃ x C b, xs = [.ref x, z] ∧ H x = some (XO x (.ref C)) ∧ XCls X.K C ∧ PySem.W.kitOne X.K (.ref C) c = some b ∧ Q (.bl b) H) := by
  intro pins s σ H xs us Q I r h
  obtain ⟨x, C, b, rfl, hx, Z, hk, q⟩ := h
  obtain ⟨u, v, rfl, r1, r2⟩ := vals2 r
  obtain rfl : u = Value.ref x := r1
  obtain rfl := hu v r2
  obtain ⟨⟨ob, fs, h1, h2, _⟩, _⟩ := (show ObjOk X.prog X.w H s.heap x (XO x (.ref C)) from I.hok x _ hx)
  exact PySem.W.kia_one (kitx_exc Z) I.kIn ⟨ob, h1, h2⟩ hk (fun z => nomatch z) fun tk => ⟨.bl b, H, I.tok tk, rfl, q⟩
def tIsX (K : PySem.W.Frag) (c : Value) (te : TE) : TE := fun σ H Q => te σ H fun x H1 => ∃ a C b, x = .ref a ∧ H1 a = some (XO a (.ref C)) ∧ XCls K C ∧ PySem.W.kitOne K (.ref C) c = some b ∧ Q (.bl b) H1
theorem pe_isexc {D : Addr} (hm : X.mg "isinstance" = none) (hm2 : X.mg y = some (.ref D)) (he : PE X e te) (hg : Gl X "isinstance" := by rfl) (hg2 : Gl X y := by rfl) (hs : starEach [e, .Name y p2] X.env = (false, eval e X.env) :: starEach [.Name y p2] X.env := by rfl)
    (hpl : (backTo pos (starEach [.Name y p2] X.env)).any (·.1) = false := by rfl) (hyd : (y == ("__debug__" : Str)) = false := by decide) : PE X (.Call (.Name "isinstance" p) [e, .Name y p2] [] pos) (tIsX X.K (.ref D) te) := by
  have q := pe_callB (p := p) (pos := pos) (call_isexc (X := X) (c := .ref D) (z := .ref D) rfl (fun _ h => h)) hg hm b_isinstance (pa_cons he (pa_cons (pe_glob (pos := p2) hg2 hm2 (v := .ref D) rfl hyd) pa_nil star_n) hs) (by decide) (by decide) hs hpl
  have en : (fun (σ : L2.St) (H : Hp) (Q : VK) => te σ H fun x H1 => ∃ a C b, [x, V.ref D] = [.ref a, .ref D] ∧ H1 a = some (XO a (.ref C)) ∧ XCls X.K C ∧ PySem.W.kitOne X.K (.ref C) (.ref D) = some b ∧ Q (.bl b) H1) = tIsX X.K (.ref D) te := by
    funext σ H Q
    unfold tIsX
    simp
  rw [← en]
  exact q
theorem pe_isexcT {T : String} (hm : X.mg "isinstance" = none) (hm2 : X.mg y = none) (hb : bootBuiltins y = some (.type T)) (he : PE X e te) (hg : Gl X "isinstance" := by rfl) (hg2 : Gl X y := by rfl) (hs : starEach [e, .Name y p2] X.env = (false, eval e X.env) :: starEach [.Name y p2] X.env := by rfl)
    (hpl : (backTo pos (starEach [.Name y p2] X.env)).any (·.1) = false := by rfl) (hy : y ≠ "__name__" := by decide) (hyd : (y == ("__debug__" : Str)) = false := by decide) : PE X (.Call (.Name "isinstance" p) [e, .Name y p2] [] pos) (tIsX X.K (.type T) te) := by
  have q := pe_callB (p := p) (pos := pos) (call_isexc (X := X) (c := .type T) (z := .ty T) rfl (fun _ h => h)) hg hm b_isinstance (pa_cons he (pa_cons (pe_bltn (pos := p2) hg2 hm2 hb (v := .ty T) rfl hy hyd) pa_nil star_n) hs) (by decide) (by decide) hs hpl
  have en : (fun (σ : L2.St) (H : Hp) (Q : VK) => te σ H fun x H1 => ∃ a C b, [x, V.ty T] = [.ref a, .ty T] ∧ H1 a = some (XO a (.ref C)) ∧ XCls X.K C ∧ PySem.W.kitOne X.K (.ref C) (.type T) = some b ∧ Q (.bl b) H1) = tIsX X.K (.type T) te := by
    funext σ H Q
    unfold tIsX
    simp
  rw [← en]
  exact q
theorem kit_same {K : PySem.W.Frag} {c : Value} : PySem.W.kitOne K c c = some true := by
  unfold PySem.W.kitOne
  rw [if_pos (by simp)]
end
end L3
set_option Elab.async false
set_option linter.all false
set_option maxRecDepth 100000
namespace L3
open PySem PySem.Spec PyProof.Rows L2
def HasX (P : Program) (w : World) (K : PySem.W.Frag) (mg : Str → Option Value) (base : Heap) (k : Nat) (x : Str) (ps : List Str) (sp : Sp) : Prop :=
  ∃ f fd, FnOk P w K mg base (CXe P w) k f fd ps sp ∧ Binds K fd ps [] ∧ PySem.W.keepIn K (.ref f) = true ∧ mg x = some (.ref f)
theorem Has.x {P : Program} {w : World} {K : PySem.W.Frag} {mg : Str → Option Value} {base : Heap} {k : Nat} {x : Str} {ps : List Str} {sp : Sp} (C : Has P w K mg base k x ps sp) : HasX P w K mg base k x ps sp := by
  obtain ⟨f, fd, F, b, kp, m⟩ := C
  exact ⟨f, fd, F.anyCX, b, kp, m⟩
theorem HasX.mono {P : Program} {w : World} {K : PySem.W.Frag} {mg : Str → Option Value} {base : Heap} {j k : Nat} {x : Str} {ps : List Str} {sp : Sp} (C : HasX P w K mg base j x ps sp) (h : j ≤ k) : HasX P w K mg base k x ps sp := by
  obtain ⟨f, fd, F, b, kp, m⟩ := C
  exact ⟨f, fd, F.mono h, b, kp, m⟩
def tCalX (sp : Sp) (E : XK) (t : TA) : TE := fun σ H Q => t σ H fun vs H1 => sp vs H1 Q E
section
variable {X : Cx} {j k : Nat} {x m : Str} {ps : List Str} {sp : Sp} {e o : Expr} {es : List Expr} {t : TA} {ta : TE} {p pos apos : Pos} {C : Addr} {E : XK}
theorem pe_hasX (F : HasX X.prog X.w X.K X.mg X.base j x ps sp) (hr : Room k X.A) (hj : j ≤ k) (hx : Passes (CXe X.prog X.w) X E) (ha : PA X (e :: es) t) (hg : Gl X x := by rfl) (hdb : (x == ("__debug__" : Str)) = false := by decide)
    (he : starEach (e :: es) X.env = (false, eval e X.env) :: starEach es X.env := by rfl) (hpl : (backTo pos (starEach es X.env)).any (·.1) = false := by rfl) : PE X (.Call (.Name x p) (e :: es) [] pos) (tCalX sp E t) := by
  obtain ⟨f, fd, F, b, kp, m⟩ := F
  have q := pe_call (p := p) (pos := pos) (E := E) (dvs := []) F (hr.mono hj) hg m kp b .nil hx ha hdb he hpl
  intro pins s σ H Q I h
  refine q pins s σ H Q I ?_
  show t σ H fun vs H1 => sp (vs ++ []) H1 Q E
  simp only [List.append_nil]
  exact h
end
section
variable {P : Program} {w : World} {K : PySem.W.Frag} {mg : Str → Option Value} {base : Heap}
theorem Fun.okX {x qual : Str} {st : Stmt} {f : Addr} {fd : FuncData} {N ps : List Str} {k : Nat} {sp : Sp} (F : Fun K x qual st f fd) (S : FnScope N ps (defScope st)) (len : ∀ vs H Q E, sp vs H Q E → vs.length = ps.length)
    (hbody : ∀ (cdv : Value) (A : Around) (outer : List Env) (s : Shared) (H : Hp) (vs : List V) (Q : VK) (E : XK), Room k (A.deeper (envOfC qual (defScope st) s.heap.objs.size f cdv)) → sp vs H Q E →
      ∃ t, PSs (cxOf (CXe P w) P w K mg base N qual (defScope st) f cdv A outer s H E) (defBody st) t ∧ t { nx := fun _ H' => Q .non H', rt := Q } (start N vs) H) : FnOk P w K mg base (CXe P w) (k + 1) f fd ps sp := by
  obtain ⟨oc, od, kV, doc, pm, an, cdv, ct, osl, rfl, lk, hcd⟩ := F.ex
  exact fn_of lk hcd S len fun A outer s H vs Q E hr hsp => hbody cdv A outer s H vs Q E hr hsp
theorem Df.okX {x : Str} {st : Stmt} {N ps : List Str} {k : Nat} {sp : Sp} (D : Df K mg x st ps) (S : FnScope N ps (defScope st)) (len : ∀ vs H Q E, sp vs H Q E → vs.length = ps.length)
    (hbody : ∀ (f : Addr) (cdv : Value) (A : Around) (outer : List Env) (s : Shared) (H : Hp) (vs : List V) (Q : VK) (E : XK), Room k (A.deeper (envOfC x (defScope st) s.heap.objs.size f cdv)) → sp vs H Q E →
      ∃ t, PSs (cxOf (CXe P w) P w K mg base N x (defScope st) f cdv A outer s H E) (defBody st) t ∧ t { nx := fun _ H' => Q .non H', rt := Q } (start N vs) H) : HasX P w K mg base (k + 1) x ps sp := by
  obtain ⟨f, fd, F, b, m⟩ := D
  exact ⟨f, fd, Fun.okX F S len (hbody f), b, F.kp, m⟩
end
end L3
set_option Elab.async false
set_option linter.all false
set_option maxRecDepth 100000
namespace L3
open PySem PySem.Spec PyProof.Rows L2
def HasCX (P : Program) (w : World) (K : PySem.W.Frag) (mg : Str → Option Value) (base : Heap) (k : Nat) (x : Str) (C : Addr) (ps : List Str) (sp : Sp) : Prop :=
  mg x = some (.ref C) ∧ ∃ f fd, Mk K C f ∧ FnOk P w K mg base (CXe P w) k f fd ps sp ∧ Binds K fd ps []
def tNewX (C : Addr) (sp : Sp) (E : XK) (t : TA) : TE := fun σ H Q => t σ H fun vs H1 => ∀ x dx, H1 x = none → H1 dx = none → dx ≠ x →
  sp (.ref x :: vs) (upd (upd H1 dx (.own x)) x (.ins C dx [])) (fun v H2 => v = .non ∧ Q (.ref x) H2) E
section
variable {X : Cx} {j k : Nat} {x : Str} {ps : List Str} {sp : Sp} {e : Expr} {es : List Expr} {t : TA} {p pos : Pos} {C : Addr} {E : XK}
theorem pe_newX (F : HasCX X.prog X.w X.K X.mg X.base j x C ps sp) (hr : Room k X.A) (hj : j + 1 ≤ k) (hx : Passes (CXe X.prog X.w) X E) (ha : PA X (e :: es) t) (hg : Gl X x := by rfl) (hdb : (x == ("__debug__" : Str)) = false := by decide)
    (he : starEach (e :: es) X.env = (false, eval e X.env) :: starEach es X.env := by rfl) (hpl : (backTo pos (starEach es X.env)).any (·.1) = false := by rfl) : PE X (.Call (.Name x p) (e :: es) [] pos) (tNewX C sp E t) := by
  obtain ⟨m, f, fd, M, F, b⟩ := F
  have q := pe_make (p := p) (pos := pos) (E := E) (dvs := []) M F (hr.mono hj) hg m b .nil hx ha hdb he hpl
  intro pins s σ H Q I h
  refine q pins s σ H Q I ?_
  show t σ H fun vs H1 => ∀ x dx, H1 x = none → H1 dx = none → dx ≠ x → sp (.ref x :: (vs ++ [])) (upd (upd H1 dx (.own x)) x (.ins C dx [])) (fun v H2 => v = .non ∧ Q (.ref x) H2) E
  simp only [List.append_nil]
  exact h
end
end L3
set_option Elab.async false
set_option linter.all false
set_option maxRecDepth 100000
namespace L3
open PySem PySem.Spec PyProof.Rows L2
theorem note_same {e : Value} {env env' : Env} (h : env'.frame = env.frame) : noteFrame e env' = noteFrame e env := by
  unfold noteFrame PySem.frameOf
  rw [h]
theorem frames_of {h h' B B' : Heap} (hB : ∀ b, B.get? b = none → B'.get? b = none) : ∀ {l : List Env}, h.FunFrames B l → (∀ b ∈ frs l, h'.get? b = h.get? b) → h'.FunFrames B' l
  | [], _, _ => trivial
  | env :: r, ⟨h1, ⟨L, o, f1, f2, f3, f4⟩, h3⟩, k => by
    have hm : ∀ b ∈ frs r, b ∈ frs (env :: r) := fun b hb => by
      obtain ⟨x, a1, a2⟩ := List.mem_filterMap.mp hb
      exact List.mem_filterMap.mpr ⟨x, List.mem_cons_of_mem _ a1, a2⟩
    exact ⟨h1, ⟨L, o, f1, hB L f2, (k L (List.mem_filterMap.mpr ⟨env, List.mem_cons_self, f1⟩)).trans f3, f4⟩, frames_of hB h3 fun b hb => k b (hm b hb)⟩
def endC (M : Model) (A : Around) (fr : Option Addr) (E : Value → Shared → Prop) (use : Option (Value → Sem Unit)) (Q : Value → Shared → Prop) (acc : Value) (C : Addr) : Result → Shared → Prop
  | .ok f, s' => compPost M A E use Q acc C (.ok f) s'
  | .error x, s' => ∃ m, s'.heap.Ns C m ∧ ∀ h2, Heap.SameBut C s'.heap h2 → ∀ ce : Env, ce.frame = fr → wpAny M A (passOn "comprehension.variables-let-go" x ce : Sem Value) (fun _ _ => False) E { s' with heap := h2 }
theorem comp_endC {M : Model} {A : Around} {E : Value → Shared → Prop} {s : Shared} {env : Env} {ex : Expr} {sc : Scope} {pos : Pos} {mk fst : Sem Value} {c : Comprehension} {cs : List Comprehension} {cl : List (Str × Addr)} {use : Option (Value → Sem Unit)} {Q : Value → Shared → Prop}
    (h1 : clausesOf ex = c :: cs) (h2 : ∀ x, foldedSetIterable c.iter env x = pure x) (h3 : closureFor sc env = pure cl) (hk : sc.kind = .function) (hn : ∀ x ∈ sc.names, x.2 = .local → sc.names.lookup x.1 = some .local)
    (h : wpAny M A fst (fun x s1 => wpAny M A (pyIter x) (fun it s2 => wpAny M A mk (fun acc s3 => wpAny M A (newFunctionEnv sc env.globals cl [] env.qual none .none (some env)) (fun ce s4 =>
        codeAny M A (.compStart ex 0 it acc { ce with scope := relabel sc env }) (endC M A ce.frame E use Q acc ce.locals) s4) E s3) E s2) E s1) E s) :
    wpAny M A (comprehension ex sc env pos mk false fst use) Q E s := by
  unfold comprehension
  rw [h3, h1]
  refine wpAny_bind (thn h fun x s1 q1 => wpAny_bind (wpAny_standAt (wpAny_bind (wpAny_of_eq (h2 x) (wpAny_bind (wpAny_holding (thn q1 fun it s2 q2 => ?_)))))))
  refine wpAny_standIf (wpAny_bind (thn q2 fun acc s3 q3 => wpAny_bind (wpAny_pure (wpAny_bind (thn q3 fun ce s4 q4 => ?_)))))
  dsimp only
  have loc : ∀ l : List (Str × NameKind), (∀ x ∈ l, x ∈ (sc.names.filter fun x => (x.2 == .local || x.2 == .cell) && x.1 != (".0" : Str)).reverse) → ∀ x ∈ l, x.2 = .local → Env.kindOf { ce with scope := relabel sc env } x.1 = some .local :=
    fun l hl x hx e => lookup_relabel_local (hn x (List.mem_filter.mp (List.mem_reverse.mp (hl x hx))).1 e)
  refine wpAny_holding (wpAny_bind (wpAny_attempt (wpAny_holding (wpAny_run (codeAny_mono q4 fun r s5 q5 => ?_)))))
  cases r with
  | error x =>
    obtain ⟨m, a1, a2⟩ := q5
    refine wpAny_bind (wpAny_holding (wpAny_comp_letGo (cenv := { ce with scope := relabel sc env }) hk _ s5 m (loc _ fun _ q => q) a1 fun g m2 _ a3 => ?_))
    exact wpAny_mono (a2 g a3 _ rfl) (fun _ _ f => f.elim) fun _ _ y => y
  | ok f =>
    cases use with
    | none =>
      obtain ⟨m, a1, a2⟩ := q5
      exact wpAny_bind (wpAny_holding (wpAny_comp_letGo (cenv := { ce with scope := relabel sc env }) hk _ s5 m (loc _ fun _ q => q) a1 fun g m2 _ a3 => wpAny_pure (a2 g a3)))
    | some u =>
      refine wpAny_bind (wpAny_rule (wpAny_bind (wpAny_holding (thn (show wpAny M A (u acc) _ E s5 from q5) fun _ s6 q6 => ?_))))
      obtain ⟨m, a1, a2⟩ := q6
      refine wpAny_bind (wpAny_comp_letGo (cenv := { ce with scope := relabel sc env }) hk _ s6 m (loc _ fun y hy => ?_) a1 fun g m2 _ a3 => wpAny_pure (a2 g a3))
      rcases List.mem_append.mp hy with z | z
      · exact List.mem_of_mem_drop z
      · exact List.mem_of_mem_take z
section
variable {P : Program} {w : World} {K : PySem.W.Frag} {mg : Str → Option Value} {base : Heap} {N : List Str} {qual : Str} {scope : Scope} {f : Addr} {cd : Value} {A : Around} {outer : List Env} {s₀ s : Shared} {H₀ H : Hp} {E : XK}
variable {pins : List (Addr × Obj)} {σ : L2.St}
theorem note_lc {C : Addr} {m0 : Str → Option Value} {e : Value} {s' : Shared} {cenv : Env} (I : Inv (cxOf (CXe P w) P w K mg base N qual scope f cd A outer s₀ H₀ E) pins σ H s)
    (hC : C ∉ frs (envOfC qual scope s₀.heap.objs.size f cd :: outer)) (hn : s.heap.Ns C m0) (h0 : H C = none) (hs0 : s₀.heap.objs.size ≤ C) (hcf : cenv.frame = some s₀.heap.objs.size)
    (hc : CXe P w (envOfC qual scope s₀.heap.objs.size f cd :: outer) H s E e s') :
    notedBy (model P w) (A.deeper (envOfC qual scope s₀.heap.objs.size f cd)) cenv (fun x s2 => ∃ m, s2.heap.Ns C m ∧ ∀ h2, Heap.SameBut C s2.heap h2 → ∀ ce : Env, ce.frame = some s₀.heap.objs.size →
      wpAny (model P w) (A.deeper (envOfC qual scope s₀.heap.objs.size f cd)) (passOn "comprehension.variables-let-go" x ce : Sem Value) (fun _ _ => False) (cxOf (CXe P w) P w K mg base N qual scope f cd A outer s₀ H₀ E).xe { s2 with heap := h2 }) e s' := by
  obtain ⟨x, cls, a0, B, H', rfl, hos, hg, U, hok, fl, hx, cov, q⟩ := hc
  have hff : (envOfC qual scope s₀.heap.objs.size f cd).frame = some s₀.heap.objs.size := rfl
  have nl : ∀ b o, s₀.heap.get? b = some o → b ≠ s₀.heap.objs.size := fun b o hb => Nat.ne_of_lt (Heap.lt_size hb)
  have nC : ∀ b o, s₀.heap.get? b = some o → b ≠ C := fun b o hb => Nat.ne_of_lt (Nat.lt_of_lt_of_le (Heap.lt_size hb) hs0)
  have ff : s.heap.FunFrames base (envOfC qual scope s₀.heap.objs.size f cd :: outer) := I.stack
  have B0 : Un (frs outer) [] H₀ H s₀.heap s.heap := I.base
  have sub : ∀ b, b ∈ frs outer → b ∈ frs (envOfC qual scope s₀.heap.objs.size f cd :: outer) := fun b hf => by
    obtain ⟨env, h1, h2⟩ := List.mem_filterMap.mp hf
    exact List.mem_filterMap.mpr ⟨env, List.mem_cons_of_mem _ h1, h2⟩
  have nf : ∀ b, b ∈ frs (envOfC qual scope s₀.heap.objs.size f cd :: outer) → H' b = none := fun b hb => by
    obtain ⟨_, o, ho, _⟩ := ff.mem hb
    exact U.free b o ho (I.stkFree b hb) (by simp)
  obtain ⟨oC, es, ep, hoC, hdC, rC⟩ := hn
  have eC : s'.heap.get? C = some oC := U.keep C oC hoC h0 hC (by simp)
  have hC' : H' C = none := U.free C oC hoC h0 (by simp)
  have nfC : ∀ vs, oC.data ≠ .fields vs := fun vs z => by rw [hdC] at z; cases z
  show wpAny _ _ (noteFrame (.ref x) cenv) _ _ s'
  rw [note_same (env := envOfC qual scope s₀.heap.objs.size f cd) (hcf.trans hff.symm)]
  refine wpAny_looks_onW I.ok.frames hff fl fun h1 hd up => ?_
  obtain ⟨sl, eC1⟩ := up C oC eC nfC
  refine ⟨m0, ⟨_, es, ep, eC1, hdC, rC⟩, fun h2 hsb ce hce => ?_⟩
  have hsb : Heap.SameBut C h1 h2 := hsb
  obtain ⟨d1, d2, d3, oe, vs, T, oT, ts, he, hcls, hdv, hv1, hnT, hTe, hT, hdT, h3⟩ := hd
  have xC : x ≠ C := fun z => by
    rw [z, eC1] at he
    cases he
    exact nfC vs hdv
  have TC : T ≠ C := fun z => by
    rw [z, eC1] at hT
    cases hT
    exact nfC ts hdT
  have hB2 : ∀ b, B.get? b = none → (B.hide C).get? b = none := fun b hb => by
    by_cases z : b = C
    · rw [z]; exact Heap.hide_self B C
    · rw [Heap.hide_ne B z]; exact hb
  have toB : ∀ b o, (B.hide C).get? b = some o → b ≠ C ∧ B.get? b = some o := fun b o hb => by
    by_cases z : b = C
    · rw [z, Heap.hide_self] at hb; cases hb
    · rw [Heap.hide_ne B z] at hb; exact ⟨z, hb⟩
  have he2 : h2.get? x = some oe := (hsb.2 x xC).trans he
  have hT2 : h2.get? T = some oT := (hsb.2 T TC).trans hT
  have held : Heap.HeldW (B.hide C) (envOfC qual scope s₀.heap.objs.size f cd :: outer) x cls a0 s₀.heap.objs.size h2 :=
    ⟨fun b o hb => (hsb.2 b (toB b o hb).1).trans (d1 b o (toB b o hb).2), hB2 x d2, frames_of hB2 d3 fun b hb => hsb.2 b fun z => hC (z ▸ hb), oe, vs, T, oT, ts, he2, hcls, hdv, hv1, hB2 T hnT, hTe, hT2, hdT, h3⟩
  have hsz : 3 < ts.size := (Array.getElem?_eq_some_iff.mp h3).1
  have leave : (cxOf (CXe P w) P w K mg base N qual scope f cd A outer s₀ H₀ E).xe (.ref x) { s' with heap := h2 } := by
    show wpAny _ _ (leaving _ (.ref x)) _ _ _
    unfold leaving
    refine wpAny_bind (wpAny_noteFrame_againW hff held.2.2.2 ?_)
    refine wpAny_landsW held fun h4 fl4 up4 => ?_
    obtain ⟨k1, k2, ⟨_, _, k3⟩, k4⟩ := fl4
    have st : ∀ b o, B.get? b = some o → b ≠ C → h4.get? b = some o := fun b o hb hne => k1 b o ((Heap.hide_ne B hne).trans hb)
    have frm : ∀ b o, s'.heap.get? b = some o → b ∈ frs outer → ∃ sl, h4.get? b = some { o with slots := sl } := fun b o hb hf => by
      obtain ⟨_, o', ho', hnf⟩ := fl.2.2.1.mem (sub b hf)
      rw [hb] at ho'
      obtain rfl := Option.some.inj ho'
      obtain ⟨sl1, e1⟩ := up b o hb hnf
      have e2 : h2.get? b = some { o with slots := sl1 } := (hsb.2 b fun z => hC (z ▸ sub b hf)).trans e1
      obtain ⟨sl2, e3⟩ := up4 b _ e2 hnf
      exact ⟨sl2, e3⟩
    have keepT : ∀ b o, s'.heap.get? b = some o → H' b ≠ none → h4.get? b = some o := fun b o hb hn => st b o (cov b o hb (fun m => hn (nf b m)) (.inr hn)) fun z => hn (z ▸ hC')
    refine cxe_of I rfl hos hg (fun b o h1 h2 h3 => ?_) (fun b o h1 h2 h3 => ?_) (fun b o h1 h2 => ?_) (fun b o h1 => ?_) (fun b xs h => U.tups b xs (B0.tups b xs h)) (fun b o u h => U.frzs b o u (B0.frzs b o u h)) (fun b ps h => ?_) (L3.HOk.held hok keepT) ⟨k1, k2, k3, k4⟩ hx (fun b o h1 h2 h3 => ?_) q
    · have e1 := B0.keep b o h1 h2 h3 (by simp)
      have n2 := frs_cons hff (nl b o h1) h3
      have e2 := U.keep b o e1 (B0.free b o h1 h2 (by simp)) n2 (by simp)
      exact st b o (cov b o e2 n2 (.inl ⟨o, e1⟩)) (nC b o h1)
    · obtain ⟨sl, e1⟩ := B0.slot b o h1 h2 h3 (by simp)
      obtain ⟨sl2, e2⟩ := U.slot b _ e1 (B0.free b o h1 h2 (by simp)) (sub b h3) (by simp)
      obtain ⟨sl3, e3⟩ := frm b _ e2 h3
      exact ⟨sl3, e3⟩
    · by_cases hf : b ∈ frs outer
      · exact nf b (sub b hf)
      · exact U.free b o (B0.keep b o h1 h2 hf (by simp)) (B0.free b o h1 h2 (by simp)) (by simp)
    · obtain ⟨o1, e1⟩ := B0.there b o h1 (by simp)
      obtain ⟨o2, e2⟩ := U.there b o1 e1 (by simp)
      by_cases hf : b ∈ frs outer
      · obtain ⟨sl, e3⟩ := frm b o2 e2 hf
        exact ⟨_, e3⟩
      · exact ⟨o2, st b o2 (cov b o2 e2 (frs_cons hff (nl b o h1) hf) (.inl ⟨o1, e1⟩)) (nC b o h1)⟩
    · obtain ⟨m1, e1⟩ := B0.tbls b ps h
      obtain ⟨m2, e2⟩ := U.tbls b _ e1
      exact ⟨m1 ++ m2, by rw [e2, Array.append_assoc]⟩
    · have ex : ∃ o', s'.heap.get? b = some o' ∧ b ∉ frs (envOfC qual scope s₀.heap.objs.size f cd :: outer) ∧ ((∃ o', s.heap.get? b = some o') ∨ H' b ≠ none) ∧ b ≠ C := by
        rcases h3 with ⟨o', h3⟩ | h3
        · obtain ⟨o1, e1⟩ := B0.there b o' h3 (by simp)
          obtain ⟨o2, e2⟩ := U.there b o1 e1 (by simp)
          exact ⟨o2, e2, frs_cons hff (nl b o' h3) h2, .inl ⟨o1, e1⟩, nC b o' h3⟩
        · cases z : H' b with
          | none => exact absurd z h3
          | some ob =>
            obtain ⟨o2, e2⟩ := ObjOk.some (hok b ob z)
            exact ⟨o2, e2, (fun m => h3 (nf b m)), .inr (by simp), fun y => h3 (y ▸ hC')⟩
      obtain ⟨o', e1, n1, c1, c2⟩ := ex
      have e2 := cov b o' e1 n1 c1
      have e3 := st b o' e2 c2
      have h1' : h4.get? b = some o := h1
      rw [h1'] at e3
      rw [Option.some.inj e3]
      exact (Heap.hide_ne B c2).trans e2
  unfold PySem.passOn
  refine wpAny_bind (wpAny_field he2 hdv hv1 ?_)
  rw [if_neg (show ¬ ((Value.ref T == Value.none) = true) from by simp)]
  have step : wpAny (model P w) (A.deeper (envOfC qual scope s₀.heap.objs.size f cd)) (do setFlight (.ref x) ce.frame; (throw (.ref x) : Sem Value)) (fun _ _ => False) (cxOf (CXe P w) P w K mg base N qual scope f cd A outer s₀ H₀ E).xe { s' with heap := h2 } := by
    rw [hce]
    unfold setFlight
    refine wpAny_bind (wpAny_bind (wpAny_field he2 hdv hv1 ?_))
    rw [if_pos (show (Value.ref T != Value.none) = true from by simp)]
    show wpAny _ _ (setField (.ref T) 3 (rawInt s₀.heap.objs.size)) _ _ _
    refine wpAny_setField hT2 hdT hsz ?_
    show wpAny _ _ _ _ _ { s' with heap := _ }
    rw [Heap.update_setField_same h2 T oT ts 3 (rawInt s₀.heap.objs.size) hT2 hdT h3]
    exact wpAny_throw leave
  first
    | exact step
    | exact wpAny_bind (wpAny_pure step)
end
section
variable {X : Cx} {pins : List (Addr × Obj)} {σ : L2.St} {H : Hp} {s : Shared} {scope : Scope} {cl : List (Str × Addr)} {nl : List Str} {js : List Nat} {fp : List Addr} {E : XK}
def xeLc (X : Cx) (scope : Scope) (cl : List (Str × Addr)) (nl : List Str) (js : List Nat) (fp : List Addr) (s : Shared) (H : Hp) (E : XK) : Value → Shared → Prop :=
  fun e s' => ∃ pl σ1 H1 s1, Inv (cxLc X scope cl nl js fp s H) pl σ1 H1 s1 ∧ CXe X.prog X.w X.stack H1 s1 E e s'
def cxLcX (X : Cx) (scope : Scope) (cl : List (Str × Addr)) (nl : List Str) (js : List Nat) (fp : List Addr) (s : Shared) (H : Hp) (E : XK) : Cx where
  prog := X.prog
  w := X.w
  K := X.K
  mg := X.mg
  base := X.base
  A := X.A
  N := lcNames X.N nl js
  s₀ := s
  H₀ := H
  env := compEnvC scope cl s.heap.objs.size X.env
  outer := X.stack
  stack := X.stack
  ex := fp
  fn := fun _ => false
  calm := X.calm
  pn := []
  xe := xeLc X scope cl nl js fp s H E
theorem lcx_of {s1 : Shared} {H1 : Hp} {σ1 : L2.St} {pl : List (Addr × Obj)} (I : Inv (cxLc X scope cl nl js fp s H) pl σ1 H1 s1) : Inv (cxLcX X scope cl nl js fp s H E) pl σ1 H1 s1 :=
  ⟨⟨I.ok.mod, I.ok.kind, I.ok.glob, I.ok.blt, I.ok.above, I.ok.inj, I.ok.has, I.ok.cab, I.ok.hd, I.ok.frames, I.ok.stk, I.ok.exf, I.ok.bs, I.ok.bsz, I.ok.noex, I.ok.exfs, I.ok.funs, I.ok.frf⟩, I.os, I.bare, I.base, I.loc, I.cell, I.free, I.freeC, I.pin, I.hok, I.len⟩
theorem of_lcx {s1 : Shared} {H1 : Hp} {σ1 : L2.St} {pl : List (Addr × Obj)} (I : Inv (cxLcX X scope cl nl js fp s H E) pl σ1 H1 s1) : Inv (cxLc X scope cl nl js fp s H) pl σ1 H1 s1 :=
  ⟨⟨I.ok.mod, I.ok.kind, I.ok.glob, I.ok.blt, I.ok.above, I.ok.inj, I.ok.has, I.ok.cab, I.ok.hd, I.ok.frames, I.ok.stk, I.ok.exf, I.ok.bs, I.ok.bsz, I.ok.noex, I.ok.exfs, I.ok.funs, I.ok.frf⟩, I.os, I.bare, I.base, I.loc, I.cell, I.free, I.freeC, I.pin, I.hok, I.len⟩
theorem pass_lc : Passes (CXe (cxLcX X scope cl nl js fp s H E).prog (cxLcX X scope cl nl js fp s H E).w) (cxLcX X scope cl nl js fp s H E) E := fun pl σ1 H1 s1 _ _ I hc => ⟨pl, σ1, H1, s1, of_lcx I, hc⟩
end
section
variable {X : Cx} {pins : List (Addr × Obj)} {σ : L2.St} {H : Hp} {s : Shared} {elt tg iter : Expr} {ifs : List Expr} {scope : Scope} {pos : Pos} {nl : List Str} {js : List Nat} {g : List (Str × Addr) → List Addr → Shared → Hp → TG} {tc : List (Str × Addr) → List Addr → Shared → Hp → TT} {te : List (Str × Addr) → List Addr → Shared → Hp → TE} {wi : TI} {E : XK}
structure LcPartsX (X : Cx) (E : XK) (scope : Scope) (nl : List Str) (js : List Nat) (tg : Expr) (ifs : List Expr) (elt : Expr) (g : List (Str × Addr) → List Addr → Shared → Hp → TG) (tc : List (Str × Addr) → List Addr → Shared → Hp → TT) (te : List (Str × Addr) → List Addr → Shared → Hp → TE) : Prop where
  sc : LcScope scope X.env.scope X.N nl js
  calm : X.calm = true
  tgt : ∀ cl fp s H, PG (cxLcX X scope cl nl js fp s H E) tg (g cl fp s H)
  tst : ∀ cl fp s H, PIf (cxLcX X scope cl nl js fp s H E) ifs (tc cl fp s H)
  el : ∀ cl fp s H, PE (cxLcX X scope cl nl js fp s H E) elt (te cl fp s H)
theorem lc_blockX {it : Addr} {fp : List Addr} {tn : Nat → Heap → Prop} {J : It} {cl : List (Str × Addr)} {Er : Value → Shared → Prop} {Q : Addr → Hp → Prop} {RR : Value → Addr → Option Addr → Result → Shared → Prop}
    (L : LcPartsX X E scope nl js tg ifs elt g tc te) (I : Inv X pins σ H s) (T : Turn X.prog X.w X.K tg J fp it tn) (st : tn 0 s.heap) (hfp : ∀ b ∈ fp, FpOk X pins H b)
    (hc2 : ∀ x c, cl.lookup x = some c → X.env.cells.lookup x = some c) (hc3 : ∀ x ∈ scope.names, x.2 = .free → ∃ c, cl.lookup x.1 = some c)
    (h : ∀ D, H D = none → ∀ cl fp sb Hb, LcTurns nl js J (g cl fp sb Hb) (tc cl fp sb Hb) (te cl fp sb Hb) σ H D (Q D))
    (hRR : ∀ D C s' H' m', s'.heap.Ns C m' → Inv X pins σ H' s' → H' C = none → X.env.locals < C → (∀ x c, X.env.cells.lookup x = some c → c < C) → (∀ p ∈ X.pn ++ pins, p.1 < C) → X.s₀.heap.objs.size ≤ C → Q D H' → RR (.ref D) C X.env.frame (.ok .next) s')
    (hER : ∀ D C s1 H1 m1 e s', Inv X pins σ H1 s1 → s1.heap.Ns C m1 → H1 C = none → X.s₀.heap.objs.size ≤ C → C ∉ frs X.stack → CXe X.prog X.w X.stack H1 s1 E e s' → ∀ ce : Env, ce.frame = X.env.frame → notedBy (model X.prog X.w) X.A ce (fun x s2 => RR (.ref D) C X.env.frame (.error x) s2) e s') :
    wpAny (model X.prog X.w) X.A (newList []) (fun acc s₃ => wpAny (model X.prog X.w) X.A (newFunctionEnv scope X.env.globals cl [] X.env.qual none .none (some X.env)) (fun cenv s₄ =>
      codeAny (model X.prog X.w) X.A (.compStart (.ListComp elt [⟨tg, iter, ifs, 0⟩] scope pos) 0 (.ref it) acc { cenv with scope := relabel scope X.env }) (RR acc cenv.locals cenv.frame) s₄) Er s₃) Er s := by
  refine wpAny_newObj_type (wpAny_newFunctionEnv L.sc.nocell (by intro y hy; simp at hy) (fun h₁ hns₁ hsb₁ => ?_) L.sc.kind)
  dsimp only at hns₁ hsb₁ ⊢
  have hlt : ∀ b ∈ fp, b < s.heap.objs.size := fun b hb => by
    obtain ⟨o, e, _⟩ := T.obj 0 _ st b hb
    exact Heap.lt_size e
  have ID : Inv X pins σ (upd H s.heap.objs.size (.lst [])) { s with heap := s.heap.push { cls := .type "list", data := .seq ([] : List Value).toArray }, toks := s.toks } := I.lnew (its := []) (ys := []) .nil (Nat.zero_le _)
  have zD : (s.heap.push { cls := .type "list", data := .seq ([] : List Value).toArray }).objs.size = s.heap.objs.size + 1 := Heap.size_push ..
  have neD : ∀ b ∈ fp, b ≠ s.heap.objs.size := fun b hb => Nat.ne_of_lt (hlt b hb)
  have hfpD : ∀ b ∈ fp, FpOk X pins (upd H s.heap.objs.size (.lst [])) b := fun b hb => by
    obtain ⟨f0, f1⟩ := hfp b hb
    exact ⟨by rw [upd_ne (neD b hb)]; exact f0, f1⟩
  have old : ∀ b o, (s.heap.push { cls := .type "list", data := .seq ([] : List Value).toArray }).get? b = some o → h₁.get? b = some o := fun b o e =>
    hsb₁.extBut b o (Nat.ne_of_lt (Heap.lt_size e)) (Heap.get?_push_of_some _ e)
  have IB0 := lc_enter (tk := s.toks + ([] : List (Str × Value)).length) (fp := fp) (cl := cl) ID L.sc hc2 hc3 hfpD (fun b hb => by show b < (s.heap.push _).objs.size; rw [zD]; exact Nat.lt_succ_of_lt (hlt b hb)) hns₁ old
  have IB := lcx_of (E := E) IB0
  have st₁ : tn 0 h₁ := T.keep _ _ _ st fun b _ o e => old b o (Heap.get?_push_of_some _ e)
  obtain ⟨W, ⟨m0, w0⟩, turn⟩ := h s.heap.objs.size (I.hok.fresh (Nat.le_refl _)) cl fp { s with heap := s.heap.push { cls := .type "list", data := .seq ([] : List Value).toArray }, toks := s.toks } (upd H s.heap.objs.size (.lst []))
  have loop : ∀ s₃ : Shared, s₃ = { s with heap := h₁, toks := s.toks + ([] : List (Str × Value)).length } →
      codeAny (model X.prog X.w) X.A (.compLoop (.ListComp elt [⟨tg, iter, ifs, 0⟩] scope pos) 0 (.ref it) (.ref s.heap.objs.size) (compEnvC scope cl (s.heap.push { cls := .type "list", data := .seq ([] : List Value).toArray }).objs.size X.env))
        (RR (.ref s.heap.objs.size) (s.heap.push { cls := .type "list", data := .seq ([] : List Value).toArray }).objs.size X.env.frame) s₃ := by
    rintro s₃ rfl
    have nn0 : ∀ (e : Value) (s' : Shared), (cxLcX X scope cl nl js fp { s with heap := s.heap.push { cls := .type "list", data := .seq ([] : List Value).toArray }, toks := s.toks } (upd H s.heap.objs.size (.lst [])) E).xe e s' →
        notedBy (model X.prog X.w) X.A (compEnvC scope cl (s.heap.push { cls := .type "list", data := .seq ([] : List Value).toArray }).objs.size X.env) (fun x s2 => RR (.ref s.heap.objs.size) (s.heap.push { cls := .type "list", data := .seq ([] : List Value).toArray }).objs.size X.env.frame (.error x) s2) e s' := fun e s' z => by
      obtain ⟨pl, σ1, H1, s1, J1, c1⟩ := z
      obtain ⟨m1, n1, _⟩ := J1.loc
      refine hER _ _ s1 H1 m1 e s' (lc_leave I hfp (Inv.unpinned (pins := []) J1)) n1 J1.free ?_ (fun hm => ?_) c1 _ rfl
      · show X.s₀.heap.objs.size ≤ (s.heap.push _).objs.size
        rw [zD]; exact Nat.le_succ_of_le I.sz
      · obtain ⟨_, o, ho, _⟩ := I.stack.mem hm
        have := Heap.lt_size ho
        have this : (s.heap.push { cls := .type "list", data := .seq ([] : List Value).toArray }).objs.size < s.heap.objs.size := this
        rw [zD] at this
        omega
    generalize hXB : cxLcX X scope cl nl js fp { s with heap := s.heap.push { cls := .type "list", data := .seq ([] : List Value).toArray }, toks := s.toks } (upd H s.heap.objs.size (.lst [])) E = XB at IB nn0
    have eP : XB.prog = X.prog := by rw [← hXB]; rfl
    have eW : XB.w = X.w := by rw [← hXB]; rfl
    have eK : XB.K = X.K := by rw [← hXB]; rfl
    have eA : XB.A = X.A := by rw [← hXB]; rfl
    have eC : XB.calm = true := by rw [← hXB]; exact L.calm
    have eE : XB.env = compEnvC scope cl (s.heap.push { cls := .type "list", data := .seq ([] : List Value).toArray }).objs.size X.env := by rw [← hXB]; rfl
    have tgt : PG XB tg (g cl fp { s with heap := s.heap.push { cls := .type "list", data := .seq ([] : List Value).toArray }, toks := s.toks } (upd H s.heap.objs.size (.lst []))) := by rw [← hXB]; exact L.tgt _ _ _ _
    have tst : PIf XB ifs (tc cl fp { s with heap := s.heap.push { cls := .type "list", data := .seq ([] : List Value).toArray }, toks := s.toks } (upd H s.heap.objs.size (.lst []))) := by rw [← hXB]; exact L.tst _ _ _ _
    have el : PE XB elt (te cl fp { s with heap := s.heap.push { cls := .type "list", data := .seq ([] : List Value).toArray }, toks := s.toks } (upd H s.heap.objs.size (.lst []))) := by rw [← hXB]; exact L.el _ _ _ _
    have fB : ∀ {H' : Hp}, (∀ b ∈ fp, H' b = none) → ∀ b ∈ fp, FpOk XB [] H' b := fun {H'} hn b hb => by
      rw [← hXB]
      refine ⟨hn b hb, ?_, ?_, .inl hb, fun x c hx => ?_, fun p hp => absurd (show p ∈ ([] : List (Addr × Obj)) from hp) List.not_mem_nil⟩
      · show b ≠ (s.heap.push _).objs.size
        rw [zD]; exact Nat.ne_of_lt (Nat.lt_succ_of_lt (hlt b hb))
      · intro hf
        rcases List.mem_cons.mp (I.stkSub b hf) with z | z
        · exact (hfp b hb).2.1 z
        · exact (hfp b hb).2.2.1 z
      · exact (hfp b hb).2.2.2.2.1 x c (hc2 x c hx)
    have leave : ∀ {σ' : L2.St} {H' : Hp} {s' : Shared}, Inv XB [] σ' H' s' → Inv X pins σ H' s' := fun {σ' H' s'} J' => by
      rw [← hXB] at J'
      exact lc_leave I hfp (of_lcx J')
    rw [← eE] at nn0 ⊢
    refine lc_loop (fun n s' => ∃ i ys σ' H', Inv XB [] σ' H' s' ∧ tn i s'.heap ∧ (∀ b ∈ fp, H' b = none) ∧ W i n ys σ' H') ?_ m0 ⟨0, [], _, _, IB, st₁, fun b hb => (hfpD b hb).1, w0⟩
    rintro n s3 ⟨i, ys, σ3, H3, I3, st3, fr3, w3⟩
    rcases turn i n ys σ3 H3 w3 with ⟨stop, qn⟩ | ⟨go, step⟩
    · rw [← eA]
      refine wpAny_mono (T.done XB eP eW eK eC i [] s3 σ3 H3 (fun _ _ => False) I3 (fB fr3) st3 stop) (fun r s4 ⟨hr, I4⟩ => ?_) fun _ _ z => z.elim
      subst hr
      obtain ⟨m', hn', _⟩ := I4.loc
      have hL : XB.env.locals = s.heap.objs.size + 1 := by rw [eE]; exact zD
      rw [hL] at hn'
      have fC : H3 (s.heap.objs.size + 1) = none := by rw [← hL]; exact I4.free
      rw [zD]
      refine hRR _ _ s4 H3 m' hn' (leave I4) fC (Nat.lt_succ_of_lt I.lt) (fun x c hx => ?_) (fun p hp => ?_) (Nat.le_succ_of_le I.sz) qn
      · obtain ⟨v, o, ho, _⟩ := I.cell x c hx
        exact Nat.lt_succ_of_lt (Heap.lt_size ho)
      · exact Nat.lt_succ_of_lt (Heap.lt_size (I.pin p hp).1)
    · rw [← eA] at nn0 ⊢
      refine wpAny_mono (T.item XB eP eW eK eC i [] s3 σ3 H3 (fun _ _ => False) I3 (fB fr3) st3 go) (fun r s4 ⟨u, hr, h4⟩ => ?_) fun _ _ z => z.elim
      subst hr
      refine wpAny_mono h4 (fun _ s5 ⟨x, H5, I5, r5, y5, st5, fr5⟩ => ?_) fun _ _ z => z.elim
      have I5' := I5.pinned (fB fr5) (T.obj _ _ st5)
      have back : ∀ {σ7 : L2.St} {H7 : Hp} {s7 : Shared}, Inv XB ([] ++ pinsAt fp s5.heap) σ7 H7 s7 → tn (i + 1) s7.heap ∧ ∀ b ∈ fp, H7 b = none := fun {σ7 H7 s7} I7 => by
        refine ⟨T.keep _ _ _ st5 fun b hb o e => (I7.pin (b, o) (List.mem_append_right _ (List.mem_append_right _ (mem_pinsAt hb e)))).1, fun b hb => ?_⟩
        obtain ⟨o, e, d⟩ := T.obj _ _ st5 b hb
        exact (I7.pin (b, o) (List.mem_append_right _ (List.mem_append_right _ (mem_pinsAt hb e)))).2.1
      have h6 := tgt _ s5 σ3 H5 x u _ I5' r5 (step x H5 y5)
      rw [eP, eW] at h6
      refine wpAny_mono h6 (fun _ s6 ⟨σ6, H6, I6, q6⟩ => ?_) nn0
      have h7 := tst _ s6 σ6 H6 _ I6 q6
      rw [eP, eW] at h7
      refine wpAny_mono h7 (fun ok s7 ⟨H7, I7, q7⟩ => ?_) nn0
      cases ok with
      | false =>
        obtain ⟨m', hm, w7⟩ := q7
        obtain ⟨st7, fr7⟩ := back I7
        exact ⟨m', hm, i + 1, ys, σ6, H7, I7.unpinned, st7, fr7, w7⟩
      | true =>
        have h8 := el _ s7 σ6 H7 _ I7 q7
        rw [eP, eW] at h8
        refine wpAny_mono h8 (fun v s8 ⟨y, H8, I8, r8, hD, hz, m', hm, w8⟩ => ?_) nn0
        have h9 := mt_append (X := XB) _ s8 σ6 H8 (.ref s.heap.objs.size) [y] (.ref s.heap.objs.size) [v] (fun r H9 => H9 = upd H8 s.heap.objs.size (.lst (ys ++ [y]))) I8 rfl (.cons r8 .nil) ⟨_, ys, y, rfl, rfl, hD, hz, rfl⟩
        rw [eP, eW] at h9
        refine wpAny_mono h9 (fun _ s9 ⟨_, H9, I9, _, e9⟩ => ?_) nn0
        subst e9
        obtain ⟨st9, fr9⟩ := back I9
        exact ⟨m', hm, i + 1, _, σ6, _, I9.unpinned, st9, fr9, w8⟩
  have hself := T.self X.A 0 { s with heap := h₁, toks := s.toks + ([] : List (Str × Value)).length }
  exact codeAny_compStart_list (loop _ rfl) (hself _ _ st₁ (loop _ rfl))
end
section
variable {P : Program} {w : World} {K : PySem.W.Frag} {mg : Str → Option Value} {base : Heap} {N : List Str} {qual : Str} {dsc : Scope} {f : Addr} {cd : Value} {A : Around} {outer : List Env} {s₀ : Shared} {H₀ : Hp} {E : XK}
variable {elt tg iter : Expr} {ifs : List Expr} {scope : Scope} {pos : Pos} {nl : List Str} {js : List Nat} {g : List (Str × Addr) → List Addr → Shared → Hp → TG} {tc : List (Str × Addr) → List Addr → Shared → Hp → TT} {te : List (Str × Addr) → List Addr → Shared → Hp → TE} {wi : TI}
theorem ps_lcsetX {i : Nat} {y : Str} {py spos : Pos} (hN : N.Nodup) (hy : N[i]? = some y) (hx : Loc dsc y)
    (hi : PI (cxOf (CXe P w) P w K mg base N qual dsc f cd A outer s₀ H₀ E) tg iter wi) (L : LcPartsX (cxOf (CXe P w) P w K mg base N qual dsc f cd A outer s₀ H₀ E) E scope nl js tg ifs elt g tc te)
    (hsw : swapsWith (.ListComp elt [⟨tg, iter, ifs, 0⟩] scope pos) (some (.Name y py)) spos.line (envOfC qual dsc s₀.heap.objs.size f cd) = pure true := by rfl) (hs : ∀ x, foldedSetIterable iter (envOfC qual dsc s₀.heap.objs.size f cd) x = pure x := by intro _; rfl) :
    PS (cxOf (CXe P w) P w K mg base N qual dsc f cd A outer s₀ H₀ E) (.Assign [.Name y py] (.ListComp elt [⟨tg, iter, ifs, 0⟩] scope pos) spos) (tAsg (tLc nl js wi g tc te) (gName i)) := by
  intro pins s σ H D I h
  show wpAny _ _ (exec _ (envOfC qual dsc s₀.heap.objs.size f cd)) _ _ s
  rw [exec_Assign_Name_used _ _ _ _ hsw]
  refine wpAny_bind (wpAny_standAt (wpAny_bind ?_))
  show wpAny _ (A.deeper (envOfC qual dsc s₀.heap.objs.size f cd)) (do let _ ← comprehension (.ListComp elt [⟨tg, iter, ifs, 0⟩] scope pos) scope (envOfC qual dsc s₀.heap.objs.size f cd) _ (newList []) false (eval iter (envOfC qual dsc s₀.heap.objs.size f cd)) (some (assign (.Name y py) (envOfC qual dsc s₀.heap.objs.size f cd)))) _ _ s
  obtain ⟨cl, hcl, hc2, hc3⟩ := closure_ok (scope := scope) (env := envOfC qual dsc s₀.heap.objs.size f cd) fun x hx hf => I.ok.has x.1 (.inl (L.sc.free x hx hf))
  refine wpAny_bind (wpAny_mono (comp_endC (use := some (assign (.Name y py) (envOfC qual dsc s₀.heap.objs.size f cd))) (Q := fun _ s' => ∃ σ' H', Inv (cxOf (CXe P w) P w K mg base N qual dsc f cd A outer s₀ H₀ E) pins σ' H' s' ∧ D.nx σ' H') rfl hs hcl L.sc.kind L.sc.loc
    (thn (hi pins s σ H _ I h) fun v s1 h1 => thn h1 fun itv s2 h2 => ?_)) (fun _ s' q => wpAny_pure (wpAny_pure q)) fun _ _ z => z)
  · obtain ⟨it, fp, tn, J, H2, e, I2, T, st2, f2, h2⟩ := h2
    subst e
    refine lc_blockX (E := E) (Q := fun D' H' => D.nx (σ.set i (some (.ref D'))) H') (RR := fun acc C fr => endC (model P w) (A.deeper (envOfC qual dsc s₀.heap.objs.size f cd)) fr (cxOf (CXe P w) P w K mg base N qual dsc f cd A outer s₀ H₀ E).xe (some (assign (.Name y py) (envOfC qual dsc s₀.heap.objs.size f cd))) (fun _ s' => ∃ σ' H', Inv (cxOf (CXe P w) P w K mg base N qual dsc f cd A outer s₀ H₀ E) pins σ' H' s' ∧ D.nx σ' H') acc C) L I2 T st2 f2 hc2 hc3 h2 ?_ ?_
    · intro D' C s' H' m' hn I' hC hL hcc hpp h0 q
      refine wpAny_assign_Name (store_ok2 I' hN hy hx (v := .ref D') rfl (fun s'' I'' ⟨a, hsb, ha⟩ => ?_) (.inl rfl))
      have hCa : C ≠ a := by
        rcases ha with rfl | ha
        · exact Nat.ne_of_gt hL
        · exact Nat.ne_of_gt (hcc _ _ ha)
      refine ⟨m', hn.sameBut hsb hCa, fun h' hs' => ⟨_, H', ?_, q⟩⟩
      exact I''.turned (t' := s''.toks) (it := C) (fun b o hb e => (hs'.2 b hb).trans e) hC (Nat.ne_of_gt hL) (.inr h0) (fun x c hx => Nat.ne_of_lt (hcc x c hx)) fun p hp => Nat.ne_of_lt (hpp p hp)
    · intro D' C s1 H1 m1 e s' I1 n1 hC h0 hf c1 ce hce
      exact note_lc I1 hf n1 hC h0 hce c1
end
def tCalU (sp sp' : Sp) (E : XK) (t : TA) : TE := fun σ H Q => t σ H fun vs H1 => sp vs H1 Q E ∨ sp' vs H1 Q E
section
variable {X : Cx} {j k : Nat} {x : Str} {ps : List Str} {sp sp' : Sp} {e : Expr} {es : List Expr} {t : TA} {p pos : Pos} {E : XK}
theorem pe_hasU (F : HasX X.prog X.w X.K X.mg X.base j x ps sp) (F' : HasX X.prog X.w X.K X.mg X.base j x ps sp') (hr : Room k X.A) (hj : j ≤ k) (hx : Passes (CXe X.prog X.w) X E) (ha : PA X (e :: es) t) (hg : Gl X x := by rfl) (hdb : (x == ("__debug__" : Str)) = false := by decide)
    (he : starEach (e :: es) X.env = (false, eval e X.env) :: starEach es X.env := by rfl) (hpl : (backTo pos (starEach es X.env)).any (·.1) = false := by rfl) : PE X (.Call (.Name x p) (e :: es) [] pos) (tCalU sp sp' E t) := by
  obtain ⟨f, fd, F, b, kp, m⟩ := F
  obtain ⟨f', fd', F', b', kp', m'⟩ := F'
  obtain rfl : f = f' := by
    have := m.symm.trans m'
    cases this
    rfl
  intro pins s σ H Q I h
  refine wpAny_Call_Name_kw (ld_glob I hg m ?_ hdb)
  refine PySem.W.callWith_K (h₀ := X.base) I.ok.mod.kin kp (thn (ha pos pins s σ H _ I h) fun us s1 ⟨vs, H1, I1, r, q⟩ => ⟨I1.kIn, ?_⟩) he hpl
  rcases q with q | q
  · exact run_fn F (hr.mono hj) b .nil hx I1 r (by rw [List.append_nil]; exact q)
  · exact run_fn F' (hr.mono hj) b' .nil hx I1 r (by rw [List.append_nil]; exact q)
end
end L3
namespace Lw
open PySem L2
def top (i : Nat) : Stmt := PySem.Challenge.pw_fairdays_k02_refused.main.body.getD i (.Pass ⟨0, 0, 0, 0⟩)
abbrev sGd : Stmt := top 1
abbrev sLm : Stmt := top 2
abbrev sDate : Stmt := top 13
abbrev sMl : Stmt := top 14
abbrev sWd : Stmt := top 15
abbrev sMarksP : Stmt := inClass (top 19) 0
abbrev sEveryI : Stmt := inClass (top 20) 0
abbrev sHasE : Stmt := inClass (top 20) 1
abbrev sDateI : Stmt := inClass (top 21) 0
abbrev sHasD : Stmt := inClass (top 21) 1
abbrev sNthI : Stmt := inClass (top 22) 0
abbrev sHasN : Stmt := inClass (top 22) 1
abbrev sPairI : Stmt := inClass (top 23) 0
abbrev sMarksQ : Stmt := inClass (top 23) 1
abbrev sHasB : Stmt := inClass (top 24) 0
abbrev sJoinB : Stmt := inClass (top 24) 1
abbrev sHasI : Stmt := inClass (top 25) 0
abbrev sJoinI : Stmt := inClass (top 25) 1
abbrev sHasU : Stmt := inClass (top 26) 0
abbrev sJoinU : Stmt := inClass (top 26) 1
abbrev sMovedI : Stmt := inClass (top 27) 0
abbrev sHasM : Stmt := inClass (top 27) 1
abbrev sReach : Stmt := inClass (top 27) 2
abbrev sJoinM : Stmt := inClass (top 27) 3
abbrev sPart : Stmt := top 28
abbrev sPair : Stmt := top 29
abbrev sHasDay : Stmt := top 31
abbrev sTurn : Stmt := top 32
abbrev sNext : Stmt := top 34
abbrev sAhead : Stmt := top 35
abbrev sMany : Stmt := top 36
abbrev sNthDay : Stmt := top 37
abbrev sUpTo : Stmt := top 38
abbrev sDayAt : Stmt := top 39
abbrev sShown : Stmt := top 47
abbrev sLineOf : Stmt := top 48
abbrev sPlainLine : Stmt := top 49
abbrev sRead : Stmt := top 50
abbrev sItems : Stmt := top 51
abbrev sPlainRule : Stmt := top 52
abbrev sNumber : Stmt := top 53
abbrev sRuleOf : Stmt := top 54
abbrev sPairRule : Stmt := top 55
abbrev sLeaf : Stmt := top 57
abbrev sNames : Stmt := top 58
abbrev sDraw : Stmt := top 60
abbrev sAtom : Stmt := top 61
abbrev sRuled : Stmt := top 62
abbrev sAt : Stmt := top 63
abbrev sLawLined : Stmt := top 64
abbrev sLawTold : Stmt := top 65
abbrev sLawSpoilt : Stmt := top 66
abbrev sLaw : Stmt := top 67
def tabA : List Int := [2, 3, 4, 6, 9, 12, 1, 8, 18, 24]
end Lw
set_option Elab.async false
set_option maxRecDepth 100000
namespace Lw
open PySem L2 L3 Fd
seal L2.PSs L2.PS L2.PE L2.PT L2.PW L2.PA L2.PG L2.PGs L2.PI L2.PC
structure Blt (mg : Str → Option Value) : Prop where
  z_len : mg "len" = none
  z_range : mg "range" = none
  z_int : mg "int" = none
  z_sum : mg "sum" = none
  z_isinstance : mg "isinstance" = none
  z_bool : mg "bool" = none
  z_tuple : mg "tuple" = none
  z_abs : mg "abs" = none
theorem hu0 {A : Around} {k : Nat} (hr : Room k A) : A.units < cLine := hr.units0
theorem pick {xs : List V} {i : Int} (h0 : 0 ≤ i) (h1 : i < xs.length) : ∃ v, atI xs i = some v ∧ v ∈ xs := by
  have hk : i.toNat < xs.length := by omega
  have ek : i = ((i.toNat : Nat) : Int) := by omega
  refine ⟨xs[i.toNat], ?_, List.getElem_mem hk⟩
  have q : atI xs ((i.toNat : Nat) : Int) = some xs[i.toNat] := atI_nat (List.getElem?_eq_getElem hk)
  rw [← ek] at q
  exact q
def spDraw : Sp := fun vs H Q _ => ∃ n p m : Int, vs = [.int n, .int p, .int m] ∧ 0 < p ∧ 0 < m ∧ ∀ z, 0 ≤ z → z < m → Q (.int z) H
def cellOf (ns : List Int) (k : Int) : Int := ns.getD k.toNat 0
def spAt (K : PySem.W.Frag) : Sp := fun vs H Q _ => ∃ (a : Addr) (ns : List Int) (k : Int), vs = [.ref a, .int k] ∧ SqL K H a (ns.map V.int) ∧ 0 ≤ k ∧ Q (.int (cellOf ns k)) H
def spPlace : Sp := fun vs H Q _ => ∃ d : Int, vs = [.int d] ∧ ∀ p, H p = none → Q (.ref p) (upd H p (.tup [.int (Fd.dt d), .int (Fd.len d)]))
def spBegun : Sp := fun vs H Q _ => ∃ c : Int, vs = [.int c] ∧ ∀ z H', Same H H' → Q (.int z) H'
def spOn (n : Nat) : Sp := fun vs H Q _ => ∃ (a : Addr) (r : Rule) (d : Int), vs = [.ref a, .int d] ∧ RuleAt H a r ∧ Good r ∧ depth r < n ∧ ∀ H', Same H H' → Q (.bl (Fd.on r d)) H'
def spRuled (K : PySem.W.Frag) : Sp := fun vs H Q _ => ∃ (a : Addr) (ns : List Int), vs = [.ref a] ∧ SqL K H a (ns.map V.int) ∧ ns.length ≤ 63 ∧
  ∀ p r H', Same H H' → RuleAt H' p r → Good r → Near r → depth r ≤ ns.length → size r ≤ 200 → turn r ≤ 4320 → Q (.ref p) H'
local macro_rules | `(tactic| walk_at "rd") => `(tactic| repeat (first | refine ⟨_, rfl, ?_⟩ | refine ⟨_, _, rfl, rfl, ?_⟩ | refine ⟨rfl, ?_⟩ | (refine ⟨?own_c, ?_⟩; (case own_c => first | (show (0 : Int) < _; decide) | exact ⟨by decide, by decide⟩ | exact ⟨by decide, by decide, by decide⟩ | exact Or.inl ⟨by decide, by decide⟩ | exact Or.inr ⟨by decide, by decide⟩))))
section
variable {P : Program} {w : World} {K : PySem.W.Frag} {mg : Str → Option Value} {base : Heap}
theorem sc_law_draw : FnScope ["_law_number", "_law_prime", "_law_many"] ["_law_number", "_law_prime", "_law_many"] (defScope sDraw) := ⟨rfl, rfl, rfl, by decide +kernel, rfl, by decide +kernel, by decide +kernel⟩
theorem ok_draw (D : Df K mg "_law_draw" sDraw ["_law_number", "_law_prime", "_law_many"]) : Has P w K mg base 1 "_law_draw" ["_law_number", "_law_prime", "_law_many"] spDraw := by
  refine D.ok sc_law_draw (fun vs H Q E h => ?_) (fun f cdv A outer s H vs Q E hr h => ?_)
  · obtain ⟨n, p, m, rfl, _⟩ := h
    rfl
  obtain ⟨n, p, m, rfl, hp, hm, q⟩ := h
  refine ⟨_, (pss_one (ps_ret (pe_op op_mod (pe_op op_mod (pe_op op_mul (pv 0) pe_int) (pv 1)) (pv 2)))), ?_⟩
  refine ⟨_, rfl, _, _, rfl, rfl, Or.inr ⟨by decide, by decide⟩, _, rfl, _, _, rfl, rfl, hp, _, rfl, _, _, rfl, rfl, hm, ?_⟩
  exact q _ (Int.emod_nonneg _ (by omega)) (Int.emod_lt_of_pos _ hm)
theorem sc_law_at : FnScope ["_law_script", "_law_k"] ["_law_script", "_law_k"] (defScope sAt) := ⟨rfl, rfl, rfl, by decide +kernel, rfl, by decide +kernel, by decide +kernel⟩
theorem ok_at (D : Df K mg "_law_at" sAt ["_law_script", "_law_k"]) (T : Blt mg) : Has P w K mg base 1 "_law_at" ["_law_script", "_law_k"] (spAt K) := by
  refine D.ok sc_law_at (fun vs H Q E h => ?_) (fun f cdv A outer s H vs Q E hr h => ?_)
  · obtain ⟨a, ns, k, rfl, _⟩ := h
    rfl
  obtain ⟨a, ns, k, rfl, hS, h0, q⟩ := h
  refine ⟨_, (pss_cons (ps_if (pt_cmpR op_lt (pv 1) (pe_callB call_len_seq rfl T.z_len b_len (pa_cons (pv 0) pa_nil)) (nomark _)) (pss_one (ps_ret (pe_ix ix_list (pv 0) (pv 1) (fun _ _ => rfl)))) pss_nil)
    (pss_one (ps_ret pe_int))), ?_⟩
  refine ⟨_, rfl, _, rfl, a, _, rfl, .inl hS, _, _, rfl, rfl, _, rfl, ?_⟩
  have hl : (ns.map V.int).length = ns.length := List.length_map _
  refine ite2 (fun c => ?_) (fun c => ?_)
  · have c' : k < (((ns.map V.int).length : Nat) : Int) := of_decide_eq_true c
    rw [hl] at c'
    have hk : k.toNat < ns.length := by omega
    have ek : k = ((k.toNat : Nat) : Int) := by omega
    have hv : atI (ns.map V.int) k = some (.int (cellOf ns k)) := by
      rw [ek]
      refine atI_nat ?_
      rw [List.getElem?_map, List.getElem?_eq_getElem hk, cellOf, List.getD_eq_getElem?_getD, ← ek, List.getElem?_eq_getElem hk]
      rfl
    exact ⟨_, rfl, _, rfl, a, _, _, _, rfl, rfl, hS, hv, q⟩
  · have c' : ¬ k < (((ns.map V.int).length : Nat) : Int) := of_decide_eq_false (Bool.eq_false_iff.mpr c)
    rw [hl] at c'
    have e : cellOf ns k = 0 := by
      rw [cellOf, List.getD_eq_getElem?_getD, List.getElem?_eq_none (by omega)]
      rfl
    rw [e] at q
    exact q
theorem iteP {c : Bool} {A B : Prop} (h : c = true) (a : A) : if c = true then A else B := by rw [if_pos h]; exact a
theorem iteN {c : Bool} {A B : Prop} (h : c = false) (b : B) : if c = true then A else B := by rw [if_neg (by rw [h]; decide)]; exact b
theorem decI {i j : Int} : decide (V.int i = V.int j) = decide (i = j) := by
  rw [dec_int]
  by_cases h : i = j
  · subst h; simp
  · simp [h]
theorem dt_len (d : Int) : 1 ≤ Fd.dt d ∧ Fd.dt d ≤ Fd.len d ∧ Fd.len d ≤ 37 ∧ 35 ≤ Fd.len d := by
  unfold Fd.dt Fd.len
  split <;> omega
end
end Lw
set_option Elab.async false
set_option maxRecDepth 100000
namespace Lw
open PySem L2 L3 Fd
seal L2.PSs L2.PS L2.PE L2.PT L2.PW L2.PA L2.PG L2.PGs L2.PI L2.PC
def spAtom : Sp := fun vs H Q _ => ∃ cell k : Int, vs = [.int cell, .int k] ∧ ∀ p r H', Same H H' → RuleAt H' p r → Good r → Near r → depth r = 0 → turn r ∣ 72 → Q (.ref p) H'
theorem pickI {xs : List Int} {i : Int} (h0 : 0 ≤ i) (h1 : i < xs.length) : ∃ v, atI (xs.map V.int) i = some (.int v) ∧ v ∈ xs := by
  have hk : i.toNat < xs.length := by omega
  have ek : i = ((i.toNat : Nat) : Int) := by omega
  refine ⟨xs[i.toNat], ?_, List.getElem_mem hk⟩
  have q : atI (xs.map V.int) ((i.toNat : Nat) : Int) = some (.int xs[i.toNat]) := atI_nat (by rw [List.getElem?_map, List.getElem?_eq_getElem hk] <;> rfl)
  rw [← ek] at q
  exact q
theorem tabA_ok : ∀ v ∈ tabA, (1 ≤ v ∧ v ≤ 60) ∧ v.toNat ∣ 72 := by decide
theorem which_ok : ∀ v ∈ ([1, 2, 3, 4, 5, -1, -2, -4, -5, -3] : List Int), (1 ≤ v ∧ v ≤ 5) ∨ (-5 ≤ v ∧ v ≤ -1) := by decide
theorem dates_ok : ∀ v ∈ ([1, 12, 35, 36, 37, -1, -2, -35, -36, -37] : List Int), (1 ≤ v ∧ v ≤ 37) ∨ (-37 ≤ v ∧ v ≤ -1) := by decide
theorem e60 : (10 : Int) ^ (60 : Int).toNat = 10 ^ 60 := rfl
theorem e12 : (10 : Int) ^ (12 : Int).toNat = 10 ^ 12 := rfl
section
variable {P : Program} {w : World} {K : PySem.W.Frag} {mg : Str → Option Value} {base : Heap}
theorem sc_law_atom : FnScope ["_law_cell", "_law_k", "_law_rest", "_law_many", "_law_start", "_law_dates", "_law_far", "_law_which"] ["_law_cell", "_law_k"] (defScope sAtom) := ⟨rfl, rfl, rfl, by decide +kernel, rfl, by decide +kernel, by decide +kernel⟩
set_option maxHeartbeats 4000000 in
theorem ok_atom (D : Df K mg "_law_atom" sAtom ["_law_cell", "_law_k"]) (T : Blt mg) (C__law_draw : Has P w K mg base 1 "_law_draw" ["_law_number", "_law_prime", "_law_many"] spDraw) : Has P w K mg base 2 "_law_atom" ["_law_cell", "_law_k"] spAtom := by
  refine D.ok sc_law_atom (fun vs H Q E h => ?_) (fun f cdv A outer s H vs Q E hr h => ?_)
  · obtain ⟨c, k, rfl, _⟩ := h
    rfl
  obtain ⟨cell, k, rfl, q⟩ := h
  refine ⟨_, (pss_cons (ps_set (i := 2) sc_law_atom.nd rfl (Or.inl rfl) (pe_op op_fdiv (pv 0) pe_int))
    (pss_cons (ps_if (pt_cmpR op_eq (pe_op op_mod (pv 0) pe_int) pe_int (nomark _)) (pss_cons (ps_set (i := 3) sc_law_atom.nd rfl (Or.inl rfl) (pe_ix ix_list (pe_lst (pa_cons pe_int (pa_cons pe_int (pa_cons pe_int (pa_cons pe_int (pa_cons pe_int (pa_cons pe_int (pa_cons pe_int (pa_cons pe_int (pa_cons pe_int (pa_cons pe_int pa_nil star_c) star_c) star_c) star_c) star_c) star_c) star_c) star_c) star_c) star_c)) (pe_op op_mod (pe_op op_add (pv 2) (pv 1)) pe_int) (fun _ _ => rfl)))
    (pss_cons (ps_set (i := 4) sc_law_atom.nd rfl (Or.inl rfl) (pe_op op_sub (pe_has C__law_draw hr (by decide) (pa_cons (pe_op op_add (pv 0) (pe_op op_mul pe_int (pv 1))) (pa_cons pe_int (pa_cons pe_int pa_nil star_c) star_c) star_b)) pe_int))
    (pss_cons (ps_if (pt_cmpR op_lt (pe_op op_mod (pv 0) pe_int) pe_int (nomark _)) (pss_one (ps_set (i := 4) sc_law_atom.nd rfl (Or.inl rfl) (pe_op op_mul (pe_op op_mod (pv 0) (pe_op op_pow pe_int pe_int)) (pe_ix ix_list (pe_lst (pa_cons pe_int (pa_cons (pe_un un_neg pe_int) pa_nil star_u) star_c)) (pe_op op_mod (pv 1) pe_int) (fun _ _ => rfl))))) pss_nil)
    (pss_one (ps_ret (pe_tup (pa_cons pe_str (pa_cons (pv 3) (pa_cons (pe_op op_add (pv 4) (pe_op op_mul (pe_op op_pow pe_int pe_int) (pe_callTy call_int1 rfl T.z_int b_int (pa_cons (pe_cmpR op_eq (pe_op op_mod (pv 0) pe_int) pe_int (nomark _)) pa_nil star_m)))) pa_nil star_b) star_n) star_c))))))) pss_nil)
    (pss_cons (ps_if (pt_cmpR op_eq (pe_op op_mod (pv 0) pe_int) pe_int (nomark _)) (pss_cons (ps_set (i := 5) sc_law_atom.nd rfl (Or.inl rfl) (pe_lst (pa_cons pe_int (pa_cons pe_int (pa_cons pe_int (pa_cons pe_int (pa_cons pe_int (pa_cons (pe_un un_neg pe_int) (pa_cons (pe_un un_neg pe_int) (pa_cons (pe_un un_neg pe_int) (pa_cons (pe_un un_neg pe_int) (pa_cons (pe_un un_neg pe_int) pa_nil star_u) star_u) star_u) star_u) star_u) star_c) star_c) star_c) star_c) star_c)))
    (pss_cons (ps_set (i := 6) sc_law_atom.nd rfl (Or.inl rfl) (pe_op op_add (pe_has C__law_draw hr (by decide) (pa_cons (pe_op op_add (pv 0) (pe_op op_mul pe_int (pv 1))) (pa_cons pe_int (pa_cons pe_int pa_nil star_c) star_c) star_b)) pe_int))
    (pss_one (ps_ret (pe_tup (pa_cons pe_str (pa_cons (pe_ix ix_list (pe_op op_cat (pv 5) (pe_lst (pa_cons (pv 6) (pa_cons (pe_op op_sub pe_int (pv 6)) pa_nil star_b) star_n))) (pe_op op_mod (pe_op op_add (pv 2) (pv 1)) pe_int) (fun _ _ => rfl)) pa_nil star_s) star_c)))))) pss_nil)
    (pss_cons (ps_set (i := 7) sc_law_atom.nd rfl (Or.inl rfl) (pe_ix ix_list (pe_lst (pa_cons pe_int (pa_cons pe_int (pa_cons pe_int (pa_cons pe_int (pa_cons pe_int (pa_cons (pe_un un_neg pe_int) (pa_cons (pe_un un_neg pe_int) (pa_cons (pe_un un_neg pe_int) (pa_cons (pe_un un_neg pe_int) (pa_cons (pe_un un_neg pe_int) pa_nil star_u) star_u) star_u) star_u) star_u) star_c) star_c) star_c) star_c) star_c)) (pe_op op_mod (pe_op op_add (pv 2) (pv 1)) pe_int) (fun _ _ => rfl)))
    (pss_one (ps_ret (pe_tup (pa_cons pe_str (pa_cons (pv 7) (pa_cons (pe_has C__law_draw hr (by decide) (pa_cons (pe_op op_add (pv 0) (pe_op op_mul pe_int (pv 1))) (pa_cons pe_int (pa_cons pe_int pa_nil star_c) star_c) star_b)) pa_nil star_k) star_n) star_c)))))))), ?_⟩
  refine ⟨_, rfl, _, _, rfl, rfl, ⟨by decide, by decide⟩, ?_⟩
  refine ⟨_, rfl, _, _, rfl, rfl, (by show (0 : Int) < 3; decide), rfl, _, rfl, ?_⟩
  refine ite2 (fun _ => ?_) (fun _ => ?_)
  ·
    refine ⟨(by show 10 ≤ sizeLine; decide), fun p1 h1 => ?_⟩
    refine ⟨_, rfl, _, rfl, _, _, rfl, rfl, _, _, rfl, rfl, (by show (0 : Int) < 10; decide), ?_⟩
    obtain ⟨m0, hv, hm⟩ := pickI (xs := tabA) (i := (cell / 3 + k) % 10) (by omega) (by show (cell / 3 + k) % 10 < 10; omega)
    refine ⟨p1, _, _, _, rfl, rfl, SqL.of upd_same, hv, ?_⟩
    have s1 := same_new h1 (.lst (tabA.map V.int))
    have M := tabA_ok m0 hm
    have last : ∀ (st : Int) (H4 : Hp), Same H H4 → (-(10 ^ 60) ≤ st ∧ st ≤ 10 ^ 60) →
        tTup (tCons (tC (.str "every")) (tCons (tVar 3) (tCons (tOp (rI0 fun i j => .int (i + j)) (tVar 4) (tOp (rI CMul fun i j => .int (i * j)) (tOp (rI CPow fun i j => .int (i ^ j.toNat)) (tC (.int 10)) (tC (.int 12)))
          (tCB (fun xs H Q => (∃ i, xs = [.int i] ∧ Q (.int i) H) ∨ ∃ k, xs = [.bl k] ∧ Q (.int (if k then 1 else 0)) H) (tCons (tOp rEq (tOp (rI (fun _ j => 0 < j) fun i j => .int (i % j)) (tVar 0) (tC (.int 37))) (tC (.int 6))) tNil)))) tNil)))
          [some (.int cell), some (.int k), some (.int (cell / 3)), some (.int m0), some (.int st), none, none, none] H4 Q := by
      intro st H4 s4 hs
      refine ⟨_, rfl, _, rfl, _, _, rfl, rfl, ⟨by decide, by decide, by decide⟩, _, rfl, _, _, rfl, rfl, (by show (0 : Int) < 37; decide), rfl, .inr ⟨_, rfl, _, _, rfl, rfl, .inl ⟨by decide, by decide⟩, _, _, rfl, rfl, (by show 3 ≤ sizeLine; decide), fun p hp => ?_⟩⟩
      refine q p (.every m0 _) _ (s4.trans (same_new hp _)) upd_same M.1 ?_ rfl M.2
      show -(10 ^ 61) < st + (10 : Int) ^ (12 : Int).toNat * (if decide (V.int (cell % 37) = V.int 6) = true then 1 else 0) ∧ st + (10 : Int) ^ (12 : Int).toNat * (if decide (V.int (cell % 37) = V.int 6) = true then 1 else 0) < 10 ^ 61
      rw [e12]
      split <;> omega
    refine ⟨_, rfl, _, rfl, _, _, rfl, rfl, .inl ⟨by decide, by decide⟩, _, _, rfl, rfl, _, _, _, rfl, by decide, by decide, fun z z0 z1 => ⟨_, _, rfl, rfl, ?_⟩⟩
    refine ⟨_, rfl, _, _, rfl, rfl, (by show (0 : Int) < 37; decide), _, _, rfl, rfl, _, rfl, ?_⟩
    refine ite2 (fun c3 => ?_) (fun c3 => ?_)
    · refine ⟨_, rfl, _, _, rfl, rfl, ⟨by decide, by decide, by decide⟩, _, _, rfl, rfl, (by show (0 : Int) < (10 : Int) ^ (60 : Int).toNat; decide), _, rfl, (by show 2 ≤ sizeLine; decide), fun p3 h3 => ?_⟩
      refine ⟨_, rfl, _, _, rfl, rfl, (by show (0 : Int) < 2; decide), ?_⟩
      obtain ⟨u, hv3, hm3⟩ := pickI (xs := [1, -1]) (i := k % 2) (by omega) (by show k % 2 < 2; omega)
      have hu : u = 1 ∨ u = -1 := by simpa using hm3
      refine ⟨p3, _, _, _, rfl, rfl, SqL.of upd_same, hv3, _, _, rfl, rfl, .inr (by rcases hu with rfl | rfl <;> exact ⟨by decide, by decide⟩), ?_⟩
      refine last _ _ (s1.trans (same_new h3 _)) ?_
      rw [e60]
      have b1 := Int.emod_nonneg cell (show (10 : Int) ^ 60 ≠ 0 by decide)
      have b2 := Int.emod_lt_of_pos cell (show (0 : Int) < 10 ^ 60 by decide)
      rcases hu with rfl | rfl <;> omega
    · exact last _ _ s1 (by omega)
  · refine ⟨_, rfl, _, _, rfl, rfl, (by show (0 : Int) < 3; decide), rfl, _, rfl, ?_⟩
    refine ite2 (fun _ => ?_) (fun _ => ?_)
    ·
      refine ⟨_, rfl, _, rfl, _, rfl, _, rfl, _, rfl, (by show 10 ≤ sizeLine; decide), fun p1 h1 => ?_⟩
      have s1 := same_new h1 (.lst (([1, 12, 35, 36, 37, -1, -2, -35, -36, -37] : List Int).map V.int))
      refine ⟨_, rfl, _, rfl, _, _, rfl, rfl, .inl ⟨by decide, by decide⟩, _, _, rfl, rfl, _, _, _, rfl, by decide, by decide, fun z z0 z1 => ⟨_, _, rfl, rfl, ?_⟩⟩
      refine ⟨_, rfl, _, rfl, _, rfl, _, _, rfl, rfl, (by show 2 ≤ sizeLine; decide), fun p2 h2 => ?_⟩
      have s2 := s1.trans (same_new h2 (.lst (([z + 1, 0 - (z + 1)] : List Int).map V.int)))
      refine ⟨p1, p2, _, _, rfl, rfl, (by rw [upd_ne (ne_of_none upd_same h2)]; exact upd_same), upd_same, (by show 12 ≤ sizeLine; decide), fun p3 h3 => ?_⟩
      refine ⟨_, rfl, _, rfl, _, _, rfl, rfl, _, _, rfl, rfl, (by show (0 : Int) < 12; decide), ?_⟩
      obtain ⟨x, hv, hm⟩ := pickI (xs := ([1, 12, 35, 36, 37, -1, -2, -35, -36, -37] : List Int) ++ [z + 1, 0 - (z + 1)]) (i := (cell / 3 + k) % 12) (by omega) (by show (cell / 3 + k) % 12 < 12; omega)
      refine ⟨p3, _, _, _, rfl, rfl, SqL.of upd_same, hv, (by show 2 ≤ sizeLine; decide), fun p hp => ?_⟩
      refine q p (.date x) _ (s2.trans ((same_new h3 _).trans (same_new hp _))) upd_same ?_ True.intro rfl (Nat.dvd_refl _)
      show (1 ≤ x ∧ x ≤ 37) ∨ (-37 ≤ x ∧ x ≤ -1)
      rcases List.mem_append.mp hm with e | e
      · exact dates_ok x e
      · have e' : x = z + 1 ∨ x = 0 - (z + 1) := by simpa using e
        omega
    ·
      refine ⟨_, rfl, _, rfl, _, rfl, _, rfl, _, rfl, (by show 10 ≤ sizeLine; decide), fun p1 h1 => ?_⟩
      have s1 := same_new h1 (.lst (([1, 2, 3, 4, 5, -1, -2, -4, -5, -3] : List Int).map V.int))
      refine ⟨_, rfl, _, rfl, _, _, rfl, rfl, _, _, rfl, rfl, (by show (0 : Int) < 10; decide), ?_⟩
      obtain ⟨x, hv, hm⟩ := pickI (xs := ([1, 2, 3, 4, 5, -1, -2, -4, -5, -3] : List Int)) (i := (cell / 3 + k) % 10) (by omega) (by show (cell / 3 + k) % 10 < 10; omega)
      refine ⟨p1, _, _, _, rfl, rfl, SqL.of upd_same, hv, ?_⟩
      refine ⟨_, rfl, _, rfl, _, rfl, _, _, rfl, rfl, .inl ⟨by decide, by decide⟩, _, _, rfl, rfl, _, _, _, rfl, by decide, by decide, fun z z0 z1 => ?_⟩
      refine ⟨(by show 3 ≤ sizeLine; decide), fun p hp => ?_⟩
      exact q p (.nth x z) _ (s1.trans (same_new hp _)) upd_same ⟨which_ok x hm, z0, z1⟩ True.intro rfl (Nat.dvd_refl _)
end
end Lw
set_option Elab.async false
set_option maxRecDepth 100000
namespace Lw
open PySem L2 L3 Fd
seal L2.PSs L2.PS L2.PE L2.PT L2.PW L2.PA L2.PG L2.PGs L2.PI L2.PC
def wordsV : List V := [.str "both", .str "either", .str "but", .str "moved"]
theorem pickW {i : Int} (h0 : 0 ≤ i) (h1 : i < 4) : ∃ x, atI wordsV i = some (.str x) ∧ Word x := by
  obtain ⟨v, hv, hm⟩ := pick (xs := wordsV) h0 h1
  have e : v = .str "both" ∨ v = .str "either" ∨ v = .str "but" ∨ v = .str "moved" := by simpa [wordsV] using hm
  rcases e with rfl | rfl | rfl | rfl
  · exact ⟨_, hv, .inl rfl⟩
  · exact ⟨_, hv, .inr (.inl rfl)⟩
  · exact ⟨_, hv, .inr (.inr (.inl rfl))⟩
  · exact ⟨_, hv, .inr (.inr (.inr rfl))⟩
theorem last_of (bs : List Addr) (b : Addr) : ((bs ++ [b]).map V.ref)[((bs ++ [b]).map V.ref).length - 1]? = some (.ref b) ∧ ((bs ++ [b]).map V.ref).dropLast = bs.map V.ref := by
  constructor
  · rw [List.map_append, List.length_append]
    simp
  · rw [List.map_append]
    simp
theorem at_cell {ns : List Int} {i : Nat} (h : i < ns.length) : atI (ns.map V.int) (0 + (i : Int)) = some (.int ns[i]) := by
  rw [Int.zero_add]
  exact atI_nat (by rw [List.getElem?_map, List.getElem?_eq_getElem h] <;> rfl)
section
variable {P : Program} {w : World} {K : PySem.W.Frag} {mg : Str → Option Value} {base : Heap}
theorem sc_law_ruled : FnScope ["_law_cells", "_law_words", "_law_pile", "_law_k", "_law_second"] ["_law_cells"] (defScope sRuled) := ⟨rfl, rfl, rfl, by decide +kernel, rfl, by decide +kernel, by decide +kernel⟩
def spRuled2 (K : PySem.W.Frag) : Sp := fun vs H Q _ => ∃ (a : Addr) (ns : List Int), vs = [.ref a] ∧ SqL K H a (ns.map V.int) ∧ ns.length ≤ 63 ∧
  ∀ p r H', Same H H' → RuleAt H' p r → Good r → Near r → depth r ≤ ns.length → size r ≤ 200 → turn r ∣ 72 → Q (.ref p) H'
structure Bld (M : Nat) (H H2 : Hp) (wa pa : Addr) (as : List Addr) (rs : List Rule) : Prop where
  same : Same H H2
  wd : H2 wa = some (.lst wordsV)
  pl : H2 pa = some (.lst (as.map V.ref))
  pile : Pile M H2 as rs
theorem small {n : Nat} (h : n ≤ 1000) : n ≤ sizeLine := Nat.le_of_lt (small1000 h)
set_option maxHeartbeats 4000000 in
theorem ok_ruled (D : Df K mg "_law_ruled" sRuled ["_law_cells"]) (T : Blt mg) (C__law_atom : Has P w K mg base 2 "_law_atom" ["_law_cell", "_law_k"] spAtom) : Has P w K mg base 3 "_law_ruled" ["_law_cells"] (spRuled2 K) := by
  refine D.ok sc_law_ruled (fun vs H Q E h => ?_) (fun f cdv A outer s H vs Q E hr h => ?_)
  · obtain ⟨a, ns, rfl, _⟩ := h
    rfl
  obtain ⟨a, ns, rfl, hS, h63, q⟩ := h
  refine ⟨_, (pss_cons (ps_set (i := 1) sc_law_ruled.nd rfl (Or.inl rfl) (pe_lst (pa_cons pe_str (pa_cons pe_str (pa_cons pe_str (pa_cons pe_str pa_nil star_c) star_c) star_c) star_c)))
    (pss_cons (ps_set (i := 2) sc_law_ruled.nd rfl (Or.inl rfl) (pe_lst pa_nil))
    (pss_cons (ps_for PassesOwn.never rfl (pi_range1 rfl T.z_range (pa_cons (pe_callB call_len_seq rfl T.z_len b_len (pa_cons (pv 0) pa_nil star_n)) pa_nil star_k)) (pg_name (i := 3) sc_law_ruled.nd rfl (Or.inl rfl)) (pss_one (ps_if (PW.pt (pw_or (pt_cmpR op_lt (pe_op op_mod (pe_ix ix_list (pv 0) (pv 3) (fun _ _ => rfl)) pe_int) pe_int (nomark _)) (pw_or1 (pt_cmpR op_lt (pe_callB call_len_seq rfl T.z_len b_len (pa_cons (pv 2) pa_nil star_n)) pe_int (nomark _))))) (pss_one (ps_expr (pe_bm PySem.F.plainAttrs_list PySem.F.slot_list_append PySem.F.type_list_append mt_append (pv 2) (pa_cons (pe_has C__law_atom hr (by decide) (pa_cons (pe_op op_fdiv (pe_ix ix_list (pv 0) (pv 3) (fun _ _ => rfl)) pe_int) (pa_cons (pv 3) pa_nil star_n) star_b)) pa_nil star_k)))) (pss_cons (ps_set (i := 4) sc_law_ruled.nd rfl (Or.inl rfl) (pe_bm0 PySem.F.plainAttrs_list PySem.F.slot_list_pop PySem.F.type_list_pop mt_pop (pv 2)))
    (pss_one (ps_expr (pe_bm PySem.F.plainAttrs_list PySem.F.slot_list_append PySem.F.type_list_append mt_append (pv 2) (pa_cons (pe_tup (pa_cons (pe_ix ix_list (pv 1) (pe_op op_mod (pe_op op_fdiv (pe_ix ix_list (pv 0) (pv 3) (fun _ _ => rfl)) pe_int) pe_int) (fun _ _ => rfl)) (pa_cons (pe_bm0 PySem.F.plainAttrs_list PySem.F.slot_list_pop PySem.F.type_list_pop mt_pop (pv 2)) (pa_cons (pv 4) pa_nil star_n) star_k) star_s)) pa_nil star_t))))))))
    (pss_cons (ps_if (pt_cmpR (op_eqNil (hu0 hr)) (pv 2) (pe_lst pa_nil) (nomark _)) (pss_one (ps_ret (pe_tup (pa_cons pe_str (pa_cons pe_int (pa_cons pe_int pa_nil star_c) star_c) star_c)))) pss_nil)
    (pss_cons (ps_while PassesOwn.never (pt_cmpR op_gt (pe_callB call_len_seq rfl T.z_len b_len (pa_cons (pv 2) pa_nil star_n)) pe_int (nomark _)) (pss_cons (ps_set (i := 4) sc_law_ruled.nd rfl (Or.inl rfl) (pe_bm0 PySem.F.plainAttrs_list PySem.F.slot_list_pop PySem.F.type_list_pop mt_pop (pv 2)))
    (pss_one (ps_expr (pe_bm PySem.F.plainAttrs_list PySem.F.slot_list_append PySem.F.type_list_append mt_append (pv 2) (pa_cons (pe_tup (pa_cons (pe_ix ix_list (pv 1) (pe_op op_mod (pe_op op_add (pe_callB call_len_seq rfl T.z_len b_len (pa_cons (pv 2) pa_nil star_n)) (pe_ix ix_list (pv 0) pe_int (fun _ _ => rfl))) pe_int) (fun _ _ => rfl)) (pa_cons (pe_bm0 PySem.F.plainAttrs_list PySem.F.slot_list_pop PySem.F.type_list_pop mt_pop (pv 2)) (pa_cons (pv 4) pa_nil star_n) star_k) star_s)) pa_nil star_t))))))
    (pss_one (ps_ret (pe_ix ix_list (pv 2) pe_int (fun _ _ => rfl))))))))), ?_⟩
  have hl : (ns.map V.int).length = ns.length := List.length_map _
  refine ⟨(by show 4 ≤ sizeLine; decide), fun wa hwa => ?_⟩
  refine ⟨(by show 0 ≤ sizeLine; decide), fun pa hpa => ?_⟩
  have s0 : Same H (upd H wa (.lst wordsV)) := same_new hwa _
  have s1 : Same H (upd (upd H wa (.lst wordsV)) pa (.lst [])) := s0.trans (same_new hpa _)
  have nwp : wa ≠ pa := ne_of_none (upd_same (H := H) (o := HO.lst wordsV)) hpa
  have npa : H pa = none := s0.free hpa
  obtain ⟨M, eM, hM⟩ : ∃ M : Nat, M = 72 ∧ (0 < M ∧ M ≤ 4320) := ⟨_, rfl, by decide⟩
  have joined : ∀ (H2 : Hp) (cs : List Addr) (c b : Addr) (ss : List Rule) (rc rb : Rule) (x : Str) (p : Addr) (H3 : Hp), Bld M H H2 wa pa (cs ++ [c] ++ [b]) (ss ++ [rc] ++ [rb]) → Pile M H2 cs ss → RuleAt H2 c rc → Good rc → Near rc → turn rc ∣ M → RuleAt H2 b rb → Good rb → Near rb → turn rb ∣ M → Word x →
      H3 = upd (upd H2 pa (.lst ((cs ++ [c]).map V.ref))) pa (.lst (cs.map V.ref)) → H3 p = none →
      ∃ r, Bld M H (upd (upd H3 p (.tup [.str x, .ref c, .ref b])) pa (.lst (cs.map V.ref ++ [V.ref p]))) wa pa (cs ++ [p]) (ss ++ [r]) ∧ weight (ss ++ [r]) ≤ weight (ss ++ [rc] ++ [rb]) ∧ sizes (ss ++ [r]) = sizes (ss ++ [rc] ++ [rb]) + 1 := by
    intro H2 cs c b ss rc rb x p H3 B hP hc gc nc tc hb gb nb tb hx e3 hp
    have k3 : TupKeep H2 H3 := by
      rw [e3]
      exact (TupKeep.lst B.pl _).trans (TupKeep.lst upd_same _)
    have s3 : Same H H3 := by
      rw [e3]
      exact (B.same.upd_new npa _).upd_new npa _
    have h3p : H3 pa = some (.lst (cs.map V.ref)) := by rw [e3]; exact upd_same
    have h3w : H3 wa = some (.lst wordsV) := by rw [e3, upd_ne nwp, upd_ne nwp]; exact B.wd
    have npp : pa ≠ p := ne_of_none h3p hp
    have k4 : TupKeep H3 (upd H3 p (.tup [.str x, .ref c, .ref b])) := TupKeep.new hp _
    have h4p : (upd H3 p (.tup [.str x, .ref c, .ref b])) pa = some (.lst (cs.map V.ref)) := by rw [upd_ne npp]; exact h3p
    have k5 := (k3.trans k4).trans (TupKeep.lst h4p (.lst (cs.map V.ref ++ [V.ref p])))
    obtain ⟨r, hr1, hr2, hr3, hr4, hr5, hr6⟩ := join_ok (H := upd (upd H3 p (.tup [.str x, .ref c, .ref b])) pa (.lst (cs.map V.ref ++ [V.ref p]))) (p := p) hx (by rw [upd_ne npp.symm]; exact upd_same) (hc.mono k5) (hb.mono k5) gc gb nc nb tc tb
    refine ⟨r, ⟨(s3.trans (same_new hp _)).upd_new npa _, ?_, ?_, (hP.mono k5).append (.cons hr1 hr2 hr3 hr4 .nil)⟩, ?_, ?_⟩
    · rw [upd_ne nwp, upd_ne (ne_of_none h3w hp)]
      exact h3w
    · rw [upd_same, List.map_append]
      rfl
    · simp only [weight_append, weight]
      omega
    · simp only [sizes_append, sizes]
      omega
  refine ⟨_, rfl, a, _, rfl, .inl (s1.seq hS), _, rfl, by omega, by rw [hl]; omega, for_range (lo := 0) (n := (((ns.map V.int).length : Nat) : Int).toNat)
    (fun i σ H2 => ∃ (as : List Addr) (rs : List Rule) (kk sec : Option V), σ = [some (.ref a), some (.ref wa), some (.ref pa), kk, sec] ∧ Bld M H H2 wa pa as rs ∧ weight rs ≤ i ∧ sizes rs ≤ i)
    ⟨[], [], none, none, rfl, ⟨s1, by rw [upd_ne nwp]; exact upd_same, upd_same, .nil⟩, Nat.le_refl _, Nat.le_refl _⟩ ?_ ?_⟩
  · rintro i σ H2 hi ⟨as, rs, kk, sec, rfl, B, hw, hz⟩
    have hi' : i < ns.length := by rw [hl] at hi; omega
    have hS2 := B.same.seq hS
    refine ⟨_, rfl, _, rfl, a, _, _, _, rfl, rfl, hS2, at_cell hi', _, _, rfl, rfl, (by show (0 : Int) < 5; decide), _, _, rfl, rfl, _, rfl, ?_⟩
    refine ite2 (fun c1 => iteT ?app) (fun c1 => ⟨_, rfl, pa, _, rfl, .inl (SqL.of B.pl), _, _, rfl, rfl, _, rfl, ite2 (fun c2 => ?app2) (fun c2 => ?join)⟩)
    case join =>
      have c2' : ¬ (((as.map V.ref).length : Nat) : Int) < 2 := of_decide_eq_false (Bool.eq_false_iff.mpr c2)
      rw [List.length_map] at c2'
      obtain ⟨bs, b, ss, rb, rfl, rfl, hP, hb, gb, nb, tb⟩ := B.pile.last (by intro e; rw [e] at c2'; simp at c2')
      rw [List.length_append, List.length_singleton] at c2'
      obtain ⟨cs, c, ts, rc, rfl, rfl, hP2, hc, gc, nc, tc⟩ := hP.last (by intro e; rw [e] at c2'; simp at c2')
      refine ⟨_, rfl, .inl ⟨rfl, _, SqL.of B.pl⟩, pa, _, _, rfl, rfl, B.pl, (last_of _ _).1, ?_⟩
      rw [(last_of _ _).2]
      have hS3 : SqL K (upd H2 pa (.lst ((cs ++ [c]).map V.ref))) a (ns.map V.int) := (B.same.upd_new npa _).seq hS
      obtain ⟨x, hx, wx⟩ := pickW (i := ns[i] / 5 % 4) (by omega) (by omega)
      refine ⟨_, rfl, .inl ⟨rfl, _, SqL.of upd_same⟩, _, rfl, _, rfl, _, rfl, a, _, _, _, rfl, rfl, hS3, at_cell hi', _, _, rfl, rfl, ⟨by decide, by decide⟩, _, _, rfl, rfl, (by show (0 : Int) < 4; decide), wa, _, _, _, rfl, rfl, SqL.of (by rw [upd_ne nwp]; exact B.wd), hx, ?_⟩
      refine ⟨_, rfl, .inl ⟨rfl, _, SqL.of upd_same⟩, pa, _, _, rfl, rfl, upd_same, (last_of _ _).1, _, rfl, (by show 3 ≤ sizeLine; decide), fun p hp => ?_⟩
      rw [(last_of _ _).2] at hp ⊢
      have npp : pa ≠ p := ne_of_none (upd_same (H := upd H2 pa (.lst ((cs ++ [c]).map V.ref))) (o := .lst (cs.map V.ref))) hp
      obtain ⟨r, B', hw', hz'⟩ := joined H2 cs c b ts rc rb x p _ B hP2 hc gc nc tc hb gb nb tb wx rfl hp
      have wl : (cs ++ [c] ++ [b]).length ≤ weight (ts ++ [rc] ++ [rb]) := B.pile.weight
      simp only [List.length_append, List.length_singleton] at wl
      refine ⟨pa, _, _, rfl, rfl, (by rw [upd_ne npp]; exact upd_same), (by rw [List.length_map]; exact small1000 (by omega)), ?_⟩
      exact ⟨_, _, _, _, rfl, B', by omega, by omega⟩
    all_goals
      refine ⟨_, rfl, .inl ⟨rfl, _, SqL.of B.pl⟩, _, rfl, _, rfl, a, _, _, _, rfl, rfl, hS2, at_cell hi', _, _, rfl, rfl, ⟨by decide, by decide⟩, _, rfl, _, _, rfl, fun p r H3 s5 hR hG hN hd ht => ?_⟩
      have wl := B.pile.weight
      refine ⟨pa, _, _, rfl, rfl, s5 _ _ B.pl, (by rw [List.length_map]; exact small1000 (by omega)), ?_⟩
      have k5 := (TupKeep.of s5).trans (TupKeep.lst (s5 _ _ B.pl) (.lst (as.map V.ref ++ [V.ref p])))
      refine ⟨as ++ [p], rs ++ [r], _, _, rfl, ⟨(B.same.trans s5).upd_new npa _, by rw [upd_ne nwp]; exact s5 _ _ B.wd, ?_, (B.pile.mono k5).append (.cons (hR.mono (TupKeep.lst (s5 _ _ B.pl) _)) hG hN (by rw [eM]; exact ht) .nil)⟩, ?_, ?_⟩
      · rw [upd_same, List.map_append]
        rfl
      · simp only [weight_append, weight, hd]
        omega
      · simp only [sizes_append, sizes, size_plain hd]
        omega
  · rintro σ H2 ⟨as, rs, kk, sec, rfl, B, hw, hz⟩
    have hw : weight rs ≤ ns.length := by rw [hl] at hw; omega
    have hz : sizes rs ≤ ns.length := by rw [hl] at hz; omega
    have wl0 := B.pile.weight
    refine ⟨_, rfl, (by show 0 ≤ sizeLine; decide), fun e0 he0 => ⟨pa, e0, _, rfl, rfl, SqL.of (by rw [upd_ne (ne_of_none B.pl he0)]; exact B.pl), SqL.of upd_same, _, rfl, ?_⟩⟩
    refine ite2 (fun c => ?_) (fun c => ?_)
    · refine ⟨(by show 3 ≤ sizeLine; decide), fun p hp => ?_⟩
      exact q p (.every 9 4) _ (B.same.trans ((same_new he0 _).trans (same_new hp _))) upd_same (by show (1 : Int) ≤ 9 ∧ (9 : Int) ≤ 60; decide) (by show -(10 ^ 61) < (4 : Int) ∧ (4 : Int) < 10 ^ 61; decide) (Nat.zero_le _) (by show 1 ≤ 200; decide) (by show 9 ∣ 72; decide)
    · have ne : as ≠ [] := fun e => by rw [e] at c; exact c rfl
      have B0 : Bld M H (upd H2 e0 (.lst [])) wa pa as rs := ⟨B.same.trans (same_new he0 _), by rw [upd_ne (ne_of_none B.wd he0)]; exact B.wd, by rw [upd_ne (ne_of_none B.pl he0)]; exact B.pl, B.pile.mono (TupKeep.new he0 _)⟩
      refine ⟨fun m σ H4 => ∃ (as : List Addr) (rs : List Rule) (sec : Option V), m = as.length ∧ as ≠ [] ∧ σ = [some (.ref a), some (.ref wa), some (.ref pa), kk, sec] ∧ Bld M H H4 wa pa as rs ∧ weight rs ≤ ns.length ∧ sizes rs + as.length ≤ 2 * ns.length, ⟨_, as, rs, sec, rfl, ne, rfl, B0, hw, by omega⟩, ?_⟩
      rintro m σ H4 ⟨as, rs, sec, rfl, ne, rfl, B, hw, hz⟩
      have wl := B.pile.weight
      have hpos : 0 < as.length := List.length_pos_iff.mpr ne
      refine ⟨_, rfl, pa, _, rfl, .inl (SqL.of B.pl), _, _, rfl, rfl, _, rfl, ?_⟩
      refine ite2 (fun c9 => ?_) (fun c9 => ?_)
      · have c' : 1 < (((as.map V.ref).length : Nat) : Int) := of_decide_eq_true c9
        clear c9
        rw [List.length_map] at c'
        refine ⟨fun σ' H' => ∃ m', m' < as.length ∧ ∃ (as : List Addr) (rs : List Rule) (sec : Option V), m' = as.length ∧ as ≠ [] ∧ σ' = [some (.ref a), some (.ref wa), some (.ref pa), kk, sec] ∧ Bld M H H' wa pa as rs ∧ weight rs ≤ ns.length ∧ sizes rs + as.length ≤ 2 * ns.length, fun _ _ h => h, ?_⟩
        obtain ⟨bs, b, ss, rb, rfl, rfl, hP, hb, gb, nb, tb⟩ := B.pile.last ne
        rw [List.length_append, List.length_singleton] at c'
        obtain ⟨cs, c, ts, rc, rfl, rfl, hP2, hc, gc, nc, tc⟩ := hP.last (by intro e; rw [e] at c'; simp at c')
        refine ⟨_, rfl, .inl ⟨rfl, _, SqL.of B.pl⟩, pa, _, _, rfl, rfl, B.pl, (last_of _ _).1, ?_⟩
        rw [(last_of _ _).2]
        have hS3 : SqL K (upd H4 pa (.lst ((cs ++ [c]).map V.ref))) a (ns.map V.int) := (B.same.upd_new npa _).seq hS
        have h0 : 0 < ns.length := by omega
        have hc0 : atI (ns.map V.int) 0 = some (.int ns[0]) := atI_nat (j := 0) (by rw [List.getElem?_map, List.getElem?_eq_getElem h0] <;> rfl)
        obtain ⟨x, hx, wx⟩ := pickW (i := ((((cs ++ [c]).map V.ref).length : Int) + ns[0]) % 4) (by omega) (by omega)
        refine ⟨_, rfl, .inl ⟨rfl, _, SqL.of upd_same⟩, _, rfl, _, rfl, pa, _, rfl, .inl (SqL.of upd_same), _, rfl, a, _, _, _, rfl, rfl, hS3, hc0, _, _, rfl, rfl, _, _, rfl, rfl, (by show (0 : Int) < 4; decide), wa, _, _, _, rfl, rfl, SqL.of (by rw [upd_ne nwp]; exact B.wd), hx, ?_⟩
        refine ⟨_, rfl, .inl ⟨rfl, _, SqL.of upd_same⟩, pa, _, _, rfl, rfl, upd_same, (last_of _ _).1, _, rfl, (by show 3 ≤ sizeLine; decide), fun p hp => ?_⟩
        rw [(last_of _ _).2] at hp ⊢
        have npp : pa ≠ p := ne_of_none (upd_same (H := upd H4 pa (.lst ((cs ++ [c]).map V.ref))) (o := .lst (cs.map V.ref))) hp
        obtain ⟨r, B', hw', hz'⟩ := joined H4 cs c b ts rc rb x p _ B hP2 hc gc nc tc hb gb nb tb wx rfl hp
        simp only [List.length_append, List.length_singleton] at wl hz
        refine ⟨pa, _, _, rfl, rfl, (by rw [upd_ne npp]; exact upd_same), (by rw [List.length_map]; exact small1000 (by omega)), ?_⟩
        exact ⟨_, by simp only [List.length_append, List.length_singleton]; omega, cs ++ [p], _, _, rfl, by simp, rfl, B', by omega, by simp only [List.length_append, List.length_singleton]; omega⟩
      · have c' : ¬ 1 < (((as.map V.ref).length : Nat) : Int) := of_decide_eq_false (Bool.eq_false_iff.mpr c9)
        rw [List.length_map] at c'
        obtain ⟨bs, b, ss, rb, rfl, rfl, hP, hb, gb, nb, tb⟩ := B.pile.last ne
        rw [List.length_append, List.length_singleton] at c'
        have eb : bs = [] := List.length_eq_zero_iff.mp (by omega)
        subst eb
        cases hP
        refine ⟨_, rfl, pa, _, _, _, rfl, rfl, SqL.of B.pl, rfl, ?_⟩
        have e2 : sizes ([] ++ [rb]) = size rb := by simp [sizes]
        refine q b rb H4 B.same hb gb nb ?_ (by omega) (by rw [← eM]; exact tb)
        have e : weight ([] ++ [rb]) = depth rb + 1 := by simp [weight]
        omega
end
end Lw
set_option Elab.async false
set_option linter.all false
set_option maxRecDepth 100000
namespace Lw
open PySem L2 L3 Fd
seal L2.PSs L2.PS L2.PE L2.PT L2.PW L2.PA L2.PG L2.PGs L2.PI L2.PC
structure Adr where
  cE : Addr
  cD : Addr
  cN : Addr
  cB : Addr
  cI : Addr
  cU : Addr
  cM : Addr
def Fam (A : Adr) (C : Addr) : Prop := C = A.cE ∨ C = A.cD ∨ C = A.cN ∨ C = A.cB ∨ C = A.cI ∨ C = A.cU ∨ C = A.cM
def FamP (A : Adr) (C : Addr) : Prop := C = A.cB ∨ C = A.cI ∨ C = A.cU ∨ C = A.cM
def flE (m s : Int) : List (Str × V) := putF "start" (.int s) (putF "turn" (.int m) [])
def flD (d : Int) : List (Str × V) := putF "date" (.int d) (putF "turn" (.int 72) [])
def flN (x k : Int) : List (Str × V) := putF "weekday" (.int k) (putF "which" (.int x) (putF "turn" (.int 72) []))
def flP (t : Nat) (a b : Addr) : List (Str × V) := putF "other" (.ref b) (putF "part" (.ref a) (putF "turn" (.int t) []))
def flM (t : Nat) (a b kd : Addr) : List (Str × V) := putF "known" (.ref kd) (flP t a b)
def PartAt (A : Adr) (G : Addr → Option Rule) (H : Hp) : Addr → Rule → Prop
  | p, .every m s => ∃ dx, H p = some (.ins A.cE dx (flE m s))
  | p, .date d => ∃ dx, H p = some (.ins A.cD dx (flD d))
  | p, .nth x k => ∃ dx, H p = some (.ins A.cN dx (flN x k))
  | p, .both x y => ∃ dx a b, H p = some (.ins A.cB dx (flP (Nat.lcm (turn x) (turn y)) a b)) ∧ PartAt A G H a x ∧ PartAt A G H b y
  | p, .either x y => ∃ dx a b, H p = some (.ins A.cI dx (flP (Nat.lcm (turn x) (turn y)) a b)) ∧ PartAt A G H a x ∧ PartAt A G H b y
  | p, .but x y => ∃ dx a b, H p = some (.ins A.cU dx (flP (Nat.lcm (turn x) (turn y)) a b)) ∧ PartAt A G H a x ∧ PartAt A G H b y
  | p, .moved x y => ∃ dx a b kd, H p = some (.ins A.cM dx (flM (Nat.lcm (turn x) (turn y)) a b kd)) ∧ G kd = some (.moved x y) ∧ PartAt A G H a x ∧ PartAt A G H b y
def GLe (G G' : Addr → Option Rule) : Prop := ∀ b r, G b = some r → G' b = some r
def InsKeep (H H' : Hp) : Prop := ∀ b C dx fs, H b = some (.ins C dx fs) → H' b = some (.ins C dx fs)
theorem PartAt.mono {A : Adr} {G G' : Addr → Option Rule} {H H' : Hp} (g : GLe G G') (k : InsKeep H H') : ∀ {r : Rule} {p : Addr}, PartAt A G H p r → PartAt A G' H' p r
  | .every _ _, _, ⟨dx, h⟩ => ⟨dx, k _ _ _ _ h⟩
  | .date _, _, ⟨dx, h⟩ => ⟨dx, k _ _ _ _ h⟩
  | .nth _ _, _, ⟨dx, h⟩ => ⟨dx, k _ _ _ _ h⟩
  | .both _ _, _, ⟨dx, a, b, h, x, y⟩ => ⟨dx, a, b, k _ _ _ _ h, x.mono g k, y.mono g k⟩
  | .either _ _, _, ⟨dx, a, b, h, x, y⟩ => ⟨dx, a, b, k _ _ _ _ h, x.mono g k, y.mono g k⟩
  | .but _ _, _, ⟨dx, a, b, h, x, y⟩ => ⟨dx, a, b, k _ _ _ _ h, x.mono g k, y.mono g k⟩
  | .moved _ _, _, ⟨dx, a, b, kd, h, e, x, y⟩ => ⟨dx, a, b, kd, k _ _ _ _ h, g _ _ e, x.mono g k, y.mono g k⟩
theorem InsKeep.of {H H' : Hp} (s : Same H H') : InsKeep H H' := fun b C dx fs h => s b _ h
structure MemoOk (kvs : List (Key × V)) (r : Rule) : Prop where
  nd : (kvs.map (·.1)).Nodup
  ok : ∀ k v, valV kvs k = some v → ∃ i : Int, k = Sum.inl i ∧ 0 ≤ i ∧ i < turn r ∧ v = .bl (on r i)
def Memo (G : Addr → Option Rule) (H : Hp) : Prop := ∀ b r, G b = some r → ∃ kvs, H b = some (.dK kvs) ∧ MemoOk kvs r
theorem Memo.same {G : Addr → Option Rule} {H H' : Hp} (M : Memo G H) (s : Same H H') : Memo G H' := fun b r h => by
  obtain ⟨kvs, e, ok⟩ := M b r h
  exact ⟨kvs, s _ _ e, ok⟩
def GNew (G G' : Addr → Option Rule) (H : Hp) : Prop := GLe G G' ∧ ∀ b, H b ≠ none → G b = none → G' b = none
theorem GNew.refl (G : Addr → Option Rule) (H : Hp) : GNew G G H := ⟨fun _ _ h => h, fun _ _ h => h⟩
theorem GNew.trans {G G1 G2 : Addr → Option Rule} {H H1 : Hp} (a : GNew G G1 H) (s : Same H H1) (b : GNew G1 G2 H1) : GNew G G2 H :=
  ⟨fun c r h => b.1 c r (a.1 c r h), fun c h n => b.2 c (fun z => h (s.free z)) (a.2 c h n)⟩
structure Ptx (K : PySem.W.Frag) (mg : Str → Option Value) (A : Adr) : Prop where
  kE : ClsIn K "EveryPart" A.cE
  kD : ClsIn K "DatePart" A.cD
  kN : ClsIn K "NthPart" A.cN
  kB : ClsIn K "BothPart" A.cB
  kI : ClsIn K "EitherPart" A.cI
  kU : ClsIn K "ButPart" A.cU
  kM : ClsIn K "MovedPart" A.cM
  mE : mg "EveryPart" = some (.ref A.cE)
  mD : mg "DatePart" = some (.ref A.cD)
  mN : mg "NthPart" = some (.ref A.cN)
  mB : mg "BothPart" = some (.ref A.cB)
  mI : mg "EitherPart" = some (.ref A.cI)
  mU : mg "ButPart" = some (.ref A.cU)
  mM : mg "MovedPart" = some (.ref A.cM)
  tE : NoAttr K A.cE "turn"
  tD : NoAttr K A.cD "turn"
  tN : NoAttr K A.cN "turn"
  tB : NoAttr K A.cB "turn"
  tI : NoAttr K A.cI "turn"
  tU : NoAttr K A.cU "turn"
  tM : NoAttr K A.cM "turn"
  sE : NoAttr K A.cE "start"
  dD : NoAttr K A.cD "date"
  wN : NoAttr K A.cN "which"
  yN : NoAttr K A.cN "weekday"
  pB : NoAttr K A.cB "part"
  pI : NoAttr K A.cI "part"
  pU : NoAttr K A.cU "part"
  pM : NoAttr K A.cM "part"
  oB : NoAttr K A.cB "other"
  oI : NoAttr K A.cI "other"
  oU : NoAttr K A.cU "other"
  oM : NoAttr K A.cM "other"
  nM : NoAttr K A.cM "known"
  g_MOST_DAYS : ∃ t, mg "MOST_DAYS" = some (.int 60 t)
  g_MOST_WHICH : ∃ t, mg "MOST_WHICH" = some (.int 5 t)
  g_ODD_MONTH : ∃ t, mg "ODD_MONTH" = some (.int 37 t)
  g_TWO_MONTHS : ∃ t, mg "TWO_MONTHS" = some (.int 72 t)
  g_WEEKDAYS : ∃ t, mg "WEEKDAYS" = some (.int 9 t)
  z_abs : mg "abs" = none
section
variable {K : PySem.W.Frag} {mg : Str → Option Value} {A : Adr}
theorem Ptx.cls (T : Ptx K mg A) {C : Addr} (h : Fam A C) : Cls K C ∧ NoAttr K C "turn" := by
  rcases h with rfl | rfl | rfl | rfl | rfl | rfl | rfl
  · exact ⟨T.kE.cls, T.tE⟩
  · exact ⟨T.kD.cls, T.tD⟩
  · exact ⟨T.kN.cls, T.tN⟩
  · exact ⟨T.kB.cls, T.tB⟩
  · exact ⟨T.kI.cls, T.tI⟩
  · exact ⟨T.kU.cls, T.tU⟩
  · exact ⟨T.kM.cls, T.tM⟩
theorem Ptx.pair (T : Ptx K mg A) {C : Addr} (h : FamP A C) : Cls K C ∧ NoAttr K C "turn" ∧ NoAttr K C "part" ∧ NoAttr K C "other" := by
  rcases h with rfl | rfl | rfl | rfl
  · exact ⟨T.kB.cls, T.tB, T.pB, T.oB⟩
  · exact ⟨T.kI.cls, T.tI, T.pI, T.oI⟩
  · exact ⟨T.kU.cls, T.tU, T.pU, T.oU⟩
  · exact ⟨T.kM.cls, T.tM, T.pM, T.oM⟩
end
theorem flE_turn (m s : Int) : (flE m s).lookup ("turn" : Str) = some (.int m) := by
  unfold flE
  rw [lookup_putF, if_neg (by decide +kernel), lookup_putF, if_pos rfl]
theorem flD_turn (d : Int) : (flD d).lookup ("turn" : Str) = some (.int 72) := by
  unfold flD
  rw [lookup_putF, if_neg (by decide +kernel), lookup_putF, if_pos rfl]
theorem flN_turn (x k : Int) : (flN x k).lookup ("turn" : Str) = some (.int 72) := by
  unfold flN
  rw [lookup_putF, if_neg (by decide +kernel), lookup_putF, if_neg (by decide +kernel), lookup_putF, if_pos rfl]
theorem flP_turn (t : Nat) (a b : Addr) : (flP t a b).lookup ("turn" : Str) = some (.int t) := by
  unfold flP
  rw [lookup_putF, if_neg (by decide +kernel), lookup_putF, if_neg (by decide +kernel), lookup_putF, if_pos rfl]
theorem flM_turn (t : Nat) (a b kd : Addr) : (flM t a b kd).lookup ("turn" : Str) = some (.int t) := by
  unfold flM
  rw [lookup_putF, if_neg (by decide +kernel), flP_turn]
theorem PartAt.turn {A : Adr} {G : Addr → Option Rule} {H : Hp} : ∀ {r : Rule} {p : Addr}, Good r → PartAt A G H p r → ∃ C dx fs, H p = some (.ins C dx fs) ∧ Fam A C ∧ fs.lookup ("turn" : Str) = some (.int (Fd.turn r : Nat))
  | .every m s, p, g, ⟨dx, h⟩ => by
    have g : 1 ≤ m ∧ m ≤ 60 := g
    refine ⟨_, dx, _, h, .inl rfl, ?_⟩
    rw [flE_turn]
    show some (V.int m) = some (V.int ((m.toNat : Nat) : Int))
    rw [show ((m.toNat : Nat) : Int) = m by omega]
  | .date d, p, _, ⟨dx, h⟩ => ⟨_, dx, _, h, .inr (.inl rfl), flD_turn _⟩
  | .nth x k, p, _, ⟨dx, h⟩ => ⟨_, dx, _, h, .inr (.inr (.inl rfl)), flN_turn _ _⟩
  | .both x y, p, _, ⟨dx, a, b, h, _, _⟩ => ⟨_, dx, _, h, .inr (.inr (.inr (.inl rfl))), flP_turn _ _ _⟩
  | .either x y, p, _, ⟨dx, a, b, h, _, _⟩ => ⟨_, dx, _, h, .inr (.inr (.inr (.inr (.inl rfl)))), flP_turn _ _ _⟩
  | .but x y, p, _, ⟨dx, a, b, h, _, _⟩ => ⟨_, dx, _, h, .inr (.inr (.inr (.inr (.inr (.inl rfl))))), flP_turn _ _ _⟩
  | .moved x y, p, _, ⟨dx, a, b, kd, h, _, _, _⟩ => ⟨_, dx, _, h, .inr (.inr (.inr (.inr (.inr (.inr rfl))))), flM_turn _ _ _ _⟩
def spGd : Sp := fun vs H Q _ => ∃ m n : Nat, vs = [.int m, .int n] ∧ Q (.int (Nat.gcd m n : Nat)) H
def spLm : Sp := fun vs H Q _ => ∃ m n : Nat, vs = [.int m, .int n] ∧ 0 < m ∧ 0 < n ∧ m ≤ 1000000 ∧ n ≤ 1000000 ∧ Q (.int (Nat.lcm m n : Nat)) H
section
variable {P : Program} {w : World} {K : PySem.W.Frag} {mg : Str → Option Value} {base : Heap}
theorem sc_greatest_divisor : FnScope ["number", "other", "left"] ["number", "other"] (defScope sGd) := ⟨rfl, rfl, rfl, by decide +kernel, rfl, by decide +kernel, by decide +kernel⟩
theorem ok_gd (D : Df K mg "greatest_divisor" sGd ["number", "other"]) : Has P w K mg base 1 "greatest_divisor" ["number", "other"] spGd := by
  refine D.ok sc_greatest_divisor (fun vs H Q E h => ?_) (fun f cdv A outer s H vs Q E hr h => ?_)
  · obtain ⟨m, n, rfl, _⟩ := h
    rfl
  obtain ⟨m, n, rfl, q⟩ := h
  refine ⟨_, (pss_cons (ps_while PassesOwn.never (pt_cmpR op_ne (pv 1) pe_int (nomark _)) (pss_cons (ps_set (i := 2) sc_greatest_divisor.nd rfl (Or.inl rfl) (pe_op op_mod (pv 0) (pv 1)))
    (pss_cons (ps_set (i := 0) sc_greatest_divisor.nd rfl (Or.inl rfl) (pv 1))
    (pss_one (ps_set (i := 1) sc_greatest_divisor.nd rfl (Or.inl rfl) (pv 2))))))
    (pss_one (ps_ret (pv 0)))), ?_⟩
  refine ⟨fun k σ H2 => ∃ (x y : Nat) (l : Option V), y = k ∧ Nat.gcd x y = Nat.gcd m n ∧ σ = [some (.int x), some (.int y), l] ∧ H2 = H, ⟨_, m, n, none, rfl, rfl, rfl, rfl⟩, ?_⟩
  rintro k σ H2 ⟨x, y, l, rfl, hg, rfl, rfl⟩
  refine ⟨_, rfl, rfl, _, rfl, ?_⟩
  rw [decI]
  by_cases hy : (y : Int) = 0
  · rw [decide_eq_true hy]
    refine iteF ⟨_, rfl, ?_⟩
    have e : y = 0 := by omega
    subst e
    rw [Nat.gcd_zero_right] at hg
    rw [hg]
    exact q
  · rw [decide_eq_false hy]
    have y0 : 0 < y := by omega
    refine iteT ⟨fun σ' H' => ∃ m', m' < y ∧ ∃ (x y : Nat) (l : Option V), y = m' ∧ Nat.gcd x y = Nat.gcd m n ∧ σ' = [some (.int x), some (.int y), l] ∧ H' = H2, fun _ _ h => h, ?_⟩
    refine ⟨_, rfl, _, rfl, _, _, rfl, rfl, (by show (0 : Int) < (y : Int); omega), ?_⟩
    refine ⟨_, rfl, ?_⟩
    refine ⟨_, rfl, x % y, Nat.mod_lt _ y0, y, x % y, some (.int ((x % y : Nat) : Int)), rfl, ?_, ?_, rfl⟩
    · rw [← hg, Nat.gcd_comm y, ← Nat.gcd_rec, Nat.gcd_comm]
    · rw [Int.natCast_emod]
      rfl
theorem sc_least_multiple : FnScope ["number", "other"] ["number", "other"] (defScope sLm) := ⟨rfl, rfl, rfl, by decide +kernel, rfl, by decide +kernel, by decide +kernel⟩
theorem ok_lm (D : Df K mg "least_multiple" sLm ["number", "other"]) (C_greatest_divisor : Has P w K mg base 1 "greatest_divisor" ["number", "other"] spGd) : Has P w K mg base 2 "least_multiple" ["number", "other"] spLm := by
  refine D.ok sc_least_multiple (fun vs H Q E h => ?_) (fun f cdv A outer s H vs Q E hr h => ?_)
  · obtain ⟨m, n, rfl, _⟩ := h
    rfl
  obtain ⟨m, n, rfl, m0, n0, m1, n1, q⟩ := h
  refine ⟨_, (pss_one (ps_ret (pe_op op_mul (pe_op op_fdiv (pv 0) (pe_has C_greatest_divisor hr (by decide) (pa_cons (pv 0) (pa_cons (pv 1) pa_nil star_n) star_n))) (pv 1)))), ?_⟩
  have g0 : 0 < Nat.gcd m n := Nat.gcd_pos_of_pos_left n m0
  have g1 : Nat.gcd m n ≤ m := Nat.gcd_le_left n m0
  refine ⟨_, rfl, _, rfl, _, rfl, m, n, rfl, _, _, rfl, rfl, ⟨by omega, by omega⟩, _, rfl, _, _, rfl, rfl, .inr ⟨by omega, by omega⟩, ?_⟩
  have e : ((m : Int) / ((Nat.gcd m n : Nat) : Int)) * (n : Int) = ((Nat.lcm m n : Nat) : Int) := by
    rw [← Int.natCast_ediv, ← Int.natCast_mul, Nat.div_mul_right_comm (Nat.gcd_dvd_left m n)]
    rfl
  have q' := q
  rw [← e] at q'
  exact q'
def spInitE (A : Adr) : Sp := fun vs H Q _ => ∃ (p dx : Addr) (m st : Int), vs = [.ref p, .int m, .int st] ∧ H p = some (.ins A.cE dx []) ∧ (1 ≤ m ∧ m ≤ 60) ∧ Q .non (upd H p (.ins A.cE dx (flE m st)))
def spInitD (A : Adr) : Sp := fun vs H Q _ => ∃ (p dx : Addr) (d : Int), vs = [.ref p, .int d] ∧ H p = some (.ins A.cD dx []) ∧ ((1 ≤ d ∧ d ≤ 37) ∨ (-37 ≤ d ∧ d ≤ -1)) ∧ Q .non (upd H p (.ins A.cD dx (flD d)))
def spInitN (A : Adr) : Sp := fun vs H Q _ => ∃ (p dx : Addr) (x k : Int), vs = [.ref p, .int x, .int k] ∧ H p = some (.ins A.cN dx []) ∧ (((1 ≤ x ∧ x ≤ 5) ∨ (-5 ≤ x ∧ x ≤ -1)) ∧ 0 ≤ k ∧ k < 9) ∧ Q .non (upd H p (.ins A.cN dx (flN x k)))
def Turns (A : Adr) (H : Hp) (a : Addr) (t : Nat) : Prop := ∃ C dx fs, H a = some (.ins C dx fs) ∧ Fam A C ∧ fs.lookup ("turn" : Str) = some (.int (t : Nat)) ∧ 0 < t ∧ t ≤ 1000000
def spInitP (A : Adr) : Sp := fun vs H Q _ => ∃ (p C dx a b : Addr) (t u : Nat), vs = [.ref p, .ref a, .ref b] ∧ H p = some (.ins C dx []) ∧ FamP A C ∧ Turns A H a t ∧ Turns A H b u ∧ Q .non (upd H p (.ins C dx (flP (Nat.lcm t u) a b)))
def spInitM (A : Adr) : Sp := fun vs H Q _ => ∃ (p dx a b : Addr) (t u : Nat), vs = [.ref p, .ref a, .ref b] ∧ H p = some (.ins A.cM dx []) ∧ Turns A H a t ∧ Turns A H b u ∧
  ∀ kd, H kd = none → Q .non (upd (upd (upd H p (.ins A.cM dx (flP (Nat.lcm t u) a b))) kd (.dK [])) p (.ins A.cM dx (flM (Nat.lcm t u) a b kd)))
theorem len1 {f : Str} {v : V} : (putF f v []).length < 1000 := by show 1 < 1000; decide
theorem len2 {f g : Str} {v u : V} : (putF f v (putF g u [])).length < 1000 := Nat.lt_of_le_of_lt (length_putF _ _ _) (by show 2 < 1000; decide)
theorem len3 {f g h : Str} {v u x : V} : (putF f v (putF g u (putF h x []))).length < 1000 := Nat.lt_of_le_of_lt (Nat.le_trans (length_putF _ _ _) (Nat.succ_le_succ (length_putF _ _ _))) (by show 3 < 1000; decide)
theorem abs_in {d n : Int} (h : (1 ≤ d ∧ d ≤ n) ∨ (-n ≤ d ∧ d ≤ -1)) : 1 ≤ (if d < 0 then -d else d) ∧ (if d < 0 then -d else d) ≤ n := by
  split <;> omega
variable {A : Adr}
theorem sc_EveryPartinit : FnScope ["self", "many", "start"] ["self", "many", "start"] (defScope sEveryI) := ⟨rfl, rfl, rfl, by decide +kernel, rfl, by decide +kernel, by decide +kernel⟩
theorem ok_initE (D : In K A.cE "EveryPart.__init__" sEveryI ["self", "many", "start"]) (T : Ptx K mg A) : HasC P w K mg base 1 "EveryPart" A.cE ["self", "many", "start"] (spInitE A) := by
  obtain ⟨f, fd, F, b, M⟩ := D
  refine ⟨T.mE, f, fd, M, F.ok sc_EveryPartinit (fun vs H Q E h => ?_) (fun cdv Ar outer s H vs Q E hr h => ?_), b⟩
  · obtain ⟨p, dx, m, st, rfl, _⟩ := h
    rfl
  obtain ⟨p, dx, m, st, rfl, hp, hm, q⟩ := h
  refine ⟨_, (pss_cons (ps_if (pt_not (pt_chain op_le op_le pe_int (pv 1) (pe_gint rfl T.g_MOST_DAYS))) (pss_one ps_never) pss_nil)
    (pss_cons (ps_fld (pv 0) (pv 1) rfl)
    (pss_one (ps_fld (pv 0) (pv 2) rfl)))), ?_⟩
  refine ⟨_, rfl, _, _, rfl, rfl, _, rfl, iteP (decide_eq_true hm.1) ⟨_, _, rfl, rfl, _, rfl, ?_⟩⟩
  refine iteN (by rw [decide_eq_true hm.2]; rfl) ?_
  refine ⟨_, rfl, _, rfl, p, A.cE, dx, [], rfl, hp, T.kE.cls, T.tE, (by show 0 < 1000; decide), ?_⟩
  refine ⟨_, rfl, _, rfl, p, A.cE, dx, _, rfl, upd_same, T.kE.cls, T.sE, len1, ?_⟩
  rw [upd_upd]
  exact q
theorem sc_DatePartinit : FnScope ["self", "date"] ["self", "date"] (defScope sDateI) := ⟨rfl, rfl, rfl, by decide +kernel, rfl, by decide +kernel, by decide +kernel⟩
theorem ok_initD (D : In K A.cD "DatePart.__init__" sDateI ["self", "date"]) (T : Ptx K mg A) : HasC P w K mg base 1 "DatePart" A.cD ["self", "date"] (spInitD A) := by
  obtain ⟨f, fd, F, b, M⟩ := D
  refine ⟨T.mD, f, fd, M, F.ok sc_DatePartinit (fun vs H Q E h => ?_) (fun cdv Ar outer s H vs Q E hr h => ?_), b⟩
  · obtain ⟨p, dx, d, rfl, _⟩ := h
    rfl
  obtain ⟨p, dx, d, rfl, hp, hm, q⟩ := h
  have ha := abs_in hm
  refine ⟨_, (pss_cons (ps_if (pt_not (pt_chain op_le op_le pe_int (pe_callB call_abs rfl T.z_abs b_abs (pa_cons (pv 1) pa_nil star_n)) (pe_gint rfl T.g_ODD_MONTH))) (pss_one ps_never) pss_nil)
    (pss_cons (ps_fld (pv 0) (pe_gint rfl T.g_TWO_MONTHS) rfl)
    (pss_one (ps_fld (pv 0) (pv 1) rfl)))), ?_⟩
  refine ⟨_, rfl, _, rfl, _, _, rfl, rfl, _, rfl, iteP (decide_eq_true ha.1) ⟨_, _, rfl, rfl, _, rfl, ?_⟩⟩
  refine iteN (by rw [decide_eq_true ha.2]; rfl) ?_
  refine ⟨_, rfl, p, A.cD, dx, [], rfl, hp, T.kD.cls, T.tD, (by show 0 < 1000; decide), ?_⟩
  refine ⟨_, rfl, _, rfl, p, A.cD, dx, _, rfl, upd_same, T.kD.cls, T.dD, len1, ?_⟩
  rw [upd_upd]
  exact q
theorem sc_NthPartinit : FnScope ["self", "which", "weekday"] ["self", "which", "weekday"] (defScope sNthI) := ⟨rfl, rfl, rfl, by decide +kernel, rfl, by decide +kernel, by decide +kernel⟩
theorem ok_initN (D : In K A.cN "NthPart.__init__" sNthI ["self", "which", "weekday"]) (T : Ptx K mg A) : HasC P w K mg base 1 "NthPart" A.cN ["self", "which", "weekday"] (spInitN A) := by
  obtain ⟨f, fd, F, b, M⟩ := D
  refine ⟨T.mN, f, fd, M, F.ok sc_NthPartinit (fun vs H Q E h => ?_) (fun cdv Ar outer s H vs Q E hr h => ?_), b⟩
  · obtain ⟨p, dx, x, k, rfl, _⟩ := h
    rfl
  obtain ⟨p, dx, x, k, rfl, hp, ⟨hm, k0, k9⟩, q⟩ := h
  have ha := abs_in hm
  refine ⟨_, (pss_cons (ps_if (pt_not (pt_chain op_le op_le pe_int (pe_callB call_abs rfl T.z_abs b_abs (pa_cons (pv 1) pa_nil star_n)) (pe_gint rfl T.g_MOST_WHICH))) (pss_one ps_never) pss_nil)
    (pss_cons (ps_if (pt_not (pt_chain op_le op_lt pe_int (pv 2) (pe_gint rfl T.g_WEEKDAYS))) (pss_one ps_never) pss_nil)
    (pss_cons (ps_fld (pv 0) (pe_gint rfl T.g_TWO_MONTHS) rfl)
    (pss_cons (ps_fld (pv 0) (pv 1) rfl)
    (pss_one (ps_fld (pv 0) (pv 2) rfl)))))), ?_⟩
  refine ⟨_, rfl, _, rfl, _, _, rfl, rfl, _, rfl, iteP (decide_eq_true ha.1) ⟨_, _, rfl, rfl, _, rfl, ?_⟩⟩
  refine iteN (by rw [decide_eq_true ha.2]; rfl) ?_
  refine ⟨_, rfl, _, _, rfl, rfl, _, rfl, iteP (decide_eq_true k0) ⟨_, _, rfl, rfl, _, rfl, ?_⟩⟩
  refine iteN (by rw [decide_eq_true k9]; rfl) ?_
  refine ⟨_, rfl, p, A.cN, dx, [], rfl, hp, T.kN.cls, T.tN, (by show 0 < 1000; decide), ?_⟩
  refine ⟨_, rfl, _, rfl, p, A.cN, dx, _, rfl, upd_same, T.kN.cls, T.wN, len1, ?_⟩
  refine ⟨_, rfl, _, rfl, p, A.cN, dx, _, rfl, upd_same, T.kN.cls, T.yN, len2, ?_⟩
  rw [upd_upd, upd_upd]
  exact q
theorem sc_PairPartinit : FnScope ["self", "part", "other"] ["self", "part", "other"] (defScope sPairI) := ⟨rfl, rfl, rfl, by decide +kernel, rfl, by decide +kernel, by decide +kernel⟩
theorem ok_initP {f : Addr} {fd : FuncData} (F : Fun K "__init__" "PairPart.__init__" sPairI f fd) (T : Ptx K mg A) (C_least_multiple : Has P w K mg base 2 "least_multiple" ["number", "other"] spLm) : FnOk P w K mg base CX0 3 f fd ["self", "part", "other"] (spInitP A) := by
  refine F.ok sc_PairPartinit (fun vs H Q E h => ?_) (fun cdv Ar outer s H vs Q E hr h => ?_)
  · obtain ⟨p, C, dx, a, b, t, u, rfl, _⟩ := h
    rfl
  obtain ⟨p, C, dx, a, b, t, u, rfl, hp, hC, ⟨Ca, da, fa, ha, hCa, la, t0, t1⟩, ⟨Cb, db, fb, hb, hCb, lb, u0, u1⟩, q⟩ := h
  obtain ⟨c1, c2, c3, c4⟩ := T.pair hC
  refine ⟨_, (pss_cons (ps_fld (pv 0) (pe_has C_least_multiple hr (by decide) (pa_cons (pe_fld (pv 1) rfl) (pa_cons (pe_fld (pv 2) rfl) pa_nil star_a) star_a)) rfl)
    (pss_cons (ps_fld (pv 0) (pv 1) rfl)
    (pss_one (ps_fld (pv 0) (pv 2) rfl)))), ?_⟩
  refine ⟨_, rfl, a, Ca, da, fa, _, rfl, ha, (T.cls hCa).1, (T.cls hCa).2, la, _, rfl, b, Cb, db, fb, _, rfl, hb, (T.cls hCb).1, (T.cls hCb).2, lb, t, u, rfl, t0, u0, t1, u1, _, rfl, p, C, dx, [], rfl, hp, c1, c2, (by show 0 < 1000; decide), ?_⟩
  refine ⟨_, rfl, _, rfl, p, C, dx, _, rfl, upd_same, c1, c3, len1, ?_⟩
  refine ⟨_, rfl, _, rfl, p, C, dx, _, rfl, upd_same, c1, c4, len2, ?_⟩
  rw [upd_upd, upd_upd]
  exact q
theorem sc_MovedPartinit : FnScope ["self", "part", "shunned"] ["self", "part", "shunned"] (defScope sMovedI) := ⟨rfl, rfl, rfl, by decide +kernel, rfl, by decide +kernel, by decide +kernel⟩
theorem ok_initM (D : In K A.cM "MovedPart.__init__" sMovedI ["self", "part", "shunned"]) (T : Ptx K mg A) (C_PairPart : HasK P w K mg base 3 "PairPart" "__init__" ["self", "part", "other"] (spInitP A)) : HasC P w K mg base 4 "MovedPart" A.cM ["self", "part", "shunned"] (spInitM A) := by
  obtain ⟨f, fd, F, b, M⟩ := D
  refine ⟨T.mM, f, fd, M, F.ok sc_MovedPartinit (fun vs H Q E h => ?_) (fun cdv Ar outer s H vs Q E hr h => ?_), b⟩
  · obtain ⟨p, dx, a, b, t, u, rfl, _⟩ := h
    rfl
  obtain ⟨p, dx, a, b, t, u, rfl, hp, ha, hb, q⟩ := h
  refine ⟨_, (pss_cons (ps_expr (pe_clsm C_PairPart hr (by decide) (pa_cons (pv 0) (pa_cons (pv 1) (pa_cons (pv 2) pa_nil star_n) star_n) star_n)))
    (pss_one (ps_fld (pv 0) pe_dnewK rfl))), ?_⟩
  refine ⟨_, rfl, _, rfl, _, rfl, p, A.cM, dx, a, b, t, u, rfl, hp, .inr (.inr (.inr rfl)), ha, hb, ?_⟩
  intro kd hkd
  have npk : p ≠ kd := ne_of_none (upd_same (H := H) (o := .ins A.cM dx (flP (Nat.lcm t u) a b))) hkd
  refine ⟨_, rfl, p, A.cM, dx, _, rfl, (by rw [upd_ne npk]; exact upd_same), T.kM.cls, T.nM, len3, ?_⟩
  refine q kd ?_
  rw [upd_ne npk.symm] at hkd
  exact hkd
end
end Lw
set_option Elab.async false
set_option linter.all false
set_option maxRecDepth 100000
namespace Lw
open PySem L2 L3 Fd
seal L2.PSs L2.PS L2.PE L2.PT L2.PW L2.PA L2.PG L2.PGs L2.PI L2.PC
def Made (A : Adr) (G : Addr → Option Rule) (H : Hp) (r : Rule) (Q : VK) : Prop := ∀ p G' H', Same H H' → GNew G G' H → PartAt A G' H' p r → Memo G' H' → Q (.ref p) H'
def spPair (A : Adr) : Sp := fun vs H Q _ => ∃ (x : Str) (a b : Addr) (ra rb r : Rule) (G : Addr → Option Rule), vs = [.str x, .ref a, .ref b] ∧
  ((x = "both" ∧ r = .both ra rb) ∨ (x = "either" ∧ r = .either ra rb) ∨ (x = "but" ∧ r = .but ra rb) ∨ (x = "moved" ∧ r = .moved ra rb)) ∧
  Good ra ∧ Good rb ∧ turn ra ≤ 1000000 ∧ turn rb ≤ 1000000 ∧ PartAt A G H a ra ∧ PartAt A G H b rb ∧ Memo G H ∧ Made A G H r Q
def spPart (A : Adr) (n : Nat) : Sp := fun vs H Q _ => ∃ (a : Addr) (r : Rule) (G : Addr → Option Rule), vs = [.ref a] ∧ RuleAt H a r ∧ Good r ∧ depth r < n ∧ turn r ≤ 1000000 ∧ Memo G H ∧ Made A G H r Q
theorem PartAt.turns {A : Adr} {G : Addr → Option Rule} {H : Hp} {r : Rule} {p : Addr} (h : PartAt A G H p r) (g : Good r) (t : Fd.turn r ≤ 1000000) : Turns A H p (Fd.turn r) := by
  obtain ⟨C, dx, fs, h1, h2, h3⟩ := h.turn g
  exact ⟨C, dx, fs, h1, h2, h3, turn_pos g, t⟩
theorem same_obj {H : Hp} {x dx : Addr} {o : HO} (hx : H x = none) (hd : H dx = none) : Same H (upd (upd H dx (.own x)) x o) := (same_new hd _).upd_new hx _
theorem turns_new {A : Adr} {H H' : Hp} (s : Same H H') {a : Addr} {t : Nat} (h : Turns A H a t) : Turns A H' a t := by
  obtain ⟨C, dx, fs, h1, h2, h3⟩ := h
  exact ⟨C, dx, fs, s _ _ h1, h2, h3⟩
section
variable {P : Program} {w : World} {K : PySem.W.Frag} {mg : Str → Option Value} {base : Heap} {A : Adr}
theorem sc_pair_of : FnScope ["kind", "part", "other"] ["kind", "part", "other"] (defScope sPair) := ⟨rfl, rfl, rfl, by decide +kernel, rfl, by decide +kernel, by decide +kernel⟩
theorem ok_pair (D : Df K mg "pair_of" sPair ["kind", "part", "other"]) (T : Ptx K mg A)
    (C_BothPart : HasC P w K mg base 3 "BothPart" A.cB ["self", "part", "other"] (spInitP A)) (C_EitherPart : HasC P w K mg base 3 "EitherPart" A.cI ["self", "part", "other"] (spInitP A))
    (C_ButPart : HasC P w K mg base 3 "ButPart" A.cU ["self", "part", "other"] (spInitP A)) (C_MovedPart : HasC P w K mg base 4 "MovedPart" A.cM ["self", "part", "shunned"] (spInitM A)) :
    Has P w K mg base 6 "pair_of" ["kind", "part", "other"] (spPair A) := by
  refine D.ok sc_pair_of (fun vs H Q E h => ?_) (fun f cdv Ar outer s H vs Q E hr h => ?_)
  · obtain ⟨x, a, b, ra, rb, r, G, rfl, _⟩ := h
    rfl
  obtain ⟨x, a, b, ra, rb, r, G, rfl, hx, ga, gb, ta, tb, pa, pb, M, q⟩ := h
  refine ⟨_, (pss_cons (ps_if (pt_cmpR op_eq (pv 0) pe_str (nomark _)) (pss_one (ps_ret (pe_new C_BothPart hr (by decide) (pa_cons (pv 1) (pa_cons (pv 2) pa_nil star_n) star_n)))) pss_nil)
    (pss_cons (ps_if (pt_cmpR op_eq (pv 0) pe_str (nomark _)) (pss_one (ps_ret (pe_new C_EitherPart hr (by decide) (pa_cons (pv 1) (pa_cons (pv 2) pa_nil star_n) star_n)))) pss_nil)
    (pss_cons (ps_if (pt_cmpR op_eq (pv 0) pe_str (nomark _)) (pss_one (ps_ret (pe_new C_ButPart hr (by decide) (pa_cons (pv 1) (pa_cons (pv 2) pa_nil star_n) star_n)))) pss_nil)
    (pss_cons (ps_if (pt_cmpR op_eq (pv 0) pe_str (nomark _)) (pss_one (ps_ret (pe_new C_MovedPart hr (by decide) (pa_cons (pv 1) (pa_cons (pv 2) pa_nil star_n) star_n)))) pss_nil)
    (pss_one ps_never))))), ?_⟩
  have Ta := pa.turns ga ta
  have Tb := pb.turns gb tb
  have pair : ∀ (C x dx : Addr), FamP A C → H x = none → H dx = none → dx ≠ x → (∀ G' H', PartAt A G' H' a ra → PartAt A G' H' b rb → H' x = some (.ins C dx (flP (Nat.lcm (turn ra) (turn rb)) a b)) → PartAt A G' H' x r) →
      spInitP A (.ref x :: [.ref a, .ref b]) (upd (upd H dx (.own x)) x (.ins C dx [])) (fun v H2 => v = .non ∧ Q (.ref x) H2) E0 := by
    intro C x dx hC hx hd hne mk
    have s1 : Same H (upd (upd H dx (.own x)) x (.ins C dx [])) := same_obj hx hd
    refine ⟨x, C, dx, a, b, turn ra, turn rb, rfl, upd_same, hC, turns_new s1 Ta, turns_new s1 Tb, rfl, ?_⟩
    have s2 : Same H (upd (upd (upd H dx (.own x)) x (.ins C dx [])) x (.ins C dx (flP (Nat.lcm (turn ra) (turn rb)) a b))) := s1.upd_new hx _
    exact q x G _ s2 (GNew.refl G H) (mk G _ (pa.mono (fun _ _ h => h) (.of s2)) (pb.mono (fun _ _ h => h) (.of s2)) upd_same) (M.same s2)
  rcases hx with ⟨rfl, rfl⟩ | ⟨rfl, rfl⟩ | ⟨rfl, rfl⟩ | ⟨rfl, rfl⟩
  · refine ⟨_, rfl, rfl, _, rfl, iteP (by decide +kernel) ⟨_, rfl, _, rfl, fun x dx hx hd hne => ?_⟩⟩
    exact pair A.cB x dx (.inl rfl) hx hd hne fun G' H' h1 h2 h3 => ⟨dx, a, b, h3, h1, h2⟩
  · refine ⟨_, rfl, rfl, _, rfl, iteN (by decide +kernel) ⟨_, rfl, rfl, _, rfl, iteP (by decide +kernel) ⟨_, rfl, _, rfl, fun x dx hx hd hne => ?_⟩⟩⟩
    exact pair A.cI x dx (.inr (.inl rfl)) hx hd hne fun G' H' h1 h2 h3 => ⟨dx, a, b, h3, h1, h2⟩
  · refine ⟨_, rfl, rfl, _, rfl, iteN (by decide +kernel) ⟨_, rfl, rfl, _, rfl, iteN (by decide +kernel) ⟨_, rfl, rfl, _, rfl, iteP (by decide +kernel) ⟨_, rfl, _, rfl, fun x dx hx hd hne => ?_⟩⟩⟩⟩
    exact pair A.cU x dx (.inr (.inr (.inl rfl))) hx hd hne fun G' H' h1 h2 h3 => ⟨dx, a, b, h3, h1, h2⟩
  · refine ⟨_, rfl, rfl, _, rfl, iteN (by decide +kernel) ⟨_, rfl, rfl, _, rfl, iteN (by decide +kernel) ⟨_, rfl, rfl, _, rfl, iteN (by decide +kernel) ⟨_, rfl, rfl, _, rfl, iteP (by decide +kernel) ⟨_, rfl, _, rfl, fun x dx hx hd hne => ?_⟩⟩⟩⟩⟩
    have s1 : Same H (upd (upd H dx (.own x)) x (.ins A.cM dx [])) := same_obj hx hd
    refine ⟨x, dx, a, b, turn ra, turn rb, rfl, upd_same, turns_new s1 Ta, turns_new s1 Tb, fun kd hkd => ⟨rfl, ?_⟩⟩
    have hk : H kd = none := s1.free hkd
    have nxk : x ≠ kd := ne_of_none (upd_same (H := upd H dx (.own x)) (o := .ins A.cM dx [])) hkd
    have s2 : Same H (upd (upd (upd (upd (upd H dx (.own x)) x (.ins A.cM dx [])) x (.ins A.cM dx (flP (Nat.lcm (turn ra) (turn rb)) a b))) kd (.dK [])) x (.ins A.cM dx (flM (Nat.lcm (turn ra) (turn rb)) a b kd))) :=
      ((s1.upd_new hx _).upd_new hk _).upd_new hx _
    have gn : GNew G (fun c => if c = kd then some (.moved ra rb) else G c) H := by
      refine ⟨fun c r h => ?_, fun c h n => ?_⟩
      · have ne : c ≠ kd := fun e => by
          obtain ⟨kvs, z, _⟩ := M c r h
          rw [e, hk] at z
          cases z
        show (if c = kd then _ else G c) = some r
        rw [if_neg ne]
        exact h
      · have ne : c ≠ kd := fun e => h (by rw [e]; exact hk)
        show (if c = kd then _ else G c) = none
        rw [if_neg ne]
        exact n
    refine q x _ _ s2 gn ⟨dx, a, b, kd, upd_same, if_pos rfl, pa.mono gn.1 (.of s2), pb.mono gn.1 (.of s2)⟩ ?_
    intro c r h
    by_cases e : c = kd
    · subst e
      have h : (if c = c then some (Rule.moved ra rb) else G c) = some r := h
      rw [if_pos rfl] at h
      obtain rfl := Option.some.inj h
      refine ⟨[], by rw [upd_ne nxk.symm]; exact upd_same, List.nodup_nil, fun k v z => ?_⟩
      rw [valV_nil] at z
      cases z
    · have h : (if c = kd then some (Rule.moved ra rb) else G c) = some r := h
      rw [if_neg e] at h
      exact M.same s2 c r h
theorem sc_part_of : FnScope ["rule", "kind"] ["rule"] (defScope sPart) := ⟨rfl, rfl, rfl, by decide +kernel, rfl, by decide +kernel, by decide +kernel⟩
theorem none_part {f : Addr} {fd : FuncData} : FnOk P w K mg base CX0 0 f fd ["rule"] (spPart A 0) := by
  have no : ∀ vs H Q E, ¬ spPart A 0 vs H Q E := fun vs H Q E h => by
    obtain ⟨a, r, G, _, _, _, h1, _⟩ := h
    omega
  exact ⟨fun vs H Q E h => absurd h (no vs H Q E), fun Ar outer s H args us vs Q E _ _ _ _ h => absurd h (no vs H Q E)⟩
theorem sub_turn {a b M : Nat} (ha : 0 < a) (hb : 0 < b) (h : Nat.lcm a b ≤ M) : a ≤ M ∧ b ≤ M :=
  ⟨Nat.le_trans (Nat.le_of_dvd (Nat.lcm_pos ha hb) (Nat.dvd_lcm_left a b)) h, Nat.le_trans (Nat.le_of_dvd (Nat.lcm_pos ha hb) (Nat.dvd_lcm_right a b)) h⟩
set_option maxHeartbeats 4000000 in
theorem ok_part {n k : Nat} (D : Df K mg "part_of" sPart ["rule"]) (T : Ptx K mg A) (hk : 6 ≤ k)
    (C_EveryPart : HasC P w K mg base 1 "EveryPart" A.cE ["self", "many", "start"] (spInitE A)) (C_DatePart : HasC P w K mg base 1 "DatePart" A.cD ["self", "date"] (spInitD A)) (C_NthPart : HasC P w K mg base 1 "NthPart" A.cN ["self", "which", "weekday"] (spInitN A))
    (C_pair_of : Has P w K mg base 6 "pair_of" ["kind", "part", "other"] (spPair A)) (C_part_of : Has P w K mg base k "part_of" ["rule"] (spPart A n)) : Has P w K mg base (k + 1) "part_of" ["rule"] (spPart A (n + 1)) := by
  refine D.ok sc_part_of (fun vs H Q E h => ?_) (fun f cdv Ar outer s H vs Q E hr h => ?_)
  · obtain ⟨a, r, G, rfl, _⟩ := h
    rfl
  obtain ⟨a, r, G, rfl, hR, hG, hd, ht, M, q⟩ := h
  refine ⟨_, (pss_cons (ps_set (i := 1) sc_part_of.nd rfl (Or.inl rfl) (pe_ix ix_tup (pv 0) pe_int (fun _ _ => rfl)))
    (pss_cons (ps_if (pt_cmpR op_eq (pv 1) pe_str (nomark _)) (pss_one (ps_ret (pe_new C_EveryPart hr (by omega) (pa_cons (pe_ix ix_tup (pv 0) pe_int (fun _ _ => rfl)) (pa_cons (pe_ix ix_tup (pv 0) pe_int (fun _ _ => rfl)) pa_nil star_s) star_s)))) pss_nil)
    (pss_cons (ps_if (pt_cmpR op_eq (pv 1) pe_str (nomark _)) (pss_one (ps_ret (pe_new C_DatePart hr (by omega) (pa_cons (pe_ix ix_tup (pv 0) pe_int (fun _ _ => rfl)) pa_nil star_s)))) pss_nil)
    (pss_cons (ps_if (pt_cmpR op_eq (pv 1) pe_str (nomark _)) (pss_one (ps_ret (pe_new C_NthPart hr (by omega) (pa_cons (pe_ix ix_tup (pv 0) pe_int (fun _ _ => rfl)) (pa_cons (pe_ix ix_tup (pv 0) pe_int (fun _ _ => rfl)) pa_nil star_s) star_s)))) pss_nil)
    (pss_one (ps_ret (pe_has C_pair_of hr (by omega) (pa_cons (pv 1) (pa_cons (pe_has C_part_of hr (by omega) (pa_cons (pe_ix ix_tup (pv 0) pe_int (fun _ _ => rfl)) pa_nil star_s)) (pa_cons (pe_has C_part_of hr (by omega) (pa_cons (pe_ix ix_tup (pv 0) pe_int (fun _ _ => rfl)) pa_nil star_s)) pa_nil star_k) star_k) star_n)))))))), ?_⟩
  have pair : ∀ (x : Str) (ra rb : Rule) (p1 p2 : Addr), ((x = "both" ∧ r = .both ra rb) ∨ (x = "either" ∧ r = .either ra rb) ∨ (x = "but" ∧ r = .but ra rb) ∨ (x = "moved" ∧ r = .moved ra rb)) → H a = some (.tup [.str x, .ref p1, .ref p2]) → RuleAt H p1 ra → RuleAt H p2 rb → Good ra → Good rb → depth ra < n → depth rb < n → turn ra ≤ 1000000 → turn rb ≤ 1000000 →
      tCal (spPair A) (tCons (tVar 1) (tCons (tCal (spPart A n) (tCons (tOp (rIxT K) (tVar 0) (tC (.int 1))) tNil)) (tCons (tCal (spPart A n) (tCons (tOp (rIxT K) (tVar 0) (tC (.int 2))) tNil)) tNil))) [some (.ref a), some (.str x)] H Q := by
    intro x ra rb p1 p2 hx hr h1 h2 g1 g2 d1 d2 t1 t2
    refine ⟨_, rfl, _, rfl, a, _, _, _, rfl, rfl, SqT.of hr, rfl, p1, ra, G, rfl, h1, g1, d1, t1, M, fun pa G1 H1 s1 n1 P1 M1 => ?_⟩
    refine ⟨_, rfl, a, _, _, _, rfl, rfl, SqT.of (s1 _ _ hr), rfl, p2, rb, G1, rfl, h2.mono (.of s1), g2, d2, t2, M1, fun pb G2 H2 s2 n2 P2 M2 => ?_⟩
    refine ⟨x, pa, pb, ra, rb, r, G2, rfl, hx, g1, g2, t1, t2, P1.mono n2.1 (.of s2), P2, M2, fun p G3 H3 s3 n3 P3 M3 => ?_⟩
    exact q p G3 H3 (s1.trans (s2.trans s3)) (n1.trans s1 (n2.trans s2 n3)) P3 M3
  cases r with
  | every m st =>
    have hR : H a = some (.tup [.str "every", .int m, .int st]) := hR
    refine ⟨_, rfl, a, _, _, _, rfl, rfl, SqT.of hR, rfl, ?_⟩
    refine ⟨_, rfl, rfl, _, rfl, iteP (by decide +kernel) ⟨_, rfl, a, _, _, _, rfl, rfl, SqT.of hR, rfl, _, rfl, a, _, _, _, rfl, rfl, SqT.of hR, rfl, fun x dx hx hd hne => ?_⟩⟩
    have s2 := (same_obj (o := .ins A.cE dx []) hx hd).upd_new hx (.ins A.cE dx (flE m st))
    exact ⟨x, dx, m, st, rfl, upd_same, hG, rfl, q x G _ s2 (GNew.refl G H) ⟨dx, upd_same⟩ (M.same s2)⟩
  | date d =>
    have hR : H a = some (.tup [.str "date", .int d]) := hR
    refine ⟨_, rfl, a, _, _, _, rfl, rfl, SqT.of hR, rfl, ?_⟩
    refine ⟨_, rfl, rfl, _, rfl, iteN (by decide +kernel) ⟨_, rfl, rfl, _, rfl, iteP (by decide +kernel) ⟨_, rfl, a, _, _, _, rfl, rfl, SqT.of hR, rfl, fun x dx hx hd hne => ?_⟩⟩⟩
    have s2 := (same_obj (o := .ins A.cD dx []) hx hd).upd_new hx (.ins A.cD dx (flD d))
    exact ⟨x, dx, d, rfl, upd_same, hG, rfl, q x G _ s2 (GNew.refl G H) ⟨dx, upd_same⟩ (M.same s2)⟩
  | nth z y =>
    have hR : H a = some (.tup [.str "nth", .int z, .int y]) := hR
    refine ⟨_, rfl, a, _, _, _, rfl, rfl, SqT.of hR, rfl, ?_⟩
    refine ⟨_, rfl, rfl, _, rfl, iteN (by decide +kernel) ⟨_, rfl, rfl, _, rfl, iteN (by decide +kernel) ⟨_, rfl, rfl, _, rfl, iteP (by decide +kernel) ⟨_, rfl, a, _, _, _, rfl, rfl, SqT.of hR, rfl, _, rfl, a, _, _, _, rfl, rfl, SqT.of hR, rfl, fun x dx hx hd hne => ?_⟩⟩⟩⟩
    have s2 := (same_obj (o := .ins A.cN dx []) hx hd).upd_new hx (.ins A.cN dx (flN z y))
    exact ⟨x, dx, z, y, rfl, upd_same, hG, rfl, q x G _ s2 (GNew.refl G H) ⟨dx, upd_same⟩ (M.same s2)⟩
  | both x y =>
    obtain ⟨p1, p2, hR, h1, h2⟩ := hR
    have hd : max (depth x) (depth y) + 1 < n + 1 := hd
    have ht := sub_turn (turn_pos hG.1) (turn_pos hG.2) ht
    refine ⟨_, rfl, a, _, _, _, rfl, rfl, SqT.of hR, rfl, ?_⟩
    refine ⟨_, rfl, rfl, _, rfl, iteN (by decide +kernel) ⟨_, rfl, rfl, _, rfl, iteN (by decide +kernel) ⟨_, rfl, rfl, _, rfl, iteN (by decide +kernel) ?_⟩⟩⟩
    exact pair "both" x y p1 p2 (.inl ⟨rfl, rfl⟩) hR h1 h2 hG.1 hG.2 (by omega) (by omega) ht.1 ht.2
  | either x y =>
    obtain ⟨p1, p2, hR, h1, h2⟩ := hR
    have hd : max (depth x) (depth y) + 1 < n + 1 := hd
    have ht := sub_turn (turn_pos hG.1) (turn_pos hG.2) ht
    refine ⟨_, rfl, a, _, _, _, rfl, rfl, SqT.of hR, rfl, ?_⟩
    refine ⟨_, rfl, rfl, _, rfl, iteN (by decide +kernel) ⟨_, rfl, rfl, _, rfl, iteN (by decide +kernel) ⟨_, rfl, rfl, _, rfl, iteN (by decide +kernel) ?_⟩⟩⟩
    exact pair "either" x y p1 p2 (.inr (.inl ⟨rfl, rfl⟩)) hR h1 h2 hG.1 hG.2 (by omega) (by omega) ht.1 ht.2
  | but x y =>
    obtain ⟨p1, p2, hR, h1, h2⟩ := hR
    have hd : max (depth x) (depth y) + 1 < n + 1 := hd
    have ht := sub_turn (turn_pos hG.1) (turn_pos hG.2) ht
    refine ⟨_, rfl, a, _, _, _, rfl, rfl, SqT.of hR, rfl, ?_⟩
    refine ⟨_, rfl, rfl, _, rfl, iteN (by decide +kernel) ⟨_, rfl, rfl, _, rfl, iteN (by decide +kernel) ⟨_, rfl, rfl, _, rfl, iteN (by decide +kernel) ?_⟩⟩⟩
    exact pair "but" x y p1 p2 (.inr (.inr (.inl ⟨rfl, rfl⟩))) hR h1 h2 hG.1 hG.2 (by omega) (by omega) ht.1 ht.2
  | moved x y =>
    obtain ⟨p1, p2, hR, h1, h2⟩ := hR
    have hd : max (depth x) (depth y) + 1 < n + 1 := hd
    have ht := sub_turn (turn_pos hG.1) (turn_pos hG.2) ht
    refine ⟨_, rfl, a, _, _, _, rfl, rfl, SqT.of hR, rfl, ?_⟩
    refine ⟨_, rfl, rfl, _, rfl, iteN (by decide +kernel) ⟨_, rfl, rfl, _, rfl, iteN (by decide +kernel) ⟨_, rfl, rfl, _, rfl, iteN (by decide +kernel) ?_⟩⟩⟩
    exact pair "moved" x y p1 p2 (.inr (.inr (.inr ⟨rfl, rfl⟩))) hR h1 h2 hG.1 hG.2 (by omega) (by omega) ht.1 ht.2
theorem all_part (D : Df K mg "part_of" sPart ["rule"]) (T : Ptx K mg A)
    (C_EveryPart : HasC P w K mg base 1 "EveryPart" A.cE ["self", "many", "start"] (spInitE A)) (C_DatePart : HasC P w K mg base 1 "DatePart" A.cD ["self", "date"] (spInitD A)) (C_NthPart : HasC P w K mg base 1 "NthPart" A.cN ["self", "which", "weekday"] (spInitN A))
    (C_pair_of : Has P w K mg base 6 "pair_of" ["kind", "part", "other"] (spPair A)) : ∀ n : Nat, Has P w K mg base (n + 6) "part_of" ["rule"] (spPart A n)
  | 0 => by
    obtain ⟨f, fd, F, b, m⟩ := D
    exact ⟨f, fd, none_part.mono (Nat.zero_le _), b, F.kp, m⟩
  | n + 1 => ok_part D T (by omega) C_EveryPart C_DatePart C_NthPart C_pair_of (all_part D T C_EveryPart C_DatePart C_NthPart C_pair_of n)
end
end Lw
set_option Elab.async false
set_option linter.all false
set_option maxRecDepth 100000
namespace Lw
open PySem L2 L3 Fd
open PyProof.Rows (OwnCls)
open PySem.F (excBase_ValueError)
seal L2.PSs L2.PS L2.PE L2.PT L2.PW L2.PA L2.PG L2.PGs L2.PI L2.PC
structure RTx (K : PySem.W.Frag) (mg : Str → Option Value) (base : Heap) (A : Adr) (Ra : Addr) : Prop extends Ptx K mg A where
  o_NoRule : OwnCls "NoRule" Ra [.type "ValueError", .type "Exception", .type "BaseException", .type "object"] "ValueError.__new__" mg base
def spInitEX (Ra : Addr) : Sp := fun vs H _ E => ∃ (p : Addr) (m st : Int), vs = [.ref p, .int m, .int st] ∧ ¬ (1 ≤ m ∧ m ≤ 60) ∧ E (.ref Ra) none H
def spInitDX (Ra : Addr) : Sp := fun vs H _ E => ∃ (p : Addr) (d : Int), vs = [.ref p, .int d] ∧ ¬ ((1 ≤ d ∧ d ≤ 37) ∨ (-37 ≤ d ∧ d ≤ -1)) ∧ E (.ref Ra) none H
def spInitNX (Ra : Addr) : Sp := fun vs H _ E => ∃ (p : Addr) (x k : Int), vs = [.ref p, .int x, .int k] ∧ ¬ (((1 ≤ x ∧ x ≤ 5) ∨ (-5 ≤ x ∧ x ≤ -1)) ∧ 0 ≤ k ∧ k < 9) ∧ E (.ref Ra) none H
section
variable {P : Program} {w : World} {K : PySem.W.Frag} {mg : Str → Option Value} {base : Heap} {A : Adr} {Ra : Addr}
theorem ok_initEX (D : In K A.cE "EveryPart.__init__" sEveryI ["self", "many", "start"]) (T : RTx K mg base A Ra) : HasCX P w K mg base 1 "EveryPart" A.cE ["self", "many", "start"] (spInitEX Ra) := by
  obtain ⟨f, fd, F, b, M⟩ := D
  refine ⟨T.mE, f, fd, M, Fun.okX F sc_EveryPartinit (fun vs H Q E h => ?_) (fun cdv Ar outer s H vs Q E hr h => ?_), b⟩
  · obtain ⟨p, m, st, rfl, _⟩ := h
    rfl
  obtain ⟨p, m, st, rfl, hm, q⟩ := h
  refine ⟨_, (pss_cons (ps_if (pt_not (pt_chain op_le op_le pe_int (pv 1) (pe_gint rfl T.g_MOST_DAYS))) (pss_one (ps_raise T.o_NoRule excBase_ValueError rfl (pa_cons pe_str pa_nil star_c) (fun _ _ _ _ _ _ _ I hm q => xe_raise I hm q))) pss_nil) pss_never), ?_⟩
  refine ⟨_, rfl, _, _, rfl, rfl, _, rfl, ?_⟩
  by_cases h1 : 1 ≤ m
  · refine iteP (decide_eq_true h1) ⟨_, _, rfl, rfl, _, rfl, iteP (by rw [decide_eq_false (by omega)]; rfl) ?_⟩
    exact ⟨(by show 1 ≤ sizeLine; decide), q⟩
  · exact iteN (decide_eq_false h1) ⟨_, rfl, iteT ⟨(by show 1 ≤ sizeLine; decide), q⟩⟩
theorem ok_initDX (D : In K A.cD "DatePart.__init__" sDateI ["self", "date"]) (T : RTx K mg base A Ra) : HasCX P w K mg base 1 "DatePart" A.cD ["self", "date"] (spInitDX Ra) := by
  obtain ⟨f, fd, F, b, M⟩ := D
  refine ⟨T.mD, f, fd, M, Fun.okX F sc_DatePartinit (fun vs H Q E h => ?_) (fun cdv Ar outer s H vs Q E hr h => ?_), b⟩
  · obtain ⟨p, d, rfl, _⟩ := h
    rfl
  obtain ⟨p, d, rfl, hm, q⟩ := h
  refine ⟨_, (pss_cons (ps_if (pt_not (pt_chain op_le op_le pe_int (pe_callB call_abs rfl T.z_abs b_abs (pa_cons (pv 1) pa_nil star_n)) (pe_gint rfl T.g_ODD_MONTH))) (pss_one (ps_raise T.o_NoRule excBase_ValueError rfl (pa_cons pe_str pa_nil star_c) (fun _ _ _ _ _ _ _ I hm q => xe_raise I hm q))) pss_nil) pss_never), ?_⟩
  refine ⟨_, rfl, d, rfl, _, _, rfl, rfl, _, rfl, ?_⟩
  by_cases h1 : (1 : Int) ≤ (if d < 0 then -d else d)
  · refine iteP (decide_eq_true h1) ⟨_, _, rfl, rfl, _, rfl, iteP (by rw [decide_eq_false (by split at h1 <;> split <;> omega)]; rfl) ?_⟩
    exact ⟨(by show 1 ≤ sizeLine; decide), q⟩
  · exact iteN (decide_eq_false h1) ⟨_, rfl, iteT ⟨(by show 1 ≤ sizeLine; decide), q⟩⟩
theorem ok_initNX (D : In K A.cN "NthPart.__init__" sNthI ["self", "which", "weekday"]) (T : RTx K mg base A Ra) : HasCX P w K mg base 1 "NthPart" A.cN ["self", "which", "weekday"] (spInitNX Ra) := by
  obtain ⟨f, fd, F, b, M⟩ := D
  refine ⟨T.mN, f, fd, M, Fun.okX F sc_NthPartinit (fun vs H Q E h => ?_) (fun cdv Ar outer s H vs Q E hr h => ?_), b⟩
  · obtain ⟨p, x, k, rfl, _⟩ := h
    rfl
  obtain ⟨p, x, k, rfl, hm, q⟩ := h
  refine ⟨_, (pss_cons (ps_if (pt_not (pt_chain op_le op_le pe_int (pe_callB call_abs rfl T.z_abs b_abs (pa_cons (pv 1) pa_nil star_n)) (pe_gint rfl T.g_MOST_WHICH))) (pss_one (ps_raise T.o_NoRule excBase_ValueError rfl (pa_cons pe_str pa_nil star_c) (fun _ _ _ _ _ _ _ I hm q => xe_raise I hm q))) pss_nil)
    (pss_cons (ps_if (pt_not (pt_chain op_le op_lt pe_int (pv 2) (pe_gint rfl T.g_WEEKDAYS))) (pss_one (ps_raise T.o_NoRule excBase_ValueError rfl (pa_cons pe_str pa_nil star_c) (fun _ _ _ _ _ _ _ I hm q => xe_raise I hm q))) pss_nil) pss_never)), ?_⟩
  have fin : (1 : Nat) ≤ sizeLine ∧ E (.ref Ra) none H := ⟨by decide, q⟩
  refine ⟨_, rfl, x, rfl, _, _, rfl, rfl, _, rfl, ?_⟩
  by_cases h1 : (1 : Int) ≤ (if x < 0 then -x else x)
  · refine iteP (decide_eq_true h1) ⟨_, _, rfl, rfl, _, rfl, ?_⟩
    by_cases h2 : (if x < 0 then -x else x) ≤ (5 : Int)
    · refine iteN (by rw [decide_eq_true h2]; rfl) ?_
      have hk : ¬ (0 ≤ k ∧ k < 9) := fun hk => hm ⟨by split at h1 <;> split at h2 <;> omega, hk⟩
      refine ⟨_, rfl, _, _, rfl, rfl, _, rfl, ?_⟩
      by_cases h3 : 0 ≤ k
      · refine iteP (decide_eq_true h3) ⟨_, _, rfl, rfl, _, rfl, iteP (by rw [decide_eq_false (by omega)]; rfl) fin⟩
      · exact iteN (decide_eq_false h3) ⟨_, rfl, iteT fin⟩
    · exact iteP (by rw [decide_eq_false h2]; rfl) fin
  · exact iteN (decide_eq_false h1) ⟨_, rfl, iteT fin⟩
def Tn : Rule → Prop
  | .both x y => Tn x ∧ Tn y ∧ (Good x → turn x ≤ 1000000) ∧ (Good y → turn y ≤ 1000000)
  | .either x y => Tn x ∧ Tn y ∧ (Good x → turn x ≤ 1000000) ∧ (Good y → turn y ≤ 1000000)
  | .but x y => Tn x ∧ Tn y ∧ (Good x → turn x ≤ 1000000) ∧ (Good y → turn y ≤ 1000000)
  | .moved x y => Tn x ∧ Tn y ∧ (Good x → turn x ≤ 1000000) ∧ (Good y → turn y ≤ 1000000)
  | _ => True
def spPartX (n : Nat) (Ra : Addr) : Sp := fun vs H _ E => ∃ (a : Addr) (r : Rule), vs = [.ref a] ∧ RuleAt H a r ∧ ¬ Good r ∧ Tn r ∧ depth r < n ∧ ∀ H', Same H H' → E (.ref Ra) none H'
theorem same_make {H : Hp} {x dx C : Addr} (hx : H x = none) (hd : H dx = none) : Same H (upd (upd H dx (.own x)) x (.ins C dx [])) := (same_new hd _).upd_new hx _
theorem ok_partX {n k : Nat} (hk : 6 ≤ k) (D : Df K mg "part_of" sPart ["rule"]) (T : RTx K mg base A Ra) (C_EveryPart : HasCX P w K mg base 1 "EveryPart" A.cE ["self", "many", "start"] (spInitEX Ra)) (C_DatePart : HasCX P w K mg base 1 "DatePart" A.cD ["self", "date"] (spInitDX Ra)) (C_NthPart : HasCX P w K mg base 1 "NthPart" A.cN ["self", "which", "weekday"] (spInitNX Ra))
    (C_pair_of : Has P w K mg base 6 "pair_of" ["kind", "part", "other"] (spPair A)) (C_good : Has P w K mg base k "part_of" ["rule"] (spPart A n)) (C_bad : HasX P w K mg base k "part_of" ["rule"] (spPartX n Ra)) : HasX P w K mg base (k + 1) "part_of" ["rule"] (spPartX (n + 1) Ra) := by
  refine Df.okX D sc_part_of (fun vs H Q E h => ?_) (fun f cdv Ar outer s H vs Q E hr h => ?_)
  · obtain ⟨a, r, rfl, _⟩ := h
    rfl
  obtain ⟨a, r, rfl, hR, hG, hT, hd, q⟩ := h
  have pair : ∀ (kd : Str) (x y : Rule) (p p2 : Addr), H a = some (.tup [.str kd, .ref p, .ref p2]) → RuleAt H p x → RuleAt H p2 y → (¬ Good x ∨ (Good x ∧ ¬ Good y)) → Tn x → Tn y → (Good x → turn x ≤ 1000000) → depth x < n → depth y < n →
      decide (V.str kd = V.str "every") = false → decide (V.str kd = V.str "date") = false → decide (V.str kd = V.str "nth") = false →
      ∃ t, PSs (cxOf (CXe P w) P w K mg base ["rule", "kind"] "part_of" (defScope sPart) f cdv Ar outer s H E) (defBody sPart) t ∧ t { nx := fun _ H' => Q .non H', rt := Q } (start ["rule", "kind"] [.ref a]) H := by
    intro kd x y p p2 hT2 hx hy bad tx ty gx dx dy n1 n2 n3
    rcases bad with bx | ⟨gx', by'⟩
    · refine ⟨_, (pss_cons (ps_set (i := 1) sc_part_of.nd rfl (Or.inl rfl) (pe_ix ix_tup (pv 0) pe_int (fun _ _ => rfl)))
        (pss_cons (ps_if (pt_cmpR op_eq (pv 1) pe_str (nomark _)) pss_never pss_nil)
        (pss_cons (ps_if (pt_cmpR op_eq (pv 1) pe_str (nomark _)) pss_never pss_nil)
        (pss_cons (ps_if (pt_cmpR op_eq (pv 1) pe_str (nomark _)) pss_never pss_nil)
        (pss_one (ps_ret (pe_has C_pair_of hr (by omega) (pa_cons (pv 1) (pa_cons (pe_hasX C_bad hr (by omega) pass_e (pa_cons (pe_ix ix_tup (pv 0) pe_int (fun _ _ => rfl)) pa_nil star_s)) (pa_cons (pe_hasX C_bad hr (by omega) pass_e (pa_cons (pe_ix ix_tup (pv 0) pe_int (fun _ _ => rfl)) pa_nil star_s)) pa_nil star_k) star_k) star_n)))))))), ?_⟩
      refine ⟨_, rfl, a, _, _, _, rfl, rfl, SqT.of hT2, rfl, _, rfl, rfl, _, rfl, iteN n1 ⟨_, rfl, rfl, _, rfl, iteN n2 ⟨_, rfl, rfl, _, rfl, iteN n3 ?_⟩⟩⟩
      exact ⟨_, rfl, _, rfl, a, _, _, _, rfl, rfl, SqT.of hT2, rfl, p, x, rfl, hx, bx, tx, dx, q⟩
    · refine ⟨_, (pss_cons (ps_set (i := 1) sc_part_of.nd rfl (Or.inl rfl) (pe_ix ix_tup (pv 0) pe_int (fun _ _ => rfl)))
        (pss_cons (ps_if (pt_cmpR op_eq (pv 1) pe_str (nomark _)) pss_never pss_nil)
        (pss_cons (ps_if (pt_cmpR op_eq (pv 1) pe_str (nomark _)) pss_never pss_nil)
        (pss_cons (ps_if (pt_cmpR op_eq (pv 1) pe_str (nomark _)) pss_never pss_nil)
        (pss_one (ps_ret (pe_has C_pair_of hr (by omega) (pa_cons (pv 1) (pa_cons (pe_has C_good hr (by omega) (pa_cons (pe_ix ix_tup (pv 0) pe_int (fun _ _ => rfl)) pa_nil star_s)) (pa_cons (pe_hasX C_bad hr (by omega) pass_e (pa_cons (pe_ix ix_tup (pv 0) pe_int (fun _ _ => rfl)) pa_nil star_s)) pa_nil star_k) star_k) star_n)))))))), ?_⟩
      refine ⟨_, rfl, a, _, _, _, rfl, rfl, SqT.of hT2, rfl, _, rfl, rfl, _, rfl, iteN n1 ⟨_, rfl, rfl, _, rfl, iteN n2 ⟨_, rfl, rfl, _, rfl, iteN n3 ?_⟩⟩⟩
      refine ⟨_, rfl, _, rfl, a, _, _, _, rfl, rfl, SqT.of hT2, rfl, p, x, fun _ => none, rfl, hx, gx', dx, gx gx', (fun b r h => by cases h), fun pp G' H1 s1 gn P1 M1 => ?_⟩
      exact ⟨_, rfl, a, _, _, _, rfl, rfl, SqT.of (s1 _ _ hT2), rfl, p2, y, rfl, hy.mono (.of s1), by', ty, dy, fun H2 s2 => q H2 (s1.trans s2)⟩
  have or_of : ∀ {x y : Rule}, ¬ (Good x ∧ Good y) → ¬ Good x ∨ (Good x ∧ ¬ Good y) := fun {x y} h => by
    by_cases hx : Good x
    · exact .inr ⟨hx, fun hy => h ⟨hx, hy⟩⟩
    · exact .inl hx
  cases r with
  | every m st =>
    have hR : H a = some (.tup [.str "every", .int m, .int st]) := hR
    refine ⟨_, (pss_cons (ps_set (i := 1) sc_part_of.nd rfl (Or.inl rfl) (pe_ix ix_tup (pv 0) pe_int (fun _ _ => rfl)))
      (pss_cons (ps_if (pt_cmpR op_eq (pv 1) pe_str (nomark _)) (pss_one (ps_ret (pe_newX C_EveryPart hr (by omega) pass_e (pa_cons (pe_ix ix_tup (pv 0) pe_int (fun _ _ => rfl)) (pa_cons (pe_ix ix_tup (pv 0) pe_int (fun _ _ => rfl)) pa_nil star_s) star_s)))) pss_nil) pss_never)), ?_⟩
    refine ⟨_, rfl, a, _, _, _, rfl, rfl, SqT.of hR, rfl, _, rfl, rfl, _, rfl, iteP (by decide +kernel) ?_⟩
    exact ⟨_, rfl, a, _, _, _, rfl, rfl, SqT.of hR, rfl, _, rfl, a, _, _, _, rfl, rfl, SqT.of hR, rfl, fun x dx hx hdx ne => ⟨x, m, st, rfl, hG, q _ (same_make hx hdx)⟩⟩
  | date d =>
    have hR : H a = some (.tup [.str "date", .int d]) := hR
    refine ⟨_, (pss_cons (ps_set (i := 1) sc_part_of.nd rfl (Or.inl rfl) (pe_ix ix_tup (pv 0) pe_int (fun _ _ => rfl)))
      (pss_cons (ps_if (pt_cmpR op_eq (pv 1) pe_str (nomark _)) pss_never pss_nil)
      (pss_cons (ps_if (pt_cmpR op_eq (pv 1) pe_str (nomark _)) (pss_one (ps_ret (pe_newX C_DatePart hr (by omega) pass_e (pa_cons (pe_ix ix_tup (pv 0) pe_int (fun _ _ => rfl)) pa_nil star_s)))) pss_nil) pss_never))), ?_⟩
    refine ⟨_, rfl, a, _, _, _, rfl, rfl, SqT.of hR, rfl, _, rfl, rfl, _, rfl, iteN (by decide +kernel) ⟨_, rfl, rfl, _, rfl, iteP (by decide +kernel) ?_⟩⟩
    exact ⟨_, rfl, a, _, _, _, rfl, rfl, SqT.of hR, rfl, fun x dx hx hdx ne => ⟨x, d, rfl, hG, q _ (same_make hx hdx)⟩⟩
  | nth x k =>
    have hR : H a = some (.tup [.str "nth", .int x, .int k]) := hR
    refine ⟨_, (pss_cons (ps_set (i := 1) sc_part_of.nd rfl (Or.inl rfl) (pe_ix ix_tup (pv 0) pe_int (fun _ _ => rfl)))
      (pss_cons (ps_if (pt_cmpR op_eq (pv 1) pe_str (nomark _)) pss_never pss_nil)
      (pss_cons (ps_if (pt_cmpR op_eq (pv 1) pe_str (nomark _)) pss_never pss_nil)
      (pss_cons (ps_if (pt_cmpR op_eq (pv 1) pe_str (nomark _)) (pss_one (ps_ret (pe_newX C_NthPart hr (by omega) pass_e (pa_cons (pe_ix ix_tup (pv 0) pe_int (fun _ _ => rfl)) (pa_cons (pe_ix ix_tup (pv 0) pe_int (fun _ _ => rfl)) pa_nil star_s) star_s)))) pss_nil) pss_never)))), ?_⟩
    refine ⟨_, rfl, a, _, _, _, rfl, rfl, SqT.of hR, rfl, _, rfl, rfl, _, rfl, iteN (by decide +kernel) ⟨_, rfl, rfl, _, rfl, iteN (by decide +kernel) ⟨_, rfl, rfl, _, rfl, iteP (by decide +kernel) ?_⟩⟩⟩
    exact ⟨_, rfl, a, _, _, _, rfl, rfl, SqT.of hR, rfl, _, rfl, a, _, _, _, rfl, rfl, SqT.of hR, rfl, fun y dx hx hdx ne => ⟨y, x, k, rfl, hG, q _ (same_make hx hdx)⟩⟩
  | both x y =>
    obtain ⟨p, p2, h0, h1, h2⟩ := hR
    have hd : max (depth x) (depth y) + 1 < n + 1 := hd
    exact pair "both" x y p p2 h0 h1 h2 (or_of hG) hT.1 hT.2.1 hT.2.2.1 (by omega) (by omega) (by decide +kernel) (by decide +kernel) (by decide +kernel)
  | either x y =>
    obtain ⟨p, p2, h0, h1, h2⟩ := hR
    have hd : max (depth x) (depth y) + 1 < n + 1 := hd
    exact pair "either" x y p p2 h0 h1 h2 (or_of hG) hT.1 hT.2.1 hT.2.2.1 (by omega) (by omega) (by decide +kernel) (by decide +kernel) (by decide +kernel)
  | but x y =>
    obtain ⟨p, p2, h0, h1, h2⟩ := hR
    have hd : max (depth x) (depth y) + 1 < n + 1 := hd
    exact pair "but" x y p p2 h0 h1 h2 (or_of hG) hT.1 hT.2.1 hT.2.2.1 (by omega) (by omega) (by decide +kernel) (by decide +kernel) (by decide +kernel)
  | moved x y =>
    obtain ⟨p, p2, h0, h1, h2⟩ := hR
    have hd : max (depth x) (depth y) + 1 < n + 1 := hd
    exact pair "moved" x y p p2 h0 h1 h2 (or_of hG) hT.1 hT.2.1 hT.2.2.1 (by omega) (by omega) (by decide +kernel) (by decide +kernel) (by decide +kernel)
theorem all_partX (D : Df K mg "part_of" sPart ["rule"]) (T : RTx K mg base A Ra) (C_EveryPart : HasCX P w K mg base 1 "EveryPart" A.cE ["self", "many", "start"] (spInitEX Ra)) (C_DatePart : HasCX P w K mg base 1 "DatePart" A.cD ["self", "date"] (spInitDX Ra)) (C_NthPart : HasCX P w K mg base 1 "NthPart" A.cN ["self", "which", "weekday"] (spInitNX Ra))
    (C_pair_of : Has P w K mg base 6 "pair_of" ["kind", "part", "other"] (spPair A)) (good : ∀ n, Has P w K mg base (n + 6) "part_of" ["rule"] (spPart A n)) : ∀ n : Nat, HasX P w K mg base (n + 6) "part_of" ["rule"] (spPartX n Ra)
  | 0 => by
    obtain ⟨f, fd, F, b, m⟩ := D
    have no : ∀ vs H Q E, ¬ spPartX 0 Ra vs H Q E := fun vs H Q E h => by
      obtain ⟨a, r, _, _, _, _, h1, _⟩ := h
      omega
    exact ⟨f, fd, ⟨fun vs H Q E h => absurd h (no vs H Q E), fun A outer s H args us vs Q E _ _ _ _ h => absurd h (no vs H Q E)⟩, b, F.kp, m⟩
  | n + 1 => ok_partX (by omega) D T C_EveryPart C_DatePart C_NthPart C_pair_of (good n) (all_partX D T C_EveryPart C_DatePart C_NthPart C_pair_of good n)
end
end Lw
set_option Elab.async false
set_option linter.all false
set_option maxRecDepth 100000
namespace Lw
open PySem L2 L3 Fd
seal L2.PSs L2.PS L2.PE L2.PT L2.PW L2.PA L2.PG L2.PGs L2.PI L2.PC
def Keep (G : Addr → Option Rule) (H H' : Hp) : Prop := ∀ b o, H b = some o → G b = none → H' b = some o
theorem Keep.refl (G : Addr → Option Rule) (H : Hp) : Keep G H H := fun _ _ h _ => h
theorem Keep.trans {G : Addr → Option Rule} {H H1 H2 : Hp} (a : Keep G H H1) (b : Keep G H1 H2) : Keep G H H2 := fun c o h g => b c o (a c o h g) g
theorem Keep.of {G : Addr → Option Rule} {H H' : Hp} (s : Same H H') : Keep G H H' := fun b o h _ => s b o h
theorem Memo.free {G : Addr → Option Rule} {H : Hp} (M : Memo G H) {b C dx : Addr} {fs : List (Str × V)} (h : H b = some (.ins C dx fs)) : G b = none := by
  cases e : G b with
  | none => rfl
  | some r =>
    obtain ⟨kvs, z, _⟩ := M b r e
    rw [h] at z
    cases z
theorem Keep.ins {G : Addr → Option Rule} {H H' : Hp} (k : Keep G H H') (M : Memo G H) : InsKeep H H' := fun b C dx fs h => k b _ h (M.free h)
theorem PartAt.keep {A : Adr} {G : Addr → Option Rule} {H H' : Hp} {p : Addr} {r : Rule} (h : PartAt A G H p r) (k : Keep G H H') (M : Memo G H) : PartAt A G H' p r := h.mono (fun _ _ z => z) (k.ins M)
theorem flE_start (m s : Int) : (flE m s).lookup ("start" : Str) = some (.int s) := by
  unfold flE
  rw [lookup_putF, if_pos rfl]
theorem flE_has (m s : Int) : (flE m s).lookup ("has" : Str) = none := by
  unfold flE
  rw [lookup_putF, if_neg (by decide +kernel), lookup_putF, if_neg (by decide +kernel)]
  rfl
theorem flD_date (d : Int) : (flD d).lookup ("date" : Str) = some (.int d) := by
  unfold flD
  rw [lookup_putF, if_pos rfl]
theorem flD_has (d : Int) : (flD d).lookup ("has" : Str) = none := by
  unfold flD
  rw [lookup_putF, if_neg (by decide +kernel), lookup_putF, if_neg (by decide +kernel)]
  rfl
theorem flN_which (x k : Int) : (flN x k).lookup ("which" : Str) = some (.int x) := by
  unfold flN
  rw [lookup_putF, if_neg (by decide +kernel), lookup_putF, if_pos rfl]
theorem flN_weekday (x k : Int) : (flN x k).lookup ("weekday" : Str) = some (.int k) := by
  unfold flN
  rw [lookup_putF, if_pos rfl]
theorem flN_has (x k : Int) : (flN x k).lookup ("has" : Str) = none := by
  unfold flN
  rw [lookup_putF, if_neg (by decide +kernel), lookup_putF, if_neg (by decide +kernel), lookup_putF, if_neg (by decide +kernel)]
  rfl
theorem flP_part (t : Nat) (a b : Addr) : (flP t a b).lookup ("part" : Str) = some (.ref a) := by
  unfold flP
  rw [lookup_putF, if_neg (by decide +kernel), lookup_putF, if_pos rfl]
theorem flP_other (t : Nat) (a b : Addr) : (flP t a b).lookup ("other" : Str) = some (.ref b) := by
  unfold flP
  rw [lookup_putF, if_pos rfl]
theorem flP_no (t : Nat) (a b : Addr) {m : Str} (h1 : ¬ m = "other") (h2 : ¬ m = "part") (h3 : ¬ m = "turn") : (flP t a b).lookup m = none := by
  unfold flP
  rw [lookup_putF, if_neg h1, lookup_putF, if_neg h2, lookup_putF, if_neg h3]
  rfl
theorem flP_has (t : Nat) (a b : Addr) : (flP t a b).lookup ("has" : Str) = none := flP_no t a b (by decide +kernel) (by decide +kernel) (by decide +kernel)
theorem flM_part (t : Nat) (a b kd : Addr) : (flM t a b kd).lookup ("part" : Str) = some (.ref a) := by
  unfold flM
  rw [lookup_putF, if_neg (by decide +kernel), flP_part]
theorem flM_other (t : Nat) (a b kd : Addr) : (flM t a b kd).lookup ("other" : Str) = some (.ref b) := by
  unfold flM
  rw [lookup_putF, if_neg (by decide +kernel), flP_other]
theorem flM_known (t : Nat) (a b kd : Addr) : (flM t a b kd).lookup ("known" : Str) = some (.ref kd) := by
  unfold flM
  rw [lookup_putF, if_pos rfl]
theorem flM_has (t : Nat) (a b kd : Addr) : (flM t a b kd).lookup ("has" : Str) = none := by
  unfold flM
  rw [lookup_putF, if_neg (by decide +kernel), flP_has]
theorem flM_reach (t : Nat) (a b kd : Addr) : (flM t a b kd).lookup ("is_reached" : Str) = none := by
  unfold flM
  rw [lookup_putF, if_neg (by decide +kernel), flP_no t a b (by decide +kernel) (by decide +kernel) (by decide +kernel)]
inductive Kd where
  | e | d | n | b | i | u | m
def Kd.cls (A : Adr) : Kd → Addr
  | .e => A.cE
  | .d => A.cD
  | .n => A.cN
  | .b => A.cB
  | .i => A.cI
  | .u => A.cU
  | .m => A.cM
def kd : Rule → Kd
  | .every _ _ => .e
  | .date _ => .d
  | .nth _ _ => .n
  | .both _ _ => .b
  | .either _ _ => .i
  | .but _ _ => .u
  | .moved _ _ => .m
theorem PartAt.obj {A : Adr} {G : Addr → Option Rule} {H : Hp} : ∀ {r : Rule} {p : Addr}, PartAt A G H p r → ∃ dx fs, H p = some (.ins (Kd.cls A (kd r)) dx fs) ∧ fs.lookup ("has" : Str) = none
  | .every _ _, p, ⟨dx, h⟩ => ⟨dx, _, h, flE_has _ _⟩
  | .date _, p, ⟨dx, h⟩ => ⟨dx, _, h, flD_has _⟩
  | .nth _ _, p, ⟨dx, h⟩ => ⟨dx, _, h, flN_has _ _⟩
  | .both _ _, p, ⟨dx, a, b, h, _, _⟩ => ⟨dx, _, h, flP_has _ _ _⟩
  | .either _ _, p, ⟨dx, a, b, h, _, _⟩ => ⟨dx, _, h, flP_has _ _ _⟩
  | .but _ _, p, ⟨dx, a, b, h, _, _⟩ => ⟨dx, _, h, flP_has _ _ _⟩
  | .moved _ _, p, ⟨dx, a, b, _, h, _, _, _⟩ => ⟨dx, _, h, flM_has _ _ _ _⟩
theorem few_keys : ∀ (T : Nat) (kvs : List (Key × V)), (kvs.map (·.1)).Nodup → (∀ p ∈ kvs, ∃ i : Int, p.1 = Sum.inl i ∧ 0 ≤ i ∧ i < T) → kvs.length ≤ T
  | 0, kvs, _, h => by
    cases kvs with
    | nil => exact Nat.le_refl _
    | cons p l =>
      obtain ⟨i, _, h1, h2⟩ := h p (by simp)
      omega
  | T + 1, kvs, hn, h => by
    by_cases m : (Sum.inl (T : Int) : Key) ∈ kvs.map (·.1)
    · have e := dropK_len hn m
      have q := few_keys T (dropK kvs (Sum.inl (T : Int))) (nd_dropK hn) fun p hp => by
        obtain ⟨m1, m2⟩ := List.mem_filter.mp hp
        obtain ⟨i, e1, h1, h2⟩ := h p m1
        refine ⟨i, e1, h1, ?_⟩
        have ne : i ≠ (T : Int) := fun z => of_decide_eq_true m2 (by rw [e1, z])
        omega
      omega
    · have q := few_keys T kvs hn fun p hp => by
        obtain ⟨i, e1, h1, h2⟩ := h p hp
        refine ⟨i, e1, h1, ?_⟩
        have ne : i ≠ (T : Int) := fun z => m (by rw [← z, ← e1]; exact List.mem_map.mpr ⟨p, hp, rfl⟩)
        omega
      omega
theorem MemoOk.few {kvs : List (Key × V)} {r : Rule} (M : MemoOk kvs r) : kvs.length ≤ turn r := by
  refine few_keys (turn r) kvs M.nd fun p hp => ?_
  cases e : valV kvs p.1 with
  | none => exact absurd (List.mem_map.mpr ⟨p, hp, rfl⟩) (valV_not e)
  | some v =>
    obtain ⟨i, h1, h2, h3, _⟩ := M.ok _ v e
    exact ⟨i, h1, h2, h3⟩
theorem nd_put {kvs : List (Key × V)} {k : Key} (v : V) (h : (kvs.map (·.1)).Nodup) : ((putK kvs k v).map (·.1)).Nodup := by
  cases e : valV kvs k with
  | none => exact nd_putK v h e
  | some u =>
    have a : (kvs.any fun kv => decide (kv.1 = k)) = true := by rw [valV_any, e]; rfl
    unfold putK
    rw [if_pos a, List.map_map]
    have f : ((fun p : Key × V => p.1) ∘ fun kv => if kv.1 = k then (kv.1, v) else kv) = fun p => p.1 := by
      funext p
      show (if p.1 = k then (p.1, v) else p).1 = p.1
      split <;> rfl
    rw [f]
    exact h
theorem MemoOk.put {kvs : List (Key × V)} {r : Rule} (M : MemoOk kvs r) {i : Int} (h0 : 0 ≤ i) (h1 : i < turn r) : MemoOk (putK kvs (Sum.inl i) (.bl (on r i))) r := by
  refine ⟨nd_put _ M.nd, fun k v h => ?_⟩
  rw [valV_put] at h
  by_cases e : k = Sum.inl i
  · rw [if_pos e] at h
    exact ⟨i, e, h0, h1, (Option.some.inj h).symm⟩
  · rw [if_neg e] at h
    exact M.ok k v h
theorem put_known {G : Addr → Option Rule} {H : Hp} {kd : Addr} {r : Rule} (M : Memo G H) (g : G kd = some r) (t : turn r ≤ 1000000) {i : Int} (h0 : 0 ≤ i) (h1 : i < turn r) :
    ∃ kvs, H kd = some (.dK kvs) ∧ kvs.length < sizeLine ∧ Keep G H (upd H kd (.dK (putK kvs (Sum.inl i) (.bl (on r i))))) ∧ Memo G (upd H kd (.dK (putK kvs (Sum.inl i) (.bl (on r i))))) ∧ valV (putK kvs (Sum.inl i : Key) (.bl (on r i))) (Sum.inl i) = some (.bl (on r i)) := by
  obtain ⟨kvs, e, ok⟩ := M kd r g
  have few := ok.few
  refine ⟨kvs, e, Nat.lt_of_le_of_lt (Nat.le_trans few t) (by decide), fun b o hb gb => ?_, fun b r' gb => ?_, by rw [valV_put, if_pos rfl]⟩
  · have ne : b ≠ kd := fun z => by rw [z, g] at gb; cases gb
    rw [upd_ne ne]
    exact hb
  · by_cases eb : b = kd
    · subst eb
      rw [g] at gb
      obtain rfl := Option.some.inj gb
      exact ⟨_, upd_same, ok.put h0 h1⟩
    · obtain ⟨kvs', e', ok'⟩ := M b r' gb
      exact ⟨kvs', by rw [upd_ne eb]; exact e', ok'⟩
def mon (d : Int) : Int := if d % 72 < 35 then d / 72 * 2 else d / 72 * 2 + 1
theorem mon_len (d : Int) : (if mon d % 2 = 0 then (35 : Int) else 37) = Fd.len d := by
  unfold mon Fd.len
  by_cases h : d % 72 < 35
  · rw [if_pos h, if_pos h, if_pos (by omega)]
  · rw [if_neg h, if_neg h, if_neg (by omega)]
def spDate : Sp := fun vs H Q _ => ∃ d : Int, vs = [.int d] ∧ ∀ p, H p = none → Q (.ref p) (upd H p (.tup [.int (mon d), .int (dt d)]))
def spMl : Sp := fun vs H Q _ => ∃ m : Int, vs = [.int m] ∧ Q (.int (if m % 2 = 0 then 35 else 37)) H
def spWd : Sp := fun vs H Q _ => ∃ d : Int, vs = [.int d] ∧ Q (.int (d % 9)) H
structure Mtx (mg : Str → Option Value) : Prop where
  g_TWO_MONTHS : ∃ t, mg "TWO_MONTHS" = some (.int 72 t)
  g_EVEN_MONTH : ∃ t, mg "EVEN_MONTH" = some (.int 35 t)
  g_ODD_MONTH : ∃ t, mg "ODD_MONTH" = some (.int 37 t)
  g_WEEKDAYS : ∃ t, mg "WEEKDAYS" = some (.int 9 t)
section
variable {P : Program} {w : World} {K : PySem.W.Frag} {mg : Str → Option Value} {base : Heap} {A : Adr}
theorem sc_date_of : FnScope ["day", "month", "left"] ["day"] (defScope sDate) := ⟨rfl, rfl, rfl, by decide +kernel, rfl, by decide +kernel, by decide +kernel⟩
theorem ok_date (D : Df K mg "date_of" sDate ["day"]) (T : Mtx mg) : Has P w K mg base 1 "date_of" ["day"] spDate := by
  refine D.ok sc_date_of (fun vs H Q E h => ?_) (fun f cdv A outer s H vs Q E hr h => ?_)
  · obtain ⟨d, rfl, _⟩ := h
    rfl
  obtain ⟨d, rfl, q⟩ := h
  refine ⟨_, (pss_cons (ps_set (i := 1) sc_date_of.nd rfl (Or.inl rfl) (pe_op op_mul (pe_op op_fdiv (pv 0) (pe_gint rfl T.g_TWO_MONTHS)) pe_int))
    (pss_cons (ps_set (i := 2) sc_date_of.nd rfl (Or.inl rfl) (pe_op op_mod (pv 0) (pe_gint rfl T.g_TWO_MONTHS)))
    (pss_cons (ps_if (pt_cmpR op_lt (pv 2) (pe_gint rfl T.g_EVEN_MONTH) (nomark _)) (pss_one (ps_ret (pe_tup (pa_cons (pv 1) (pa_cons (pe_op op_add (pv 2) pe_int) pa_nil star_b) star_n)))) pss_nil)
    (pss_one (ps_ret (pe_tup (pa_cons (pe_op op_add (pv 1) pe_int) (pa_cons (pe_op op_add (pe_op op_sub (pv 2) (pe_gint rfl T.g_EVEN_MONTH)) pe_int) pa_nil star_b) star_b))))))), ?_⟩
  refine ⟨_, rfl, _, _, rfl, rfl, ⟨by decide, by decide⟩, _, _, rfl, rfl, .inr ⟨by decide, by decide⟩, ?_⟩
  refine ⟨_, rfl, _, _, rfl, rfl, (by show (0 : Int) < 72; decide), ?_⟩
  refine ⟨_, rfl, _, _, rfl, rfl, _, rfl, ?_⟩
  refine ite2 (fun c => ?_) (fun c => ?_)
  · have c' : d % 72 < 35 := of_decide_eq_true c
    refine ⟨_, rfl, _, rfl, _, _, rfl, rfl, (by show 2 ≤ sizeLine; decide), fun p hp => ?_⟩
    have e : ([.int (mon d), .int (dt d)] : List V) = [.int (d / 72 * 2), .int (d % 72 + 1)] := by rw [mon, dt, if_pos c', if_pos c']
    have q' := q p hp
    rw [e] at q'
    exact q'
  · have c' : ¬ d % 72 < 35 := of_decide_eq_false (Bool.eq_false_iff.mpr c)
    refine ⟨_, rfl, _, _, rfl, rfl, _, rfl, _, _, rfl, rfl, _, _, rfl, rfl, (by show 2 ≤ sizeLine; decide), fun p hp => ?_⟩
    have e : ([.int (mon d), .int (dt d)] : List V) = [.int (d / 72 * 2 + 1), .int (d % 72 - 35 + 1)] := by
      rw [mon, dt, if_neg c', if_neg c']
      have e2 : d % 72 - 34 = d % 72 - 35 + 1 := by omega
      rw [e2]
    have q' := q p hp
    rw [e] at q'
    exact q'
theorem sc_ml : FnScope ["month"] ["month"] (defScope sMl) := ⟨rfl, rfl, rfl, by decide +kernel, rfl, by decide +kernel, by decide +kernel⟩
theorem ok_ml (D : Df K mg "month_length" sMl ["month"]) (T : Mtx mg) : Has P w K mg base 1 "month_length" ["month"] spMl := by
  refine D.ok sc_ml (fun vs H Q E h => ?_) (fun f cdv A outer s H vs Q E hr h => ?_)
  · obtain ⟨d, rfl, _⟩ := h
    rfl
  obtain ⟨m, rfl, q⟩ := h
  refine ⟨_, (pss_one (ps_ret (pe_ifExp (pt_cmpR op_eq (pe_op op_mod (pv 0) pe_int) pe_int (nomark _)) (pe_gint rfl T.g_EVEN_MONTH) (pe_gint rfl T.g_ODD_MONTH)))), ?_⟩
  refine ⟨_, rfl, _, _, rfl, rfl, (by show (0 : Int) < 2; decide), rfl, _, rfl, ?_⟩
  rw [decI]
  refine ite2 (fun c => ?_) (fun c => ?_)
  · rw [if_pos (of_decide_eq_true c)] at q
    exact q
  · rw [if_neg (of_decide_eq_false (Bool.eq_false_iff.mpr c))] at q
    exact q
theorem sc_wd : FnScope ["day"] ["day"] (defScope sWd) := ⟨rfl, rfl, rfl, by decide +kernel, rfl, by decide +kernel, by decide +kernel⟩
theorem ok_wd (D : Df K mg "weekday_of" sWd ["day"]) (T : Mtx mg) : Has P w K mg base 1 "weekday_of" ["day"] spWd := by
  refine D.ok sc_wd (fun vs H Q E h => ?_) (fun f cdv A outer s H vs Q E hr h => ?_)
  · obtain ⟨d, rfl, _⟩ := h
    rfl
  obtain ⟨d, rfl, q⟩ := h
  refine ⟨_, (pss_one (ps_ret (pe_op op_mod (pv 0) (pe_gint rfl T.g_WEEKDAYS)))), ?_⟩
  exact ⟨_, rfl, _, _, rfl, rfl, (by show (0 : Int) < 9; decide), q⟩
def spHas (A : Adr) (n : Nat) (κ : Kd) : Sp := fun vs H Q _ => ∃ (p : Addr) (r : Rule) (d : Int) (G : Addr → Option Rule), kd r = κ ∧ vs = [.ref p, .int d] ∧ PartAt A G H p r ∧ Good r ∧ depth r < n ∧ turn r ≤ 1000000 ∧ Memo G H ∧ ∀ H', Keep G H H' → Memo G H' → Q (.bl (on r d)) H'
def spReach (A : Adr) (n : Nat) : Sp := fun vs H Q _ => ∃ (p : Addr) (x y : Rule) (d : Int) (G : Addr → Option Rule), vs = [.ref p, .int d] ∧ PartAt A G H p (.moved x y) ∧ Good x ∧ Good y ∧ depth x < n ∧ depth y < n ∧ turn x ≤ 1000000 ∧ turn y ≤ 1000000 ∧ Memo G H ∧ on y d = false ∧
  ∀ H', Keep G H H' → Memo G H' → Q (.bl (walk (on x) (on y) (turn y) d)) H'
theorem sc_hasE : FnScope ["self", "day"] ["self", "day"] (defScope sHasE) := ⟨rfl, rfl, rfl, by decide +kernel, rfl, by decide +kernel, by decide +kernel⟩
theorem ok_hasE {f : Addr} {fd : FuncData} {n : Nat} (F : Fun K "has" "EveryPart.has" sHasE f fd) (T : Ptx K mg A) : FnOk P w K mg base CX0 1 f fd ["self", "day"] (spHas A n .e) := by
  refine F.ok sc_hasE (fun vs H Q E h => ?_) (fun cdv Ar outer s H vs Q E hr h => ?_)
  · obtain ⟨p, r, d, G, _, rfl, _⟩ := h
    rfl
  obtain ⟨p, r, d, G, hk, rfl, hP, hG, _, _, M, q⟩ := h
  obtain ⟨m, st, rfl⟩ : ∃ m st, r = .every m st := by cases r <;> first | exact ⟨_, _, rfl⟩ | cases hk
  obtain ⟨dx, hp⟩ := hP
  have hG : 1 ≤ m ∧ m ≤ 60 := hG
  refine ⟨_, (pss_one (ps_ret (pe_cmpR op_eq (pe_op op_mod (pe_op op_sub (pv 1) (pe_fld (pv 0) rfl)) (pe_fld (pv 0) rfl)) pe_int (nomark _)))), ?_⟩
  refine ⟨_, rfl, _, rfl, p, A.cE, dx, _, _, rfl, hp, T.kE.cls, T.sE, flE_start _ _, _, _, rfl, rfl, _, rfl, p, A.cE, dx, _, _, rfl, hp, T.kE.cls, T.tE, flE_turn _ _, _, _, rfl, rfl, (by show (0 : Int) < m; omega), rfl, ?_⟩
  have q' := q H (Keep.refl G H) M
  have e : on (.every m st) d = decide (V.int ((d - st) % m) = V.int 0) := by
    rw [decI, Fd.on]
    congr 1
    exact propext (every_iff d st).symm
  rw [e] at q'
  exact q'
theorem sc_hasD : FnScope ["self", "day", "place"] ["self", "day"] (defScope sHasD) := ⟨rfl, rfl, rfl, by decide +kernel, rfl, by decide +kernel, by decide +kernel⟩
theorem ok_hasD {f : Addr} {fd : FuncData} {n : Nat} (F : Fun K "has" "DatePart.has" sHasD f fd) (T : Ptx K mg A) (C_date_of : Has P w K mg base 1 "date_of" ["day"] spDate) (C_month_length : Has P w K mg base 1 "month_length" ["month"] spMl) : FnOk P w K mg base CX0 2 f fd ["self", "day"] (spHas A n .d) := by
  refine F.ok sc_hasD (fun vs H Q E h => ?_) (fun cdv Ar outer s H vs Q E hr h => ?_)
  · obtain ⟨p, r, d, G, _, rfl, _⟩ := h
    rfl
  obtain ⟨p, r, d, G, hk, rfl, hP, hG, _, _, M, q⟩ := h
  obtain ⟨x, rfl⟩ : ∃ x, r = .date x := by cases r <;> first | exact ⟨_, rfl⟩ | cases hk
  obtain ⟨dx, hp⟩ := hP
  have hG : (1 ≤ x ∧ x ≤ 37) ∨ (-37 ≤ x ∧ x ≤ -1) := hG
  have hdl := dt_len d
  refine ⟨_, (pss_cons (ps_set (i := 2) sc_hasD.nd rfl (Or.inl rfl) (pe_has C_date_of hr (by decide) (pa_cons (pv 1) pa_nil star_n)))
    (pss_cons (ps_if (pt_cmpR op_gt (pe_fld (pv 0) rfl) pe_int (nomark _)) (pss_one (ps_ret (pe_cmpR op_eq (pe_ix ix_tup (pv 2) pe_int (fun _ _ => rfl)) (pe_fld (pv 0) rfl) (nomark _)))) pss_nil)
    (pss_one (ps_ret (pe_cmpR op_eq (pe_op op_sub (pe_op op_sub (pe_ix ix_tup (pv 2) pe_int (fun _ _ => rfl)) (pe_has C_month_length hr (by decide) (pa_cons (pe_ix ix_tup (pv 2) pe_int (fun _ _ => rfl)) pa_nil star_s))) pe_int) (pe_fld (pv 0) rfl) (nomark _)))))), ?_⟩
  refine ⟨_, rfl, d, rfl, fun tp htp => ?_⟩
  have s1 := same_new htp (.tup [.int (mon d), .int (dt d)])
  have hp1 := s1 _ _ hp
  have q' := q _ (Keep.of s1) (M.same s1)
  refine ⟨_, rfl, p, A.cD, dx, _, _, rfl, hp1, T.kD.cls, T.dD, flD_date _, _, _, rfl, rfl, _, rfl, ?_⟩
  refine ite2 (fun c => ?_) (fun c => ?_)
  · have c' : 0 < x := of_decide_eq_true c
    refine ⟨_, rfl, tp, _, _, _, rfl, rfl, SqT.of upd_same, rfl, _, rfl, p, A.cD, dx, _, _, rfl, hp1, T.kD.cls, T.dD, flD_date _, rfl, ?_⟩
    have e : on (.date x) d = decide (V.int (dt d) = V.int x) := by
      rw [decI, Fd.on]
      congr 1
      apply propext
      omega
    rw [e] at q'
    exact q'
  · have c' : ¬ 0 < x := of_decide_eq_false (Bool.eq_false_iff.mpr c)
    refine ⟨_, rfl, tp, _, _, _, rfl, rfl, SqT.of upd_same, rfl, _, rfl, tp, _, _, _, rfl, rfl, SqT.of upd_same, rfl, _, rfl, _, _, rfl, rfl, _, _, rfl, rfl, _, rfl, p, A.cD, dx, _, _, rfl, hp1, T.kD.cls, T.dD, flD_date _, rfl, ?_⟩
    have e : on (.date x) d = decide (V.int (dt d - (if mon d % 2 = 0 then 35 else 37) - 1) = V.int x) := by
      rw [decI, Fd.on, mon_len]
      congr 1
      apply propext
      omega
    rw [e] at q'
    exact q'
theorem sc_hasN : FnScope ["self", "day", "place"] ["self", "day"] (defScope sHasN) := ⟨rfl, rfl, rfl, by decide +kernel, rfl, by decide +kernel, by decide +kernel⟩
theorem ok_hasN {f : Addr} {fd : FuncData} {n : Nat} (F : Fun K "has" "NthPart.has" sHasN f fd) (T : Ptx K mg A) (C_date_of : Has P w K mg base 1 "date_of" ["day"] spDate) (C_month_length : Has P w K mg base 1 "month_length" ["month"] spMl) (C_weekday_of : Has P w K mg base 1 "weekday_of" ["day"] spWd) :
    FnOk P w K mg base CX0 2 f fd ["self", "day"] (spHas A n .n) := by
  refine F.ok sc_hasN (fun vs H Q E h => ?_) (fun cdv Ar outer s H vs Q E hr h => ?_)
  · obtain ⟨p, r, d, G, _, rfl, _⟩ := h
    rfl
  obtain ⟨p, r, d, G, hk0, rfl, hP, hG, _, _, M, q⟩ := h
  obtain ⟨x, k, rfl⟩ : ∃ x k, r = .nth x k := by cases r <;> first | exact ⟨_, _, rfl⟩ | cases hk0
  obtain ⟨dx, hp⟩ := hP
  obtain ⟨hG, k0, k9⟩ : ((1 ≤ x ∧ x ≤ 5) ∨ (-5 ≤ x ∧ x ≤ -1)) ∧ 0 ≤ k ∧ k < 9 := hG
  have hdl := dt_len d
  refine ⟨_, (pss_cons (ps_if (pt_cmpR op_ne (pe_has C_weekday_of hr (by decide) (pa_cons (pv 1) pa_nil star_n)) (pe_fld (pv 0) rfl) (nomark _)) (pss_one (ps_ret pe_bl)) pss_nil)
    (pss_cons (ps_set (i := 2) sc_hasN.nd rfl (Or.inl rfl) (pe_has C_date_of hr (by decide) (pa_cons (pv 1) pa_nil star_n)))
    (pss_cons (ps_if (pt_cmpR op_gt (pe_fld (pv 0) rfl) pe_int (nomark _)) (pss_one (ps_ret (pe_cmpR op_eq (pe_op op_add (pe_op op_fdiv (pe_op op_sub (pe_ix ix_tup (pv 2) pe_int (fun _ _ => rfl)) pe_int) (pe_gint rfl T.g_WEEKDAYS)) pe_int) (pe_fld (pv 0) rfl) (nomark _)))) pss_nil)
    (pss_one (ps_ret (pe_cmpR op_eq (pe_op op_add (pe_op op_fdiv (pe_op op_sub (pe_has C_month_length hr (by decide) (pa_cons (pe_ix ix_tup (pv 2) pe_int (fun _ _ => rfl)) pa_nil star_s)) (pe_ix ix_tup (pv 2) pe_int (fun _ _ => rfl))) (pe_gint rfl T.g_WEEKDAYS)) pe_int) (pe_un un_neg (pe_fld (pv 0) rfl)) (nomark _))))))), ?_⟩
  refine ⟨_, rfl, d, rfl, _, rfl, p, A.cN, dx, _, _, rfl, hp, T.kN.cls, T.yN, flN_weekday _ _, rfl, _, rfl, ?_⟩
  rw [decI]
  by_cases hk : d % 9 = k
  · rw [decide_eq_true hk]
    refine iteF ?_
    refine ⟨_, rfl, d, rfl, fun tp htp => ?_⟩
    have s1 := same_new htp (.tup [.int (mon d), .int (dt d)])
    have hp1 := s1 _ _ hp
    have q' := q _ (Keep.of s1) (M.same s1)
    refine ⟨_, rfl, p, A.cN, dx, _, _, rfl, hp1, T.kN.cls, T.wN, flN_which _ _, _, _, rfl, rfl, _, rfl, ?_⟩
    refine ite2 (fun c => ?_) (fun c => ?_)
    · have c' : 0 < x := of_decide_eq_true c
      refine ⟨_, rfl, tp, _, _, _, rfl, rfl, SqT.of upd_same, rfl, _, _, rfl, rfl, _, _, rfl, rfl, ⟨by decide, by decide⟩, _, _, rfl, rfl, _, rfl, p, A.cN, dx, _, _, rfl, hp1, T.kN.cls, T.wN, flN_which _ _, rfl, ?_⟩
      have e : on (.nth x k) d = decide (V.int ((dt d - 1) / 9 + 1) = V.int x) := by
        rw [decI, Fd.on]
        congr 1
        apply propext
        omega
      rw [e] at q'
      exact q'
    · have c' : ¬ 0 < x := of_decide_eq_false (Bool.eq_false_iff.mpr c)
      refine ⟨_, rfl, tp, _, _, _, rfl, rfl, SqT.of upd_same, rfl, _, rfl, _, rfl, tp, _, _, _, rfl, rfl, SqT.of upd_same, rfl, _, _, rfl, rfl, _, _, rfl, rfl, ⟨by decide, by decide⟩, _, _, rfl, rfl, _, rfl, p, A.cN, dx, _, _, rfl, hp1, T.kN.cls, T.wN, flN_which _ _, _, rfl, rfl, ?_⟩
      have e : on (.nth x k) d = decide (V.int (((if mon d % 2 = 0 then 35 else 37) - dt d) / 9 + 1) = V.int (-x)) := by
        rw [decI, Fd.on, mon_len]
        congr 1
        apply propext
        omega
      rw [e] at q'
      exact q'
  · rw [decide_eq_false hk]
    refine iteT ?_
    have q' := q H (Keep.refl G H) M
    have e : on (.nth x k) d = false := by
      rw [Fd.on]
      simp [hk]
    rw [e] at q'
    exact q'
theorem sc_hasB : FnScope ["self", "day"] ["self", "day"] (defScope sHasB) := ⟨rfl, rfl, rfl, by decide +kernel, rfl, by decide +kernel, by decide +kernel⟩
theorem ok_hasB {f : Addr} {fd : FuncData} {n k : Nat} (F : Fun K "has" "BothPart.has" sHasB f fd) (T : Ptx K mg A) (C_has : HasM P w K mg base k "has" (Kd.cls A) ["self", "day"] (spHas A n)) : FnOk P w K mg base CX0 (k + 1) f fd ["self", "day"] (spHas A (n + 1) .b) := by
  refine F.ok sc_hasB (fun vs H Q E h => ?_) (fun cdv Ar outer s H vs Q E hr h => ?_)
  · obtain ⟨p, r, d, G, _, rfl, _⟩ := h
    rfl
  obtain ⟨p, r, d, G, hk, rfl, hP, hG, hd, ht, M, q⟩ := h
  obtain ⟨x, y, rfl⟩ : ∃ x y, r = .both x y := by cases r <;> first | exact ⟨_, _, rfl⟩ | cases hk
  obtain ⟨dx, a, b, hp, pa, pb⟩ := hP
  have hd : max (depth x) (depth y) + 1 < n + 1 := hd
  have ht := sub_turn (turn_pos hG.1) (turn_pos hG.2) ht
  refine ⟨_, (pss_one (ps_ret (pe_and (pe_methD C_has hr (Nat.le_refl _) (pe_fld (pv 0) rfl) (pa_cons (pv 1) pa_nil star_n)) (pe_one (pe_methD C_has hr (Nat.le_refl _) (pe_fld (pv 0) rfl) (pa_cons (pv 1) pa_nil star_n)))))), ?_⟩
  obtain ⟨da, fa, ha, la⟩ := pa.obj
  refine ⟨_, rfl, p, A.cB, dx, _, _, rfl, hp, T.kB.cls, T.pB, flP_part _ _ _, a, kd x, da, fa, rfl, ha, la, _, rfl, a, x, d, G, rfl, rfl, pa, hG.1, by omega, ht.1, M, fun H1 k1 M1 => ⟨_, rfl, ?_⟩⟩
  have hp1 := k1.ins M _ _ _ _ hp
  have pb1 := pb.keep k1 M
  obtain ⟨db, fb, hb, lb⟩ := pb1.obj
  cases hx : on x d with
  | false =>
    have q' := q H1 k1 M1
    rw [Fd.on, hx] at q'
    exact iteF q'
  | true =>
    refine iteT ⟨_, rfl, p, A.cB, dx, _, _, rfl, hp1, T.kB.cls, T.oB, flP_other _ _ _, b, kd y, db, fb, rfl, hb, lb, _, rfl, b, y, d, G, rfl, rfl, pb1, hG.2, by omega, ht.2, M1, fun H2 k2 M2 => ?_⟩
    have q' := q H2 (k1.trans k2) M2
    rw [Fd.on, hx] at q'
    exact q'
theorem sc_hasI : FnScope ["self", "day"] ["self", "day"] (defScope sHasI) := ⟨rfl, rfl, rfl, by decide +kernel, rfl, by decide +kernel, by decide +kernel⟩
theorem ok_hasI {f : Addr} {fd : FuncData} {n k : Nat} (F : Fun K "has" "EitherPart.has" sHasI f fd) (T : Ptx K mg A) (C_has : HasM P w K mg base k "has" (Kd.cls A) ["self", "day"] (spHas A n)) : FnOk P w K mg base CX0 (k + 1) f fd ["self", "day"] (spHas A (n + 1) .i) := by
  refine F.ok sc_hasI (fun vs H Q E h => ?_) (fun cdv Ar outer s H vs Q E hr h => ?_)
  · obtain ⟨p, r, d, G, _, rfl, _⟩ := h
    rfl
  obtain ⟨p, r, d, G, hk, rfl, hP, hG, hd, ht, M, q⟩ := h
  obtain ⟨x, y, rfl⟩ : ∃ x y, r = .either x y := by cases r <;> first | exact ⟨_, _, rfl⟩ | cases hk
  obtain ⟨dx, a, b, hp, pa, pb⟩ := hP
  have hd : max (depth x) (depth y) + 1 < n + 1 := hd
  have ht := sub_turn (turn_pos hG.1) (turn_pos hG.2) ht
  refine ⟨_, (pss_one (ps_ret (pe_or (pe_methD C_has hr (Nat.le_refl _) (pe_fld (pv 0) rfl) (pa_cons (pv 1) pa_nil star_n)) (pe_one (pe_methD C_has hr (Nat.le_refl _) (pe_fld (pv 0) rfl) (pa_cons (pv 1) pa_nil star_n)))))), ?_⟩
  obtain ⟨da, fa, ha, la⟩ := pa.obj
  refine ⟨_, rfl, p, A.cI, dx, _, _, rfl, hp, T.kI.cls, T.pI, flP_part _ _ _, a, kd x, da, fa, rfl, ha, la, _, rfl, a, x, d, G, rfl, rfl, pa, hG.1, by omega, ht.1, M, fun H1 k1 M1 => ⟨_, rfl, ?_⟩⟩
  have hp1 := k1.ins M _ _ _ _ hp
  have pb1 := pb.keep k1 M
  obtain ⟨db, fb, hb, lb⟩ := pb1.obj
  cases hx : on x d with
  | true =>
    have q' := q H1 k1 M1
    rw [Fd.on, hx] at q'
    exact iteT q'
  | false =>
    refine iteF ⟨_, rfl, p, A.cI, dx, _, _, rfl, hp1, T.kI.cls, T.oI, flP_other _ _ _, b, kd y, db, fb, rfl, hb, lb, _, rfl, b, y, d, G, rfl, rfl, pb1, hG.2, by omega, ht.2, M1, fun H2 k2 M2 => ?_⟩
    have q' := q H2 (k1.trans k2) M2
    rw [Fd.on, hx] at q'
    exact q'
theorem sc_hasU : FnScope ["self", "day"] ["self", "day"] (defScope sHasU) := ⟨rfl, rfl, rfl, by decide +kernel, rfl, by decide +kernel, by decide +kernel⟩
theorem ok_hasU {f : Addr} {fd : FuncData} {n k : Nat} (F : Fun K "has" "ButPart.has" sHasU f fd) (T : Ptx K mg A) (C_has : HasM P w K mg base k "has" (Kd.cls A) ["self", "day"] (spHas A n)) : FnOk P w K mg base CX0 (k + 1) f fd ["self", "day"] (spHas A (n + 1) .u) := by
  refine F.ok sc_hasU (fun vs H Q E h => ?_) (fun cdv Ar outer s H vs Q E hr h => ?_)
  · obtain ⟨p, r, d, G, _, rfl, _⟩ := h
    rfl
  obtain ⟨p, r, d, G, hk, rfl, hP, hG, hd, ht, M, q⟩ := h
  obtain ⟨x, y, rfl⟩ : ∃ x y, r = .but x y := by cases r <;> first | exact ⟨_, _, rfl⟩ | cases hk
  obtain ⟨dx, a, b, hp, pa, pb⟩ := hP
  have hd : max (depth x) (depth y) + 1 < n + 1 := hd
  have ht := sub_turn (turn_pos hG.1) (turn_pos hG.2) ht
  refine ⟨_, (pss_one (ps_ret (pe_and (pe_methD C_has hr (Nat.le_refl _) (pe_fld (pv 0) rfl) (pa_cons (pv 1) pa_nil star_n)) (pe_one (pe_not (pe_methD C_has hr (Nat.le_refl _) (pe_fld (pv 0) rfl) (pa_cons (pv 1) pa_nil star_n))))))), ?_⟩
  obtain ⟨da, fa, ha, la⟩ := pa.obj
  refine ⟨_, rfl, p, A.cU, dx, _, _, rfl, hp, T.kU.cls, T.pU, flP_part _ _ _, a, kd x, da, fa, rfl, ha, la, _, rfl, a, x, d, G, rfl, rfl, pa, hG.1, by omega, ht.1, M, fun H1 k1 M1 => ⟨_, rfl, ?_⟩⟩
  have hp1 := k1.ins M _ _ _ _ hp
  have pb1 := pb.keep k1 M
  obtain ⟨db, fb, hb, lb⟩ := pb1.obj
  cases hx : on x d with
  | false =>
    have q' := q H1 k1 M1
    rw [Fd.on, hx] at q'
    exact iteF q'
  | true =>
    refine iteT ⟨_, rfl, p, A.cU, dx, _, _, rfl, hp1, T.kU.cls, T.oU, flP_other _ _ _, b, kd y, db, fb, rfl, hb, lb, _, rfl, b, y, d, G, rfl, rfl, pb1, hG.2, by omega, ht.2, M1, fun H2 k2 M2 => ⟨_, rfl, ?_⟩⟩
    have q' := q H2 (k1.trans k2) M2
    rw [Fd.on, hx] at q'
    exact q'
theorem sc_reach : FnScope ["self", "day"] ["self", "day"] (defScope sReach) := ⟨rfl, rfl, rfl, by decide +kernel, rfl, by decide +kernel, by decide +kernel⟩
theorem ok_reach {f : Addr} {fd : FuncData} {n k : Nat} (F : Fun K "is_reached" "MovedPart.is_reached" sReach f fd) (T : Ptx K mg A) (C_has : HasM P w K mg base k "has" (Kd.cls A) ["self", "day"] (spHas A n)) : FnOk P w K mg base CX0 (k + 1) f fd ["self", "day"] (spReach A n) := by
  refine F.ok sc_reach (fun vs H Q E h => ?_) (fun cdv Ar outer s H vs Q E hr h => ?_)
  · obtain ⟨p, x, y, d, G, rfl, _⟩ := h
    rfl
  obtain ⟨p, x, y, d, G, rfl, ⟨dx, a, b, kd, hp, hg, pa, pb⟩, gx, gy, d1, d2, t1, t2, M, hy, q⟩ := h
  refine ⟨_, (pss_cons (ps_while PassesOwn.never (pt_not (pt_val (pe_methD C_has hr (Nat.le_refl _) (pe_fld (pv 0) rfl) (pa_cons (pv 1) pa_nil star_n)))) (pss_cons (ps_set (i := 1) sc_reach.nd rfl (Or.inl rfl) (pe_op op_sub (pv 1) pe_int))
    (pss_one (ps_if (pt_not (pt_val (pe_methD C_has hr (Nat.le_refl _) (pe_fld (pv 0) rfl) (pa_cons (pv 1) pa_nil star_n)))) (pss_one (ps_ret pe_bl)) pss_nil))))
    (pss_one (ps_ret pe_bl))), ?_⟩
  refine ⟨fun m σ H2 => ∃ i : Nat, m = turn y - i ∧ Back (on x) (on y) (turn y) d i ∧ σ = [some (.ref p), some (.int (d - i))] ∧ Keep G H H2 ∧ Memo G H2,
    ⟨_, 0, rfl, Back.start (turn_pos gy) hy (on_per gy), (by rw [show d - ((0 : Nat) : Int) = d by omega]; rfl), Keep.refl G H, M⟩, ?_⟩
  rintro m σ H2 ⟨i, rfl, B, rfl, k2, M2⟩
  have hp2 := k2.ins M _ _ _ _ hp
  have pa2 := pa.keep k2 M
  obtain ⟨da, fa, ha, la⟩ := pa2.obj
  refine ⟨_, rfl, p, A.cM, dx, _, _, rfl, hp2, T.kM.cls, T.pM, flM_part _ _ _ _, a, Lw.kd x, da, fa, rfl, ha, la, _, rfl, a, x, _, G, rfl, rfl, pa2, gx, d1, t1, M2, fun H3 k3 M3 => ⟨_, rfl, ?_⟩⟩
  cases hx : on x (d - i) with
  | true =>
    refine iteF ?_
    have q' := q H3 (k2.trans k3) M3
    rw [B.found hx] at q'
    exact q'
  | false =>
    refine iteT ⟨fun σ' H' => ∃ m', m' < turn y - i ∧ ∃ j : Nat, m' = turn y - j ∧ Back (on x) (on y) (turn y) d j ∧ σ' = [some (.ref p), some (.int (d - j))] ∧ Keep G H H' ∧ Memo G H', fun σ' H' h => h, ?_⟩
    refine ⟨_, rfl, _, _, rfl, rfl, ?_⟩
    have hp3 := k3.ins M2 _ _ _ _ hp2
    have pb3 := (pb.keep k2 M).keep k3 M2
    obtain ⟨db, fb, hb, lb⟩ := pb3.obj
    refine ⟨_, rfl, p, A.cM, dx, _, _, rfl, hp3, T.kM.cls, T.oM, flM_other _ _ _ _, b, Lw.kd y, db, fb, rfl, hb, lb, _, rfl, b, y, _, G, rfl, rfl, pb3, gy, d2, t2, M3, fun H4 k4 M4 => ⟨_, rfl, ?_⟩⟩
    have k5 := k2.trans (k3.trans k4)
    cases hy1 : on y (d - i - 1) with
    | false =>
      have q' := q H4 k5 M4
      rw [B.stops hx hy1] at q'
      exact iteT q'
    | true =>
      have B' := B.next hx hy1
      have lt := B.lt
      refine iteF ⟨turn y - (i + 1), by omega, i + 1, rfl, B', ?_, k5, M4⟩
      rw [show d - ((i + 1 : Nat) : Int) = d - i - 1 by omega]
      rfl
theorem sc_hasM : FnScope ["self", "day", "left"] ["self", "day"] (defScope sHasM) := ⟨rfl, rfl, rfl, by decide +kernel, rfl, by decide +kernel, by decide +kernel⟩
set_option maxHeartbeats 4000000 in
theorem ok_hasM {f : Addr} {fd : FuncData} {n k : Nat} (F : Fun K "has" "MovedPart.has" sHasM f fd) (T : Ptx K mg A) (C_has : HasM P w K mg base k "has" (Kd.cls A) ["self", "day"] (spHas A n)) (C_is_reached : HasM P w K mg base (k + 1) "is_reached" (fun _ : Unit => A.cM) ["self", "day"] (fun _ => spReach A n)) :
    FnOk P w K mg base CX0 (k + 2) f fd ["self", "day"] (spHas A (n + 1) .m) := by
  refine F.ok sc_hasM (fun vs H Q E h => ?_) (fun cdv Ar outer s H vs Q E hr h => ?_)
  · obtain ⟨p, r, d, G, _, rfl, _⟩ := h
    rfl
  obtain ⟨p, r, d, G, hk, rfl, hP, hG, hd, ht, M, q⟩ := h
  obtain ⟨x, y, rfl⟩ : ∃ x y, r = .moved x y := by cases r <;> first | exact ⟨_, _, rfl⟩ | cases hk
  obtain ⟨dx, a, b, kd, hp, hg, pa, pb⟩ := hP
  have hd : max (depth x) (depth y) + 1 < n + 1 := hd
  have ht0 : turn (.moved x y) ≤ 1000000 := ht
  have htp : 0 < turn (.moved x y) := turn_pos hG
  have ht := sub_turn (turn_pos hG.1) (turn_pos hG.2) ht
  have hu := hu_of hr
  have per := (on_per hG).mod d
  refine ⟨_, (pss_cons (ps_set (i := 2) sc_hasM.nd rfl (Or.inl rfl) (pe_op op_mod (pv 1) (pe_fld (pv 0) rfl)))
    (pss_cons (ps_if (pt_cmp (pc_dnotin hu (pv 2) (pe_fld (pv 0) rfl))) (pss_one (ps_dput hu (pe_fld (pv 0) rfl) (pv 2) (pe_and (pe_not (pe_methD C_has hr (by omega) (pe_fld (pv 0) rfl) (pa_cons (pv 2) pa_nil star_n))) (pe_one (pe_methD C_is_reached hr (by omega) (pv 0) (pa_cons (pv 2) pa_nil star_n)))) rfl)) pss_nil)
    (pss_one (ps_ret (pe_dget hu (pe_fld (pv 0) rfl) (pv 2) (fun _ _ => rfl)))))), ?_⟩
  refine ⟨_, rfl, _, rfl, p, A.cM, dx, _, _, rfl, hp, T.kM.cls, T.tM, flM_turn _ _ _ _, _, _, rfl, rfl, (by show (0 : Int) < ((turn (.moved x y) : Nat) : Int); omega), ?_⟩
  have l0 : 0 ≤ d % ((turn (.moved x y) : Nat) : Int) := Int.emod_nonneg _ (by omega)
  have l1 : d % ((turn (.moved x y) : Nat) : Int) < ((turn (.moved x y) : Nat) : Int) := Int.emod_lt_of_pos _ (by omega)
  have etl : ((Nat.lcm (turn x) (turn y) : Nat) : Int) = ((turn (.moved x y) : Nat) : Int) := rfl
  generalize hleft : d % ((turn (.moved x y) : Nat) : Int) = left at l0 l1 per
  have hl2 : d % ((Nat.lcm (turn x) (turn y) : Nat) : Int) = left := hleft
  dsimp only
  rw [hl2]
  obtain ⟨kvs, hkd, ok⟩ := M kd _ hg
  refine ⟨_, rfl, _, rfl, p, A.cM, dx, _, _, rfl, hp, T.kM.cls, T.nM, flM_known _ _ _ _, kd, _, rfl, DGet.k (k := Sum.inl left) hkd, _, rfl, ?_⟩
  cases e : valV kvs (Sum.inl left : Key) with
  | some v =>
    refine iteF ?_
    obtain ⟨i, hi, _, _, rfl⟩ := ok.ok _ _ e
    obtain rfl := Sum.inl.inj hi
    refine ⟨_, rfl, p, A.cM, dx, _, _, rfl, hp, T.kM.cls, T.nM, flM_known _ _ _ _, _, rfl, kd, _, rfl, (e ▸ DGet.k (k := Sum.inl left) hkd), ?_⟩
    have q' := q H (Keep.refl G H) M
    rw [← per] at q'
    exact q'
  | none =>
    refine iteT ?_
    obtain ⟨db, fb, hb, lb⟩ := pb.obj
    refine ⟨_, rfl, p, A.cM, dx, _, _, rfl, hp, T.kM.cls, T.oM, flM_other _ _ _ _, b, Lw.kd y, db, fb, rfl, hb, lb, _, rfl, b, y, left, G, rfl, rfl, pb, hG.2, by omega, ht.2, M, fun H1 k1 M1 => ⟨_, rfl, _, rfl, ?_⟩⟩
    have hp1 := k1.ins M _ _ _ _ hp
    cases hy : on y left with
    | true =>
      refine iteF ?_
      have ev : on (.moved x y) left = false := by rw [Fd.on, hy]; rfl
      obtain ⟨kvs2, h2, len2, k3, M3, val⟩ := put_known (i := left) M1 hg ht0 l0 l1
      rw [ev] at k3 M3 val
      have hp3 := k3.ins M1 _ _ _ _ hp1
      refine ⟨_, rfl, p, A.cM, dx, _, _, rfl, hp1, T.kM.cls, T.nM, flM_known _ _ _ _, _, rfl, kd, _, rfl, DPut.k (k := Sum.inl left) h2 len2, ?_⟩
      refine ⟨_, rfl, p, A.cM, dx, _, _, rfl, hp3, T.kM.cls, T.nM, flM_known _ _ _ _, _, rfl, kd, _, rfl, (val ▸ DGet.k (k := Sum.inl left) upd_same), ?_⟩
      have q' := q _ (k1.trans k3) M3
      rw [← per, ev] at q'
      exact q'
    | false =>
      refine iteT ?_
      refine ⟨_, rfl, p, (), dx, _, rfl, hp1, flM_reach _ _ _ _, _, rfl, p, x, y, left, G, rfl, ⟨dx, a, b, kd, hp1, hg, pa.keep k1 M, pb.keep k1 M⟩, hG.1, hG.2, by omega, by omega, ht.1, ht.2, M1, hy, fun H2 k2 M2 => ?_⟩
      have ev : on (.moved x y) left = walk (on x) (on y) (turn y) left := by rw [Fd.on, hy]; rfl
      have hp2 := k2.ins M1 _ _ _ _ hp1
      obtain ⟨kvs2, h2, len2, k3, M3, val⟩ := put_known (i := left) M2 hg ht0 l0 l1
      rw [ev] at k3 M3 val
      have hp3 := k3.ins M2 _ _ _ _ hp2
      refine ⟨_, rfl, p, A.cM, dx, _, _, rfl, hp2, T.kM.cls, T.nM, flM_known _ _ _ _, _, rfl, kd, _, rfl, DPut.k (k := Sum.inl left) h2 len2, ?_⟩
      refine ⟨_, rfl, p, A.cM, dx, _, _, rfl, hp3, T.kM.cls, T.nM, flM_known _ _ _ _, _, rfl, kd, _, rfl, (val ▸ DGet.k (k := Sum.inl left) upd_same), ?_⟩
      have q' := q _ (k1.trans (k2.trans k3)) M3
      rw [← per, ev] at q'
      exact q'
structure PtxH (K : PySem.W.Frag) (A : Adr) : Prop where
  hE : Mt K A.cE "has" "EveryPart.has" sHasE ["self", "day"]
  hD : Mt K A.cD "has" "DatePart.has" sHasD ["self", "day"]
  hN : Mt K A.cN "has" "NthPart.has" sHasN ["self", "day"]
  hB : Mt K A.cB "has" "BothPart.has" sHasB ["self", "day"]
  hI : Mt K A.cI "has" "EitherPart.has" sHasI ["self", "day"]
  hU : Mt K A.cU "has" "ButPart.has" sHasU ["self", "day"]
  hM : Mt K A.cM "has" "MovedPart.has" sHasM ["self", "day"]
  hR : Mt K A.cM "is_reached" "MovedPart.is_reached" sReach ["self", "day"]
theorem Ptx.clsK (T : Ptx K mg A) (κ : Kd) : Cls K (Kd.cls A κ) := by
  cases κ
  · exact T.kE.cls
  · exact T.kD.cls
  · exact T.kN.cls
  · exact T.kB.cls
  · exact T.kI.cls
  · exact T.kU.cls
  · exact T.kM.cls
theorem has_step {n k : Nat} (T : Ptx K mg A) (TH : PtxH K A) (Cd : Has P w K mg base 1 "date_of" ["day"] spDate) (Cm : Has P w K mg base 1 "month_length" ["month"] spMl) (Cw : Has P w K mg base 1 "weekday_of" ["day"] spWd) (hk : 2 ≤ k) (C_has : HasM P w K mg base k "has" (Kd.cls A) ["self", "day"] (spHas A n)) :
    HasM P w K mg base (k + 2) "has" (Kd.cls A) ["self", "day"] (spHas A (n + 1)) := by
  intro κ
  refine ⟨T.clsK κ, ?_⟩
  cases κ with
  | e => obtain ⟨f, fd, F, b, m⟩ := TH.hE; exact ⟨f, fd, m, (ok_hasE F T).mono (by omega), b⟩
  | d => obtain ⟨f, fd, F, b, m⟩ := TH.hD; exact ⟨f, fd, m, (ok_hasD F T Cd Cm).mono (by omega), b⟩
  | n => obtain ⟨f, fd, F, b, m⟩ := TH.hN; exact ⟨f, fd, m, (ok_hasN F T Cd Cm Cw).mono (by omega), b⟩
  | b => obtain ⟨f, fd, F, b, m⟩ := TH.hB; exact ⟨f, fd, m, (ok_hasB F T C_has).mono (by omega), b⟩
  | i => obtain ⟨f, fd, F, b, m⟩ := TH.hI; exact ⟨f, fd, m, (ok_hasI F T C_has).mono (by omega), b⟩
  | u => obtain ⟨f, fd, F, b, m⟩ := TH.hU; exact ⟨f, fd, m, (ok_hasU F T C_has).mono (by omega), b⟩
  | m =>
    obtain ⟨f, fd, F, b, m⟩ := TH.hM
    refine ⟨f, fd, m, ok_hasM F T C_has fun _ => ⟨T.kM.cls, ?_⟩, b⟩
    obtain ⟨f, fd, F, b, m⟩ := TH.hR
    exact ⟨f, fd, m, ok_reach F T C_has, b⟩
theorem all_has (T : Ptx K mg A) (TH : PtxH K A) (Cd : Has P w K mg base 1 "date_of" ["day"] spDate) (Cm : Has P w K mg base 1 "month_length" ["month"] spMl) (Cw : Has P w K mg base 1 "weekday_of" ["day"] spWd) : ∀ n : Nat, HasM P w K mg base (2 * n + 2) "has" (Kd.cls A) ["self", "day"] (spHas A n)
  | 0 => fun κ => by
    have no : ∀ vs H Q E, ¬ spHas A 0 κ vs H Q E := fun vs H Q E h => by
      obtain ⟨p, r, d, G, _, _, _, _, h1, _⟩ := h
      omega
    have nf : ∀ (f : Addr) (fd : FuncData), FnOk P w K mg base CX0 (2 * 0 + 2) f fd ["self", "day"] (spHas A 0 κ) := fun f fd =>
      ⟨fun vs H Q E h => absurd h (no vs H Q E), fun Ar outer s H args us vs Q E _ _ _ _ h => absurd h (no vs H Q E)⟩
    refine ⟨T.clsK κ, ?_⟩
    cases κ with
    | e => obtain ⟨f, fd, F, b, m⟩ := TH.hE; exact ⟨f, fd, m, nf f fd, b⟩
    | d => obtain ⟨f, fd, F, b, m⟩ := TH.hD; exact ⟨f, fd, m, nf f fd, b⟩
    | n => obtain ⟨f, fd, F, b, m⟩ := TH.hN; exact ⟨f, fd, m, nf f fd, b⟩
    | b => obtain ⟨f, fd, F, b, m⟩ := TH.hB; exact ⟨f, fd, m, nf f fd, b⟩
    | i => obtain ⟨f, fd, F, b, m⟩ := TH.hI; exact ⟨f, fd, m, nf f fd, b⟩
    | u => obtain ⟨f, fd, F, b, m⟩ := TH.hU; exact ⟨f, fd, m, nf f fd, b⟩
    | m => obtain ⟨f, fd, F, b, m⟩ := TH.hM; exact ⟨f, fd, m, nf f fd, b⟩
  | n + 1 => has_step T TH Cd Cm Cw (by omega) (all_has T TH Cd Cm Cw n)
end
end Lw
set_option Elab.async false
set_option linter.all false
set_option maxRecDepth 100000
namespace Lw
open PySem L2 L3 Fd
seal L2.PSs L2.PS L2.PE L2.PT L2.PW L2.PA L2.PG L2.PGs L2.PI L2.PC
def marksV (f : Int → Bool) (T : Nat) : List V := (marksF f T).map V.bl
theorem marksV_length (f : Int → Bool) (T : Nat) : (marksV f T).length = T := by rw [marksV, List.length_map, marksF_length]
theorem marksV_get {f : Int → Bool} {T i : Nat} (h : i < T) : (marksV f T)[i]? = some (.bl (f (i : Int))) := by
  rw [marksV, List.getElem?_map, marksF_get h]
  rfl
theorem marksV_succ (f : Int → Bool) (n : Nat) : marksV f (n + 1) = marksV f n ++ [.bl (f (n : Int))] := by
  rw [marksV, marks_succ, List.map_append]
  rfl
theorem marksV_rep {f : Int → Bool} {t : Nat} (hp : Per f t) (k : Nat) : (List.replicate k (marksV f t)).flatten = marksV f (t * k) := by
  rw [marksV, marksV, ← marksF_rep hp k, List.map_flatten, List.map_replicate]
theorem marksV_flat (f : Int → Bool) (T : Nat) : (marksV f T).all flatV = true := by
  rw [marksV, List.all_map, List.all_eq_true]
  intro b _
  rfl
theorem marksV_count (f : Int → Bool) (T : Nat) : ((marksV f T).countP fun z => eqV z (.bl true)) = cntTo f T := by
  rw [← count_marks, marksV, List.countP_map, List.count_eq_countP]
  apply List.countP_congr
  intro b _
  cases b <;> simp [eqV]
theorem marksV_take (f : Int → Bool) {n T : Nat} (h : n ≤ T) : (marksV f T).take n = marksV f n := by
  rw [marksV, ← List.map_take, take_marks f h]
  rfl
theorem always_t {σ : L2.St} {H : Hp} {A B : Hp → Prop} (h : A H) : tAlways σ H (fun ok H4 => if ok = true then A H4 else B H4) := by
  show if true = true then A H else B H
  exact iteT h
theorem big_line {n : Nat} (h : n ≤ 1000000) : n < sizeLine := by rw [sizeLine_eq]; omega
structure BltM (mg : Str → Option Value) : Prop where
  z_len : mg "len" = none
  z_range : mg "range" = none
  z_zip : mg "zip" = none
  z_enumerate : mg "enumerate" = none
section
variable {P : Program} {w : World} {K : PySem.W.Frag} {mg : Str → Option Value} {base : Heap} {A : Adr}
def spMarks (A : Adr) (n : Nat) (κ : Kd) : Sp := fun vs H Q _ => ∃ (p : Addr) (r : Rule) (G : Addr → Option Rule), kd r = κ ∧ vs = [.ref p] ∧ PartAt A G H p r ∧ Good r ∧ depth r < n ∧ turn r ≤ 1000000 ∧
  ∀ l H', Same H H' → H' l = some (.lst (marksV (on r) (turn r))) → Q (.ref l) H'
def Flat : Kd → Prop
  | .e => True
  | .d => True
  | .n => True
  | _ => False
theorem flat_part {G G' : Addr → Option Rule} {H H' : Hp} {p : Addr} {r : Rule} (f : Flat (kd r)) (h : PartAt A G H p r) (s : Same H H') : PartAt A G' H' p r := by
  cases r with
  | every m st => obtain ⟨dx, h⟩ := h; exact ⟨dx, s _ _ h⟩
  | date d => obtain ⟨dx, h⟩ := h; exact ⟨dx, s _ _ h⟩
  | nth a b => obtain ⟨dx, h⟩ := h; exact ⟨dx, s _ _ h⟩
  | both a b => exact f.elim
  | either a b => exact f.elim
  | but a b => exact f.elim
  | moved a b => exact f.elim
theorem sc_PlainPart_marks : FnScope ["self"] ["self"] (defScope sMarksP) := ⟨rfl, rfl, rfl, by decide +kernel, rfl, by decide +kernel, by decide +kernel⟩
theorem lcsc_PlainPart_marks_0 : LcScope (lcOf (stE ((defBody sMarksP).getD 0 (.Pass ⟨0, 0, 0, 0⟩)))) (defScope sMarksP) ["self"] ["day"] [0] := ⟨rfl, by decide +kernel, by decide +kernel, by decide +kernel, by decide +kernel, by decide +kernel⟩
theorem lcnd_PlainPart_marks_0 : (lcNames ["self"] ["day"] [0]).Nodup := by decide +kernel
theorem ok_marksP {f : Addr} {fd : FuncData} {n k : Nat} {κ : Kd} (F : Fun K "marks" "PlainPart.marks" sMarksP f fd) (fl : Flat κ) (Tp : Ptx K mg A) (T : BltM mg) (C_has : HasM P w K mg base k "has" (fun _ : Unit => Kd.cls A κ) ["self", "day"] (fun _ => spHas A n κ)) :
    FnOk P w K mg base CX0 (k + 1) f fd ["self"] (spMarks A n κ) := by
  refine F.ok sc_PlainPart_marks (fun vs H Q E h => ?_) (fun cdv Ar outer s H vs Q E hr h => ?_)
  · obtain ⟨p, r, G, _, rfl, _⟩ := h
    rfl
  obtain ⟨p, r, G, rfl, rfl, hP, hG, hd, ht, q⟩ := h
  obtain ⟨C, dx, fs, hp, hC, lt⟩ := hP.turn hG
  refine ⟨_, (pss_one (ps_ret (pe_lc (pi_range1 rfl T.z_range (pa_cons (pe_fld (pv 0) rfl) pa_nil star_a)) ⟨lcsc_PlainPart_marks_0, rfl, fun cl fp sb Hb => (pg_name (i := 0) (x := "day") lcnd_PlainPart_marks_0 rfl (Or.inl rfl)), fun cl fp sb Hb => pf_nil, fun cl fp sb Hb => (pe_methD C_has hr (Nat.le_refl _) (pv 1) (pa_cons (pv 0) pa_nil star_n))⟩))), ?_⟩
  refine ⟨_, rfl, p, C, dx, fs, _, rfl, hp, (Tp.cls hC).1, (Tp.cls hC).2, lt, _, rfl, by omega, by omega, fun D hD cl fp sb Hb => ?_⟩
  refine ⟨fun i m ys σ H' => m = turn r - i ∧ i ≤ turn r ∧ ys = marksV (on r) i ∧ (∃ o, σ = [o, some (.ref p)]) ∧ Same H H' ∧ H' D = some (.lst ys), ⟨_, rfl, Nat.zero_le _, rfl, ⟨_, rfl⟩, same_new hD _, upd_same⟩, ?_⟩
  rintro i m ys σ H1 ⟨rfl, hi, rfl, ⟨o, rfl⟩, s1, hD1⟩
  by_cases hlt : i < turn r
  · refine .inr ⟨by show i < ((turn r : Nat) : Int).toNat; omega, fun x H2 hy => ?_⟩
    obtain ⟨rfl, rfl⟩ := hy
    have hP1 : PartAt A (fun _ => none) H2 p r := flat_part fl hP s1
    obtain ⟨dx', fs', hp', lh⟩ := hP1.obj
    dsimp only [gName, tAlways]
    refine iteT ?_
    refine ⟨_, rfl, p, (), dx', fs', rfl, hp', lh, _, rfl, p, r, _, fun _ => none, rfl, rfl, hP1, hG, hd, ht, (fun b r h => by cases h), fun H3 k3 M3 => ?_⟩
    have s3 : Same H2 H3 := fun b o hb => k3 b o hb rfl
    have ei : (0 : Int) + (i : Int) = (i : Int) := by omega
    rw [ei]
    refine ⟨s3 _ _ hD1, by rw [marksV_length]; exact big_line (by omega), turn r - (i + 1), by omega, rfl, hlt, (marksV_succ _ _).symm, ⟨_, rfl⟩, (s1.trans s3).upd_new hD _, upd_same⟩
  · have ei : i = turn r := by omega
    subst ei
    exact .inl ⟨by show ((turn r : Nat) : Int).toNat ≤ turn r; omega, q D H1 s1 hD1⟩
inductive Kp where
  | b | i | u | m
def Kp.cls (A : Adr) : Kp → Addr
  | .b => A.cB
  | .i => A.cI
  | .u => A.cU
  | .m => A.cM
def Kp.op (f g : Int → Bool) (t : Nat) : Kp → Int → Bool
  | .b => fun d => f d && g d
  | .i => fun d => f d || g d
  | .u => fun d => f d && !g d
  | .m => fun d => !g d && walk f g t d
def spJoined (κ : Kp) : Sp := fun vs H Q _ => ∃ (p a b : Addr) (f g : Int → Bool) (T t : Nat), vs = [.ref p, .ref a, .ref b] ∧ H a = some (.lst (marksV f T)) ∧ H b = some (.lst (marksV g T)) ∧ T ≤ 1000000 ∧ Per f T ∧ Per g T ∧ Per g t ∧ 0 < t ∧ t ≤ T ∧
  ∀ l H', Same H H' → H' l = some (.lst (marksV (κ.op f g t) T)) → Q (.ref l) H'
theorem zip_turns {a b : Addr} {f g o : Int → Bool} {T : Nat} {te : TE} {σ : L2.St} {H : Hp} {D : Addr} {Q : Hp → Prop} (hT : T ≤ 1000000) (ha : H a = some (.lst (marksV f T))) (hb : H b = some (.lst (marksV g T))) (hD : H D = none)
    (he : ∀ (x y : Bool) (σ' : L2.St) (H' : Hp) (Q' : VK), σ' = [some (.bl x), some (.bl y)] → (∀ i : Nat, x = f i → y = g i → Q' (.bl (o i)) H' → te σ' H' Q'))
    (q : ∀ H', Same H H' → H' D = some (.lst (marksV o T)) → Q H') (n1 n2 : Str) :
    LcTurns [n1, n2] [] (Itz K a b (marksV f T) (marksV g T)) (gTup K 2 (gCons (gName 0) (gCons (gName 1) gNil))) tAlways te σ H D Q := by
  refine ⟨fun i m ys σ H' => m = T - i ∧ i ≤ T ∧ ys = marksV o i ∧ (∃ o1 o2, σ = [o1, o2]) ∧ Same H H' ∧ H' D = some (.lst ys), ⟨_, rfl, Nat.zero_le _, rfl, ⟨_, _, rfl⟩, same_new hD _, upd_same⟩, ?_⟩
  rintro i m ys σ H1 ⟨rfl, hi, rfl, ⟨o1, o2, rfl⟩, s1, hD1⟩
  have la := marksV_length f T
  have lb := marksV_length g T
  by_cases hlt : i < T
  · refine .inr ⟨⟨SqL.of (s1 _ _ ha), SqL.of (s1 _ _ hb), by omega, by omega⟩, fun x H2 hy => ?_⟩
    obtain ⟨p, x1, y1, hp, hx, hy, rfl, rfl⟩ := hy
    rw [marksV_get hlt] at hx hy
    obtain rfl := Option.some.inj hx
    obtain rfl := Option.some.inj hy
    refine ⟨p, _, rfl, SqT.of upd_same, rfl, _, _, rfl, _, _, rfl, rfl, always_t ?_⟩
    refine he (f i) (g i) _ _ _ rfl i rfl rfl ?_
    have neD : D ≠ p := ne_of_none hD1 hp
    have s2 : Same H1 (upd H1 p (.tup [.bl (f i), .bl (g i)])) := same_new hp _
    refine ⟨s2 _ _ hD1, by rw [marksV_length]; exact big_line (by omega), T - (i + 1), by omega, rfl, hlt, (marksV_succ _ _).symm, ⟨_, _, rfl⟩, (s1.trans s2).upd_new hD _, upd_same⟩
  · have ei : i = T := by omega
    subst ei
    exact .inl ⟨⟨SqL.of (s1 _ _ ha), SqL.of (s1 _ _ hb), .inl (by omega)⟩, q H1 s1 hD1⟩
theorem sc_BothPart_joined : FnScope ["self", "marks", "others"] ["self", "marks", "others"] (defScope sJoinB) := ⟨rfl, rfl, rfl, by decide +kernel, rfl, by decide +kernel, by decide +kernel⟩
theorem lcsc_BothPart_joined_0 : LcScope (lcOf (stE ((defBody sJoinB).getD 0 (.Pass ⟨0, 0, 0, 0⟩)))) (defScope sJoinB) ["self", "marks", "others"] ["had", "other"] [] := ⟨rfl, by decide +kernel, by decide +kernel, by decide +kernel, by decide +kernel, by decide +kernel⟩
theorem lcnd_BothPart_joined_0 : (lcNames ["self", "marks", "others"] ["had", "other"] []).Nodup := by decide +kernel
theorem ok_joinB {f : Addr} {fd : FuncData} (F : Fun K "joined" "BothPart.joined" sJoinB f fd) (T : BltM mg) : FnOk P w K mg base CX0 1 f fd ["self", "marks", "others"] (spJoined .b) := by
  refine F.ok sc_BothPart_joined (fun vs H Q E h => ?_) (fun cdv Ar outer s H vs Q E hr h => ?_)
  · obtain ⟨p, a, b, f, g, T, t, rfl, _⟩ := h
    rfl
  obtain ⟨p, a, b, f, g, Tn, t, rfl, ha, hb, hT, _, _, _, _, _, q⟩ := h
  refine ⟨_, (pss_one (ps_ret (pe_lc (pi_zip rfl T.z_zip (pa_cons (pv 1) (pa_cons (pv 2) pa_nil star_n) star_n)) ⟨lcsc_BothPart_joined_0, rfl, fun cl fp sb Hb => (pg_tup rfl (pgs_cons (pg_name (i := 0) (x := "had") lcnd_BothPart_joined_0 rfl (Or.inl rfl)) (pgs_cons (pg_name (i := 1) (x := "other") lcnd_BothPart_joined_0 rfl (Or.inl rfl)) pgs_nil))), fun cl fp sb Hb => pf_nil, fun cl fp sb Hb => (pe_and (pv 0) (pe_one (pv 1)))⟩))), ?_⟩
  refine ⟨_, rfl, _, rfl, a, b, _, _, rfl, SqL.of ha, SqL.of hb, fun D hD cl fp sb Hb => ?_⟩
  refine zip_turns hT ha hb hD (fun x y σ' H' Q' e i hx hy q' => ?_) (fun H' s' hl => q D H' s' hl) _ _
  subst e hx hy
  refine ⟨_, rfl, _, rfl, ?_⟩
  have q' : Q' (.bl (f i && g i)) H' := q'
  cases hf : f i with
  | true => rw [hf] at q'; exact iteT ⟨_, rfl, q'⟩
  | false => rw [hf] at q'; exact iteF q'
theorem sc_EitherPart_joined : FnScope ["self", "marks", "others"] ["self", "marks", "others"] (defScope sJoinI) := ⟨rfl, rfl, rfl, by decide +kernel, rfl, by decide +kernel, by decide +kernel⟩
theorem lcsc_EitherPart_joined_0 : LcScope (lcOf (stE ((defBody sJoinI).getD 0 (.Pass ⟨0, 0, 0, 0⟩)))) (defScope sJoinI) ["self", "marks", "others"] ["had", "other"] [] := ⟨rfl, by decide +kernel, by decide +kernel, by decide +kernel, by decide +kernel, by decide +kernel⟩
theorem lcnd_EitherPart_joined_0 : (lcNames ["self", "marks", "others"] ["had", "other"] []).Nodup := by decide +kernel
theorem ok_joinI {f : Addr} {fd : FuncData} (F : Fun K "joined" "EitherPart.joined" sJoinI f fd) (T : BltM mg) : FnOk P w K mg base CX0 1 f fd ["self", "marks", "others"] (spJoined .i) := by
  refine F.ok sc_EitherPart_joined (fun vs H Q E h => ?_) (fun cdv Ar outer s H vs Q E hr h => ?_)
  · obtain ⟨p, a, b, f, g, T, t, rfl, _⟩ := h
    rfl
  obtain ⟨p, a, b, f, g, Tn, t, rfl, ha, hb, hT, _, _, _, _, _, q⟩ := h
  refine ⟨_, (pss_one (ps_ret (pe_lc (pi_zip rfl T.z_zip (pa_cons (pv 1) (pa_cons (pv 2) pa_nil star_n) star_n)) ⟨lcsc_EitherPart_joined_0, rfl, fun cl fp sb Hb => (pg_tup rfl (pgs_cons (pg_name (i := 0) (x := "had") lcnd_EitherPart_joined_0 rfl (Or.inl rfl)) (pgs_cons (pg_name (i := 1) (x := "other") lcnd_EitherPart_joined_0 rfl (Or.inl rfl)) pgs_nil))), fun cl fp sb Hb => pf_nil, fun cl fp sb Hb => (pe_or (pv 0) (pe_one (pv 1)))⟩))), ?_⟩
  refine ⟨_, rfl, _, rfl, a, b, _, _, rfl, SqL.of ha, SqL.of hb, fun D hD cl fp sb Hb => ?_⟩
  refine zip_turns hT ha hb hD (fun x y σ' H' Q' e i hx hy q' => ?_) (fun H' s' hl => q D H' s' hl) _ _
  subst e hx hy
  refine ⟨_, rfl, _, rfl, ?_⟩
  have q' : Q' (.bl (f i || g i)) H' := q'
  cases hf : f i with
  | true => rw [hf] at q'; exact iteT q'
  | false => rw [hf] at q'; exact iteF ⟨_, rfl, q'⟩
theorem sc_ButPart_joined : FnScope ["self", "marks", "others"] ["self", "marks", "others"] (defScope sJoinU) := ⟨rfl, rfl, rfl, by decide +kernel, rfl, by decide +kernel, by decide +kernel⟩
theorem lcsc_ButPart_joined_0 : LcScope (lcOf (stE ((defBody sJoinU).getD 0 (.Pass ⟨0, 0, 0, 0⟩)))) (defScope sJoinU) ["self", "marks", "others"] ["had", "other"] [] := ⟨rfl, by decide +kernel, by decide +kernel, by decide +kernel, by decide +kernel, by decide +kernel⟩
theorem lcnd_ButPart_joined_0 : (lcNames ["self", "marks", "others"] ["had", "other"] []).Nodup := by decide +kernel
theorem ok_joinU {f : Addr} {fd : FuncData} (F : Fun K "joined" "ButPart.joined" sJoinU f fd) (T : BltM mg) : FnOk P w K mg base CX0 1 f fd ["self", "marks", "others"] (spJoined .u) := by
  refine F.ok sc_ButPart_joined (fun vs H Q E h => ?_) (fun cdv Ar outer s H vs Q E hr h => ?_)
  · obtain ⟨p, a, b, f, g, T, t, rfl, _⟩ := h
    rfl
  obtain ⟨p, a, b, f, g, Tn, t, rfl, ha, hb, hT, _, _, _, _, _, q⟩ := h
  refine ⟨_, (pss_one (ps_ret (pe_lc (pi_zip rfl T.z_zip (pa_cons (pv 1) (pa_cons (pv 2) pa_nil star_n) star_n)) ⟨lcsc_ButPart_joined_0, rfl, fun cl fp sb Hb => (pg_tup rfl (pgs_cons (pg_name (i := 0) (x := "had") lcnd_ButPart_joined_0 rfl (Or.inl rfl)) (pgs_cons (pg_name (i := 1) (x := "other") lcnd_ButPart_joined_0 rfl (Or.inl rfl)) pgs_nil))), fun cl fp sb Hb => pf_nil, fun cl fp sb Hb => (pe_and (pv 0) (pe_one (pe_not (pv 1))))⟩))), ?_⟩
  refine ⟨_, rfl, _, rfl, a, b, _, _, rfl, SqL.of ha, SqL.of hb, fun D hD cl fp sb Hb => ?_⟩
  refine zip_turns hT ha hb hD (fun x y σ' H' Q' e i hx hy q' => ?_) (fun H' s' hl => q D H' s' hl) _ _
  subst e hx hy
  refine ⟨_, rfl, _, rfl, ?_⟩
  have q' : Q' (.bl (f i && !g i)) H' := q'
  cases hf : f i with
  | true => rw [hf] at q'; exact iteT ⟨_, rfl, _, rfl, q'⟩
  | false => rw [hf] at q'; exact iteF q'
theorem sc_MovedPart_joined : FnScope ["self", "marks", "others", "waiting", "had", "shunned", "moved"] ["self", "marks", "others"] (defScope sJoinM) := ⟨rfl, rfl, rfl, by decide +kernel, rfl, by decide +kernel, by decide +kernel⟩
set_option maxHeartbeats 1000000 in
theorem ok_joinM {f : Addr} {fd : FuncData} (F : Fun K "joined" "MovedPart.joined" sJoinM f fd) (T : BltM mg) : FnOk P w K mg base CX0 1 f fd ["self", "marks", "others"] (spJoined .m) := by
  refine F.ok sc_MovedPart_joined (fun vs H Q E h => ?_) (fun cdv Ar outer s H vs Q E hr h => ?_)
  · obtain ⟨p, a, b, f, g, T, t, rfl, _⟩ := h
    rfl
  obtain ⟨p, a, b, f, g, Tn, t, rfl, ha, hb, hT, pf, pg, pt, t0, tT, q⟩ := h
  have la := marksV_length f Tn
  have lb := marksV_length g Tn
  refine ⟨_, (pss_cons (ps_set (i := 3) sc_MovedPart_joined.nd rfl (Or.inl rfl) pe_bl)
    (pss_cons (ps_for PassesOwn.never rfl (pi_zip rfl T.z_zip (pa_cons (pv 1) (pa_cons (pv 2) pa_nil star_n) star_n)) (pg_tup rfl (pgs_cons (pg_name (i := 4) sc_MovedPart_joined.nd rfl (Or.inl rfl)) (pgs_cons (pg_name (i := 5) sc_MovedPart_joined.nd rfl (Or.inl rfl)) pgs_nil))) (pss_one (ps_set (i := 3) sc_MovedPart_joined.nd rfl (Or.inl rfl) (pe_and (pe_or (pv 3) (pe_one (pv 4))) (pe_one (pv 5))))))
    (pss_cons (ps_set (i := 6) sc_MovedPart_joined.nd rfl (Or.inl rfl) (pe_lst pa_nil))
    (pss_cons (ps_for PassesOwn.never rfl (pi_zip rfl T.z_zip (pa_cons (pv 1) (pa_cons (pv 2) pa_nil star_n) star_n)) (pg_tup rfl (pgs_cons (pg_name (i := 4) sc_MovedPart_joined.nd rfl (Or.inl rfl)) (pgs_cons (pg_name (i := 5) sc_MovedPart_joined.nd rfl (Or.inl rfl)) pgs_nil))) (pss_cons (ps_set (i := 3) sc_MovedPart_joined.nd rfl (Or.inl rfl) (pe_or (pv 3) (pe_one (pv 4))))
    (pss_cons (ps_expr (pe_bm PySem.F.plainAttrs_list PySem.F.slot_list_append PySem.F.type_list_append mt_append (pv 6) (pa_cons (pe_and (pv 3) (pe_one (pe_not (pv 5)))) pa_nil star_o)))
    (pss_one (ps_set (i := 3) sc_MovedPart_joined.nd rfl (Or.inl rfl) (pe_and (pv 3) (pe_one (pv 5))))))))
    (pss_one (ps_ret (pv 6))))))), ?_⟩
  refine ⟨_, rfl, _, rfl, a, b, _, _, rfl, SqL.of ha, SqL.of hb, ?_⟩
  refine for_zip (fun i σ H' => i ≤ Tn ∧ (∃ o4 o5, σ = [some (.ref p), some (.ref a), some (.ref b), some (.bl (wt f g i (i : Nat))), o4, o5, none]) ∧ Same H H') ⟨Nat.zero_le _, ⟨_, _, rfl⟩, Same.refl _⟩
    (fun i σ H' h => ⟨SqL.of (h.2.2 _ _ ha), SqL.of (h.2.2 _ _ hb)⟩) (by rw [la, lb]) ?_ ?_
  · rintro i x y p' σ H' hx hy ⟨hi, ⟨o4, o5, rfl⟩, s1⟩ hp'
    have hlt : i < Tn := by rw [← la]; exact (List.getElem?_eq_some_iff.mp hx).1
    rw [marksV_get hlt] at hx hy
    obtain rfl := Option.some.inj hx
    obtain rfl := Option.some.inj hy
    refine ⟨p', _, rfl, SqT.of upd_same, rfl, _, _, rfl, _, _, rfl, rfl, ?_⟩
    have fin : ∀ v : Bool, v = ((wt f g i (i : Nat) || f (i : Nat)) && g (i : Nat)) → (i + 1 ≤ Tn ∧ (∃ o4 o5, ([some (.ref p), some (.ref a), some (.ref b), some (.bl v), some (.bl (f (i : Nat))), some (.bl (g (i : Nat))), none] : L2.St) = [some (.ref p), some (.ref a), some (.ref b), some (.bl (wt f g (i + 1) ((i + 1 : Nat) : Int))), o4, o5, none]) ∧ Same H (upd H' p' (.tup [.bl (f (i : Nat)), .bl (g (i : Nat))]))) := by
      rintro v rfl
      rw [wt_step]
      exact ⟨hlt, ⟨_, _, rfl⟩, s1.trans (same_new hp' _)⟩
    refine ⟨_, rfl, _, rfl, ?_⟩
    cases hw : wt f g i (i : Nat) with
    | true =>
      refine iteT ⟨_, rfl, iteT ⟨_, rfl, ?_⟩⟩
      exact fin _ (by rw [hw]; simp)
    | false =>
      refine iteF ⟨_, rfl, _, rfl, ?_⟩
      cases hf : f (i : Nat) with
      | true => rw [hf] at fin; exact iteT ⟨_, rfl, fin _ (by rw [hw]; simp)⟩
      | false => rw [hf] at fin; exact iteF (fin _ (by rw [hw]; simp))
  · rintro σ H1 ⟨hi, ⟨o4, o5, rfl⟩, s1⟩
    rw [la]
    have e0 : wt f g Tn ((Tn : Nat) : Int) = wt f g (Tn + 0) ((0 : Nat) : Int) := by
      have := wt_per pf pg Tn 0
      rw [Nat.add_zero]
      rw [show (0 : Int) + (Tn : Int) = ((Tn : Nat) : Int) by omega] at this
      exact this
    rw [e0]
    refine ⟨(by show 0 ≤ sizeLine; decide), fun D hD => ?_⟩
    have s2 : Same H (upd H1 D (.lst [])) := s1.trans (same_new hD _)
    have hDn : H D = none := s1.free hD
    refine ⟨_, rfl, _, rfl, a, b, _, _, rfl, SqL.of (s2 _ _ ha), SqL.of (s2 _ _ hb), ?_⟩
    refine for_zip (fun i σ H' => i ≤ Tn ∧ (∃ o4 o5, σ = [some (.ref p), some (.ref a), some (.ref b), some (.bl (wt f g (Tn + i) (i : Nat))), o4, o5, some (.ref D)]) ∧ Same H H' ∧ H' D = some (.lst (marksV (Kp.op f g t .m) i))) ⟨Nat.zero_le _, ⟨_, _, rfl⟩, s2, upd_same⟩
      (fun i σ H' h => ⟨SqL.of (h.2.2.1 _ _ ha), SqL.of (h.2.2.1 _ _ hb)⟩) (by rw [la, lb]) ?_ ?_
    · rintro i x y p' σ H' hx hy ⟨hi, ⟨o4, o5, rfl⟩, s3, hD3⟩ hp'
      have hlt : i < Tn := by rw [← la]; exact (List.getElem?_eq_some_iff.mp hx).1
      rw [marksV_get hlt] at hx hy
      obtain rfl := Option.some.inj hx
      obtain rfl := Option.some.inj hy
      have s4 : Same H (upd H' p' (.tup [.bl (f (i : Nat)), .bl (g (i : Nat))])) := s3.trans (same_new hp' _)
      have neD : D ≠ p' := ne_of_none hD3 hp'
      have hD4 : (upd H' p' (.tup [.bl (f (i : Nat)), .bl (g (i : Nat))])) D = some (.lst (marksV (Kp.op f g t .m) i)) := by rw [upd_ne neD]; exact hD3
      have op : Kp.op f g t .m (i : Nat) = ((wt f g (Tn + i) (i : Nat) || f (i : Nat)) && !g (i : Nat)) := by
        show (!g (i : Nat) && walk f g t (i : Nat)) = _
        cases hg : g (i : Nat) with
        | true => simp
        | false =>
          rw [moved_at (n := Tn + i) t0 pt (by omega) hg]
          cases f (i : Nat) <;> cases wt f g (Tn + i) (i : Nat) <;> rfl
      have fin : ∀ v u : Bool, v = ((wt f g (Tn + i) (i : Nat) || f (i : Nat)) && g (i : Nat)) → u = ((wt f g (Tn + i) (i : Nat) || f (i : Nat)) && !g (i : Nat)) → (i + 1 ≤ Tn ∧ (∃ o4 o5, ([some (.ref p), some (.ref a), some (.ref b), some (.bl v), some (.bl (f (i : Nat))), some (.bl (g (i : Nat))), some (.ref D)] : L2.St) = [some (.ref p), some (.ref a), some (.ref b), some (.bl (wt f g (Tn + (i + 1)) ((i + 1 : Nat) : Int))), o4, o5, some (.ref D)]) ∧
          Same H (upd (upd H' p' (.tup [.bl (f (i : Nat)), .bl (g (i : Nat))])) D (.lst (marksV (Kp.op f g t .m) i ++ [.bl u]))) ∧ (upd (upd H' p' (.tup [.bl (f (i : Nat)), .bl (g (i : Nat))])) D (.lst (marksV (Kp.op f g t .m) i ++ [.bl u]))) D = some (.lst (marksV (Kp.op f g t .m) (i + 1)))) := by
        rintro v u rfl rfl
        rw [← Nat.add_assoc, wt_step, ← op, ← marksV_succ]
        exact ⟨hlt, ⟨_, _, rfl⟩, s4.upd_new hDn _, upd_same⟩
      have hlen : (marksV (Kp.op f g t .m) i).length < sizeLine := by rw [marksV_length]; exact big_line (by omega)
      refine ⟨p', _, rfl, SqT.of upd_same, rfl, _, _, rfl, _, _, rfl, rfl, ?_⟩
      have go : ∀ v : Bool, v = (wt f g (Tn + i) (i : Nat) || f (i : Nat)) → v = (wt f g (Tn + i) (i : Nat) || f (i : Nat)) := fun _ h => h
      refine ⟨_, rfl, _, rfl, ?_⟩
      cases hw : wt f g (Tn + i) (i : Nat) with
      | true =>
        rw [hw] at fin
        refine iteT ?_
        cases hg : g (i : Nat) with
        | true =>
          rw [hg] at fin hD4
          refine ⟨_, rfl, .inl ⟨rfl, _, SqL.of hD4⟩, _, rfl, _, rfl, iteT ⟨_, rfl, _, rfl, D, _, _, rfl, rfl, hD4, hlen, ?_⟩⟩
          exact ⟨_, rfl, _, rfl, iteT ⟨_, rfl, fin true false (by simp) (by simp)⟩⟩
        | false =>
          rw [hg] at fin hD4
          refine ⟨_, rfl, .inl ⟨rfl, _, SqL.of hD4⟩, _, rfl, _, rfl, iteT ⟨_, rfl, _, rfl, D, _, _, rfl, rfl, hD4, hlen, ?_⟩⟩
          exact ⟨_, rfl, _, rfl, iteT ⟨_, rfl, fin false true (by simp) (by simp)⟩⟩
      | false =>
        rw [hw] at fin
        refine iteF ⟨_, rfl, ?_⟩
        cases hf : f (i : Nat) with
        | true =>
          rw [hf] at fin hD4
          cases hg : g (i : Nat) with
          | true =>
            rw [hg] at fin hD4
            refine ⟨_, rfl, .inl ⟨rfl, _, SqL.of hD4⟩, _, rfl, _, rfl, iteT ⟨_, rfl, _, rfl, D, _, _, rfl, rfl, hD4, hlen, ?_⟩⟩
            exact ⟨_, rfl, _, rfl, iteT ⟨_, rfl, fin true false (by simp) (by simp)⟩⟩
          | false =>
            rw [hg] at fin hD4
            refine ⟨_, rfl, .inl ⟨rfl, _, SqL.of hD4⟩, _, rfl, _, rfl, iteT ⟨_, rfl, _, rfl, D, _, _, rfl, rfl, hD4, hlen, ?_⟩⟩
            exact ⟨_, rfl, _, rfl, iteT ⟨_, rfl, fin false true (by simp) (by simp)⟩⟩
        | false =>
          rw [hf] at fin hD4
          refine ⟨_, rfl, .inl ⟨rfl, _, SqL.of hD4⟩, _, rfl, _, rfl, iteF ⟨D, _, _, rfl, rfl, hD4, hlen, ?_⟩⟩
          exact ⟨_, rfl, _, rfl, iteF (fin false false (by simp) (by simp))⟩
    · rintro σ H4 ⟨hi4, ⟨o4', o5', rfl⟩, s4, hD4⟩
      rw [la] at hD4
      exact ⟨_, rfl, q D H4 s4 hD4⟩
end
end Lw
set_option Elab.async false
set_option linter.all false
set_option maxRecDepth 100000
namespace Lw
open PySem L2 L3 Fd
seal L2.PSs L2.PS L2.PE L2.PT L2.PW L2.PA L2.PG L2.PGs L2.PI L2.PC
section
variable {P : Program} {w : World} {K : PySem.W.Frag} {mg : Str → Option Value} {base : Heap} {A : Adr}
theorem flP_marks (t : Nat) (a b : Addr) : (flP t a b).lookup ("marks" : Str) = none := flP_no t a b (by decide +kernel) (by decide +kernel) (by decide +kernel)
theorem flP_joined (t : Nat) (a b : Addr) : (flP t a b).lookup ("joined" : Str) = none := flP_no t a b (by decide +kernel) (by decide +kernel) (by decide +kernel)
theorem flM_marks (t : Nat) (a b kd : Addr) : (flM t a b kd).lookup ("marks" : Str) = none := by
  unfold flM
  rw [lookup_putF, if_neg (by decide +kernel), flP_marks]
theorem flM_joined (t : Nat) (a b kd : Addr) : (flM t a b kd).lookup ("joined" : Str) = none := by
  unfold flM
  rw [lookup_putF, if_neg (by decide +kernel), flP_joined]
theorem flE_marks (m s : Int) : (flE m s).lookup ("marks" : Str) = none := by
  unfold flE
  rw [lookup_putF, if_neg (by decide +kernel), lookup_putF, if_neg (by decide +kernel)]
  rfl
theorem flD_marks (d : Int) : (flD d).lookup ("marks" : Str) = none := by
  unfold flD
  rw [lookup_putF, if_neg (by decide +kernel), lookup_putF, if_neg (by decide +kernel)]
  rfl
theorem flN_marks (x k : Int) : (flN x k).lookup ("marks" : Str) = none := by
  unfold flN
  rw [lookup_putF, if_neg (by decide +kernel), lookup_putF, if_neg (by decide +kernel), lookup_putF, if_neg (by decide +kernel)]
  rfl
theorem PartAt.objM {A : Adr} {G : Addr → Option Rule} {H : Hp} : ∀ {r : Rule} {p : Addr}, PartAt A G H p r → ∃ dx fs, H p = some (.ins (Kd.cls A (kd r)) dx fs) ∧ fs.lookup ("marks" : Str) = none
  | .every m s, p, ⟨dx, h⟩ => ⟨dx, _, h, flE_marks _ _⟩
  | .date d, p, ⟨dx, h⟩ => ⟨dx, _, h, flD_marks _⟩
  | .nth x k, p, ⟨dx, h⟩ => ⟨dx, _, h, flN_marks _ _⟩
  | .both x y, p, ⟨dx, a, b, h, _, _⟩ => ⟨dx, _, h, flP_marks _ _ _⟩
  | .either x y, p, ⟨dx, a, b, h, _, _⟩ => ⟨dx, _, h, flP_marks _ _ _⟩
  | .but x y, p, ⟨dx, a, b, h, _, _⟩ => ⟨dx, _, h, flP_marks _ _ _⟩
  | .moved x y, p, ⟨dx, a, b, kd, h, _, _, _⟩ => ⟨dx, _, h, flM_marks _ _ _ _⟩
structure PairObj (A : Adr) (G : Addr → Option Rule) (H : Hp) (p : Addr) (κ : Kp) (x y : Rule) (dx a b : Addr) (fs : List (Str × V)) : Prop where
  at_ : H p = some (.ins (κ.cls A) dx fs)
  tn : fs.lookup ("turn" : Str) = some (.int (Nat.lcm (turn x) (turn y) : Nat))
  pt : fs.lookup ("part" : Str) = some (.ref a)
  ot : fs.lookup ("other" : Str) = some (.ref b)
  jo : fs.lookup ("joined" : Str) = none
  pa : PartAt A G H a x
  pb : PartAt A G H b y
def Kp.rule (x y : Rule) : Kp → Rule
  | .b => .both x y
  | .i => .either x y
  | .u => .but x y
  | .m => .moved x y
def Kp.kd : Kp → Kd
  | .b => .b
  | .i => .i
  | .u => .u
  | .m => .m
theorem pair_obj {G : Addr → Option Rule} {H : Hp} {p : Addr} {x y : Rule} : ∀ {κ : Kp}, PartAt A G H p (κ.rule x y) → ∃ dx a b fs, PairObj A G H p κ x y dx a b fs
  | .b, ⟨dx, a, b, h, pa, pb⟩ => ⟨dx, a, b, _, h, flP_turn _ _ _, flP_part _ _ _, flP_other _ _ _, flP_joined _ _ _, pa, pb⟩
  | .i, ⟨dx, a, b, h, pa, pb⟩ => ⟨dx, a, b, _, h, flP_turn _ _ _, flP_part _ _ _, flP_other _ _ _, flP_joined _ _ _, pa, pb⟩
  | .u, ⟨dx, a, b, h, pa, pb⟩ => ⟨dx, a, b, _, h, flP_turn _ _ _, flP_part _ _ _, flP_other _ _ _, flP_joined _ _ _, pa, pb⟩
  | .m, ⟨dx, a, b, kd, h, _, pa, pb⟩ => ⟨dx, a, b, _, h, flM_turn _ _ _ _, flM_part _ _ _ _, flM_other _ _ _ _, flM_joined _ _ _ _, pa, pb⟩
theorem Kp.fam {A : Adr} (κ : Kp) : FamP A (κ.cls A) := by
  cases κ
  · exact .inl rfl
  · exact .inr (.inl rfl)
  · exact .inr (.inr (.inl rfl))
  · exact .inr (.inr (.inr rfl))
theorem Kp.on {κ : Kp} {x y : Rule} : κ.op (Fd.on x) (Fd.on y) (turn y) = Fd.on (κ.rule x y) := by
  cases κ <;> (funext d; rfl)
theorem Kp.turn {κ : Kp} {x y : Rule} : Fd.turn (κ.rule x y) = Nat.lcm (Fd.turn x) (Fd.turn y) := by cases κ <;> rfl
theorem Kp.good {κ : Kp} {x y : Rule} (h : Good (κ.rule x y)) : Good x ∧ Good y := by cases κ <;> exact h
theorem Kp.depth {κ : Kp} {x y : Rule} : Fd.depth (κ.rule x y) = max (Fd.depth x) (Fd.depth y) + 1 := by cases κ <;> rfl
theorem Kp.of {r : Rule} {κ : Kp} (h : Lw.kd r = κ.kd) : ∃ x y, r = κ.rule x y := by
  cases κ <;> (cases r <;> first | exact ⟨_, _, rfl⟩ | cases h)
theorem sc_PairPart_marks : FnScope ["self", "marks", "others"] ["self"] (defScope sMarksQ) := ⟨rfl, rfl, rfl, by decide +kernel, rfl, by decide +kernel, by decide +kernel⟩
set_option maxHeartbeats 1000000 in
theorem ok_marksQ {f : Addr} {fd : FuncData} {n k : Nat} {κ : Kp} (F : Fun K "marks" "PairPart.marks" sMarksQ f fd) (T : Ptx K mg A) (hk : 1 ≤ k) (C_marks : HasM P w K mg base k "marks" (Kd.cls A) ["self"] (spMarks A n)) (C_joined : HasM P w K mg base 1 "joined" (Kp.cls A) ["self", "marks", "others"] spJoined) :
    FnOk P w K mg base CX0 (k + 1) f fd ["self"] (spMarks A (n + 1) κ.kd) := by
  refine F.ok sc_PairPart_marks (fun vs H Q E h => ?_) (fun cdv Ar outer s H vs Q E hr h => ?_)
  · obtain ⟨p, r, G, _, rfl, _⟩ := h
    rfl
  obtain ⟨p, r, G, hκ, rfl, hP, hG, hd, ht, q⟩ := h
  obtain ⟨x, y, rfl⟩ := Kp.of hκ
  obtain ⟨dx, a, b, fs, O⟩ := pair_obj hP
  obtain ⟨gx, gy⟩ := Kp.good hG
  rw [Kp.depth] at hd
  rw [Kp.turn] at ht
  obtain ⟨tx, ty⟩ := sub_turn (turn_pos gx) (turn_pos gy) ht
  have x0 := turn_pos gx
  have y0 := turn_pos gy
  have l0 : 0 < Nat.lcm (turn x) (turn y) := Nat.lcm_pos x0 y0
  obtain ⟨c1, c2, c3, c4⟩ := T.pair (Kp.fam (A := A) κ)
  have lx : turn x * (Nat.lcm (turn x) (turn y) / turn x) = Nat.lcm (turn x) (turn y) := Nat.mul_div_cancel' (Nat.dvd_lcm_left _ _)
  have ly : turn y * (Nat.lcm (turn x) (turn y) / turn y) = Nat.lcm (turn x) (turn y) := Nat.mul_div_cancel' (Nat.dvd_lcm_right _ _)
  have ex : ((Nat.lcm (turn x) (turn y) : Nat) : Int) / ((turn x : Nat) : Int) = ((Nat.lcm (turn x) (turn y) / turn x : Nat) : Int) := (Int.natCast_ediv _ _).symm
  have ey : ((Nat.lcm (turn x) (turn y) : Nat) : Int) / ((turn y : Nat) : Int) = ((Nat.lcm (turn x) (turn y) / turn y : Nat) : Int) := (Int.natCast_ediv _ _).symm
  have qx : Nat.lcm (turn x) (turn y) / turn x ≤ Nat.lcm (turn x) (turn y) := Nat.div_le_self _ _
  have qy : Nat.lcm (turn x) (turn y) / turn y ≤ Nat.lcm (turn x) (turn y) := Nat.div_le_self _ _
  refine ⟨_, (pss_cons (ps_set (i := 1) sc_PairPart_marks.nd rfl (Or.inl rfl) (pe_op op_rep (pe_methD0 C_marks hr (by omega) (pe_fld (pv 0) rfl)) (pe_op op_fdiv (pe_fld (pv 0) rfl) (pe_fld (pe_fld (pv 0) rfl) rfl))))
    (pss_cons (ps_set (i := 2) sc_PairPart_marks.nd rfl (Or.inl rfl) (pe_op op_rep (pe_methD0 C_marks hr (by omega) (pe_fld (pv 0) rfl)) (pe_op op_fdiv (pe_fld (pv 0) rfl) (pe_fld (pe_fld (pv 0) rfl) rfl))))
    (pss_one (ps_ret (pe_methD C_joined hr (by omega) (pv 0) (pa_cons (pv 1) (pa_cons (pv 2) pa_nil star_n) star_n)))))), ?_⟩
  obtain ⟨da, fa, ha, la⟩ := O.pa.objM
  refine ⟨_, rfl, p, _, dx, fs, _, rfl, O.at_, c1, c3, O.pt, a, kd x, da, fa, rfl, ha, la, a, x, G, rfl, rfl, O.pa, gx, by omega, tx, fun l1 H1 s1 hl1 => ?_⟩
  obtain ⟨C', dx', fs', hp', hC', lt'⟩ := (O.pa.mono (fun _ _ h => h) (.of s1)).turn gx
  refine ⟨_, rfl, p, _, dx, fs, _, rfl, s1 _ _ O.at_, c1, c2, O.tn, _, rfl, p, _, dx, fs, _, rfl, s1 _ _ O.at_, c1, c3, O.pt, a, C', dx', fs', _, rfl, hp', (T.cls hC').1, (T.cls hC').2, lt', _, _, rfl, rfl, ⟨by omega, by omega⟩, ?_⟩
  refine ⟨l1, _, _, rfl, congrArg V.int ex, hl1, Int.le_trans (by decide) (Int.natCast_nonneg _), Int.lt_of_le_of_lt (Int.ofNat_le.mpr qx) (by omega), ?_, fun l2 hl2 => ?_⟩
  · rw [marksV_length, Int.toNat_natCast, lx]
    exact Nat.le_of_lt (big_line ht)
  rw [Int.toNat_natCast, marksV_rep (on_per gx), lx]
  have s2 : Same H (upd H1 l2 (.lst (marksV (Fd.on x) (Nat.lcm (turn x) (turn y))))) := s1.trans (same_new hl2 _)
  have pb2 := O.pb.mono (fun _ _ h => h) (.of s2)
  obtain ⟨db, fb, hb, lb⟩ := pb2.objM
  refine ⟨_, rfl, p, _, dx, fs, _, rfl, s2 _ _ O.at_, c1, c4, O.ot, b, kd y, db, fb, rfl, hb, lb, b, y, G, rfl, rfl, pb2, gy, by omega, ty, fun l3 H3 s3 hl3 => ?_⟩
  have s3' := s2.trans s3
  obtain ⟨C2, dx2, fs2, hp2, hC2, lt2⟩ := (pb2.mono (fun _ _ h => h) (.of s3)).turn gy
  refine ⟨_, rfl, p, _, dx, fs, _, rfl, s3' _ _ O.at_, c1, c2, O.tn, _, rfl, p, _, dx, fs, _, rfl, s3' _ _ O.at_, c1, c4, O.ot, b, C2, dx2, fs2, _, rfl, hp2, (T.cls hC2).1, (T.cls hC2).2, lt2, _, _, rfl, rfl, ⟨by omega, by omega⟩, ?_⟩
  refine ⟨l3, _, _, rfl, congrArg V.int ey, hl3, Int.le_trans (by decide) (Int.natCast_nonneg _), Int.lt_of_le_of_lt (Int.ofNat_le.mpr qy) (by omega), ?_, fun l4 hl4 => ?_⟩
  · rw [marksV_length, Int.toNat_natCast, ly]
    exact Nat.le_of_lt (big_line ht)
  rw [Int.toNat_natCast, marksV_rep (on_per gy), ly]
  have s4 : Same H3 (upd H3 l4 (.lst (marksV (Fd.on y) (Nat.lcm (turn x) (turn y))))) := same_new hl4 _
  refine ⟨_, rfl, p, κ, dx, fs, rfl, (s3'.trans s4) _ _ O.at_, O.jo, _, rfl, _, rfl, p, l2, l4, Fd.on x, Fd.on y, Nat.lcm (turn x) (turn y), turn y, rfl, (s3.trans s4) _ _ upd_same, upd_same, ht, (on_per gx).dvd (Nat.dvd_lcm_left _ _), (on_per gy).dvd (Nat.dvd_lcm_right _ _), on_per gy, y0, Nat.le_of_dvd l0 (Nat.dvd_lcm_right _ _), fun l H' s' hl => ?_⟩
  rw [Kp.on] at hl
  exact q l H' (s3'.trans (s4.trans s')) (by rw [Kp.turn]; exact hl)
structure PtxM (K : PySem.W.Frag) (A : Adr) : Prop where
  mE : Mt K A.cE "marks" "PlainPart.marks" sMarksP ["self"]
  mD : Mt K A.cD "marks" "PlainPart.marks" sMarksP ["self"]
  mN : Mt K A.cN "marks" "PlainPart.marks" sMarksP ["self"]
  mB : Mt K A.cB "marks" "PairPart.marks" sMarksQ ["self"]
  mI : Mt K A.cI "marks" "PairPart.marks" sMarksQ ["self"]
  mU : Mt K A.cU "marks" "PairPart.marks" sMarksQ ["self"]
  mM : Mt K A.cM "marks" "PairPart.marks" sMarksQ ["self"]
  jB : Mt K A.cB "joined" "BothPart.joined" sJoinB ["self", "marks", "others"]
  jI : Mt K A.cI "joined" "EitherPart.joined" sJoinI ["self", "marks", "others"]
  jU : Mt K A.cU "joined" "ButPart.joined" sJoinU ["self", "marks", "others"]
  jM : Mt K A.cM "joined" "MovedPart.joined" sJoinM ["self", "marks", "others"]
  hE : Mt K A.cE "has" "EveryPart.has" sHasE ["self", "day"]
  hD : Mt K A.cD "has" "DatePart.has" sHasD ["self", "day"]
  hN : Mt K A.cN "has" "NthPart.has" sHasN ["self", "day"]
theorem all_joined (T : Ptx K mg A) (B : BltM mg) (TM : PtxM K A) : HasM P w K mg base 1 "joined" (Kp.cls A) ["self", "marks", "others"] spJoined := by
  intro κ
  cases κ with
  | b => obtain ⟨f, fd, F, b, m⟩ := TM.jB; exact ⟨T.kB.cls, f, fd, m, ok_joinB F B, b⟩
  | i => obtain ⟨f, fd, F, b, m⟩ := TM.jI; exact ⟨T.kI.cls, f, fd, m, ok_joinI F B, b⟩
  | u => obtain ⟨f, fd, F, b, m⟩ := TM.jU; exact ⟨T.kU.cls, f, fd, m, ok_joinU F B, b⟩
  | m => obtain ⟨f, fd, F, b, m⟩ := TM.jM; exact ⟨T.kM.cls, f, fd, m, ok_joinM F B, b⟩
theorem marks_step {n k : Nat} (T : Ptx K mg A) (B : BltM mg) (TM : PtxM K A) (Cd : Has P w K mg base 1 "date_of" ["day"] spDate) (Cm : Has P w K mg base 1 "month_length" ["month"] spMl) (Cw : Has P w K mg base 1 "weekday_of" ["day"] spWd) (hk : 2 ≤ k)
    (C_marks : HasM P w K mg base k "marks" (Kd.cls A) ["self"] (spMarks A n)) : HasM P w K mg base (k + 1) "marks" (Kd.cls A) ["self"] (spMarks A (n + 1)) := by
  intro κ
  have J := all_joined (P := P) (w := w) (base := base) T B TM
  refine ⟨T.clsK κ, ?_⟩
  cases κ with
  | e =>
    obtain ⟨f, fd, F, b, m⟩ := TM.mE
    refine ⟨f, fd, m, (ok_marksP (κ := .e) (k := 2) F True.intro T B fun _ => ⟨T.kE.cls, ?_⟩).mono (by omega), b⟩
    obtain ⟨f, fd, F, b, m⟩ := TM.hE
    exact ⟨f, fd, m, (ok_hasE F T).mono (by omega), b⟩
  | d =>
    obtain ⟨f, fd, F, b, m⟩ := TM.mD
    refine ⟨f, fd, m, (ok_marksP (κ := .d) (k := 2) F True.intro T B fun _ => ⟨T.kD.cls, ?_⟩).mono (by omega), b⟩
    obtain ⟨f, fd, F, b, m⟩ := TM.hD
    exact ⟨f, fd, m, (ok_hasD F T Cd Cm).mono (by omega), b⟩
  | n =>
    obtain ⟨f, fd, F, b, m⟩ := TM.mN
    refine ⟨f, fd, m, (ok_marksP (κ := .n) (k := 2) F True.intro T B fun _ => ⟨T.kN.cls, ?_⟩).mono (by omega), b⟩
    obtain ⟨f, fd, F, b, m⟩ := TM.hN
    exact ⟨f, fd, m, (ok_hasN F T Cd Cm Cw).mono (by omega), b⟩
  | b => obtain ⟨f, fd, F, b, m⟩ := TM.mB; exact ⟨f, fd, m, ok_marksQ (κ := .b) F T (by omega) C_marks J, b⟩
  | i => obtain ⟨f, fd, F, b, m⟩ := TM.mI; exact ⟨f, fd, m, ok_marksQ (κ := .i) F T (by omega) C_marks J, b⟩
  | u => obtain ⟨f, fd, F, b, m⟩ := TM.mU; exact ⟨f, fd, m, ok_marksQ (κ := .u) F T (by omega) C_marks J, b⟩
  | m => obtain ⟨f, fd, F, b, m⟩ := TM.mM; exact ⟨f, fd, m, ok_marksQ (κ := .m) F T (by omega) C_marks J, b⟩
theorem all_marks (T : Ptx K mg A) (B : BltM mg) (TM : PtxM K A) (Cd : Has P w K mg base 1 "date_of" ["day"] spDate) (Cm : Has P w K mg base 1 "month_length" ["month"] spMl) (Cw : Has P w K mg base 1 "weekday_of" ["day"] spWd) :
    ∀ n : Nat, HasM P w K mg base (n + 2) "marks" (Kd.cls A) ["self"] (spMarks A n)
  | 0 => fun κ => by
    have no : ∀ vs H Q E, ¬ spMarks A 0 κ vs H Q E := fun vs H Q E h => by
      obtain ⟨p, r, G, _, _, _, _, h1, _⟩ := h
      omega
    have nf : ∀ (f : Addr) (fd : FuncData), FnOk P w K mg base CX0 (0 + 2) f fd ["self"] (spMarks A 0 κ) := fun f fd =>
      ⟨fun vs H Q E h => absurd h (no vs H Q E), fun Ar outer s H args us vs Q E _ _ _ _ h => absurd h (no vs H Q E)⟩
    refine ⟨T.clsK κ, ?_⟩
    cases κ with
    | e => obtain ⟨f, fd, F, b, m⟩ := TM.mE; exact ⟨f, fd, m, nf f fd, b⟩
    | d => obtain ⟨f, fd, F, b, m⟩ := TM.mD; exact ⟨f, fd, m, nf f fd, b⟩
    | n => obtain ⟨f, fd, F, b, m⟩ := TM.mN; exact ⟨f, fd, m, nf f fd, b⟩
    | b => obtain ⟨f, fd, F, b, m⟩ := TM.mB; exact ⟨f, fd, m, nf f fd, b⟩
    | i => obtain ⟨f, fd, F, b, m⟩ := TM.mI; exact ⟨f, fd, m, nf f fd, b⟩
    | u => obtain ⟨f, fd, F, b, m⟩ := TM.mU; exact ⟨f, fd, m, nf f fd, b⟩
    | m => obtain ⟨f, fd, F, b, m⟩ := TM.mM; exact ⟨f, fd, m, nf f fd, b⟩
  | n + 1 => marks_step T B TM Cd Cm Cw (by omega) (all_marks T B TM Cd Cm Cw n)
end
end Lw
set_option Elab.async false
set_option linter.all false
set_option maxRecDepth 100000
namespace Lw
open PySem L2 L3 Fd
seal L2.PSs L2.PS L2.PE L2.PT L2.PW L2.PA L2.PG L2.PGs L2.PI L2.PC
section
variable {P : Program} {w : World} {K : PySem.W.Frag} {mg : Str → Option Value} {base : Heap} {A : Adr}
def spUpTo : Sp := fun vs H Q _ => ∃ (l : Addr) (f : Int → Bool) (T : Nat) (d : Int), vs = [.ref l, .int d] ∧ H l = some (.lst (marksV f T)) ∧ 0 < T ∧ T ≤ 1000000 ∧ ∀ H', Same H H' → Q (.int (upTo f T d)) H'
theorem sc_days_up_to : FnScope ["marks", "day", "turns", "left"] ["marks", "day"] (defScope sUpTo) := ⟨rfl, rfl, rfl, by decide +kernel, rfl, by decide +kernel, by decide +kernel⟩
theorem ok_upTo (D : Df K mg "days_up_to" sUpTo ["marks", "day"]) (T : BltM mg) : Has P w K mg base 1 "days_up_to" ["marks", "day"] spUpTo := by
  refine D.ok sc_days_up_to (fun vs H Q E h => ?_) (fun fa cdv Ar outer s H vs Q E hr h => ?_)
  · obtain ⟨l, f, T, d, rfl, _⟩ := h
    rfl
  obtain ⟨l, f, Tn, d, rfl, hl, T0, T1, q⟩ := h
  have m0 := Int.emod_nonneg d (b := (Tn : Int)) (by omega)
  have m1 := Int.emod_lt_of_pos d (b := (Tn : Int)) (by omega)
  refine ⟨_, (pss_cons (ps_set (i := 2) sc_days_up_to.nd rfl (Or.inl rfl) (pe_op op_fdiv (pv 1) (pe_callB call_len_seq rfl T.z_len b_len (pa_cons (pv 0) pa_nil star_n))))
    (pss_cons (ps_set (i := 3) sc_days_up_to.nd rfl (Or.inl rfl) (pe_op op_mod (pv 1) (pe_callB call_len_seq rfl T.z_len b_len (pa_cons (pv 0) pa_nil star_n))))
    (pss_one (ps_ret (pe_op op_add (pe_op op_mul (pv 2) (pe_bm PySem.F.plainAttrs_list PySem.F.slot_list_count PySem.F.type_list_count mt_count (pv 0) (pa_cons pe_bl pa_nil star_c))) (pe_bm PySem.F.plainAttrs_list PySem.F.slot_list_count PySem.F.type_list_count mt_count (pe_slice sl_list (pv 0) po_none (po_some (pv 3))) (pa_cons pe_bl pa_nil star_c))))))), ?_⟩
  refine ⟨_, rfl, _, rfl, l, _, rfl, .inl (SqL.of hl), ?_⟩
  rw [marksV_length]
  refine ⟨_, _, rfl, rfl, ⟨by omega, by omega⟩, ?_⟩
  refine ⟨_, rfl, _, rfl, l, _, rfl, .inl (SqL.of hl), ?_⟩
  rw [marksV_length]
  refine ⟨_, _, rfl, rfl, (by show (0 : Int) < (Tn : Int); omega), ?_⟩
  refine ⟨_, rfl, _, rfl, .inl ⟨rfl, _, SqL.of hl⟩, l, _, _, rfl, rfl, SqL.of hl, rfl, marksV_flat _ _, ?_⟩
  rw [marksV_count]
  have cl := cntTo_le f Tn
  refine ⟨_, _, rfl, rfl, .inr ⟨?_, ?_⟩, ?_⟩
  · have : (-(2 ^ 64) : Int) = -18446744073709551616 := by decide
    omega
  · have : ((2 ^ 64) : Int) = 18446744073709551616 := by decide
    omega
  refine ⟨_, rfl, _, rfl, _, rfl, l, _, rfl, SqL.of hl, fun p hp => ?_⟩
  have ec : cutV (marksV f Tn) none (some (d % (Tn : Int))) = marksV f (d % (Tn : Int)).toNat := by
    have e : d % (Tn : Int) = (((d % (Tn : Int)).toNat : Nat) : Int) := by omega
    unfold cutV
    rw [HT.sIx_none, marksV_length]
    conv => lhs; rw [e]
    rw [HT.sIx_nat, Nat.min_eq_left (by omega), Nat.sub_zero, List.drop_zero, marksV_take f (by omega)]
  rw [ec]
  have s1 : Same H (upd H p (.lst (marksV f (d % (Tn : Int)).toNat))) := same_new hp _
  refine ⟨.inl ⟨rfl, _, SqL.of upd_same⟩, p, _, _, rfl, rfl, SqL.of upd_same, rfl, marksV_flat _ _, ?_⟩
  rw [marksV_count]
  exact ⟨_, _, rfl, rfl, q _ s1⟩
end
end Lw
set_option Elab.async false
set_option linter.all false
set_option maxRecDepth 100000
namespace Lw
open PySem L2 L3 Fd
seal L2.PSs L2.PS L2.PE L2.PT L2.PW L2.PA L2.PG L2.PGs L2.PI L2.PC
section
variable {P : Program} {w : World} {K : PySem.W.Frag} {mg : Str → Option Value} {base : Heap} {A : Adr}
def spDayAt : Sp := fun vs H Q _ => ∃ (l : Addr) (f : Int → Bool) (T : Nat) (p : Int), vs = [.ref l, .int p] ∧ H l = some (.lst (marksV f T)) ∧ 0 < T ∧ T ≤ 1000000 ∧ ∀ H', Same H H' → (cntTo f T = 0 → Q .non H') ∧ (0 < cntTo f T → Q (.int (dayAt f T p)) H')
theorem sc_day_at : FnScope ["marks", "place", "days"] ["marks", "place"] (defScope sDayAt) := ⟨rfl, rfl, rfl, by decide +kernel, rfl, by decide +kernel, by decide +kernel⟩
theorem lcsc_day_at_0 : LcScope (lcOf (stE ((defBody sDayAt).getD 0 (.Pass ⟨0, 0, 0, 0⟩)))) (defScope sDayAt) ["marks", "place", "days"] ["day", "had"] [] := ⟨rfl, by decide +kernel, by decide +kernel, by decide +kernel, by decide +kernel, by decide +kernel⟩
theorem lcnd_day_at_0 : (lcNames ["marks", "place", "days"] ["day", "had"] []).Nodup := by decide +kernel
set_option maxHeartbeats 1000000 in
theorem ok_dayAt (D : Df K mg "day_at" sDayAt ["marks", "place"]) (T : BltM mg) : Has P w K mg base 1 "day_at" ["marks", "place"] spDayAt := by
  refine D.ok sc_day_at (fun vs H Q E h => ?_) (fun fa cdv Ar outer s H vs Q E hr h => ?_)
  · obtain ⟨l, f, T, d, rfl, _⟩ := h
    rfl
  obtain ⟨l, f, Tn, pl, rfl, hl, T0, T1, q⟩ := h
  have la := marksV_length f Tn
  refine ⟨_, (pss_cons (ps_lcset (i := 2) sc_day_at.nd rfl (Or.inl rfl) (pi_enum rfl T.z_enumerate (pa_cons (pv 0) pa_nil star_n)) ⟨lcsc_day_at_0, rfl, fun cl fp sb Hb => (pg_tup rfl (pgs_cons (pg_name (i := 0) (x := "day") lcnd_day_at_0 rfl (Or.inl rfl)) (pgs_cons (pg_name (i := 1) (x := "had") lcnd_day_at_0 rfl (Or.inl rfl)) pgs_nil))), fun cl fp sb Hb => (pf_one (pt_val (pv 1))), fun cl fp sb Hb => (pv 0)⟩)
    (pss_cons (ps_if (pt_cmpR op_eq (pe_callB call_len_seq rfl T.z_len b_len (pa_cons (pv 2) pa_nil star_n)) pe_int (nomark _)) (pss_one (ps_ret pe_non)) pss_nil)
    (pss_one (ps_ret (pe_op op_add (pe_op op_mul (pe_op op_fdiv (pv 1) (pe_callB call_len_seq rfl T.z_len b_len (pa_cons (pv 2) pa_nil star_n))) (pe_callB call_len_seq rfl T.z_len b_len (pa_cons (pv 0) pa_nil star_n))) (pe_ix ix_list (pv 2) (pe_op op_mod (pv 1) (pe_callB call_len_seq rfl T.z_len b_len (pa_cons (pv 2) pa_nil star_n))) (fun _ _ => rfl))))))), ?_⟩
  refine ⟨_, rfl, l, _, rfl, SqL.of hl, fun D hD cl fp sb Hb => ?_⟩
  refine ⟨fun i m ys σ H' => m = Tn - i ∧ i ≤ Tn ∧ ys = (daysOf f i).map (fun x : Nat => V.int x) ∧ (∃ o1 o2, σ = [o1, o2]) ∧ Same H H' ∧ H' D = some (.lst ys), ⟨_, rfl, Nat.zero_le _, rfl, ⟨_, _, rfl⟩, same_new hD _, upd_same⟩, ?_⟩
  rintro i m ys σ H1 ⟨rfl, hi, rfl, ⟨o1, o2, rfl⟩, s1, hD1⟩
  by_cases hlt : i < Tn
  · refine .inr ⟨⟨SqL.of (s1 _ _ hl), by omega⟩, fun x H2 hy => ?_⟩
    obtain ⟨p, x1, hp, hx, rfl, rfl⟩ := hy
    rw [marksV_get hlt] at hx
    obtain rfl := Option.some.inj hx
    have s2 : Same H1 (upd H1 p (.tup [.int i, .bl (f i)])) := same_new hp _
    refine ⟨p, _, rfl, SqT.of upd_same, rfl, _, _, rfl, _, _, rfl, rfl, _, rfl, _, rfl, ?_⟩
    cases hf : f i with
    | true =>
      have ed : daysOf f (i + 1) = daysOf f i ++ [i] := by rw [days_succ, hf]; rfl
      rw [hf] at s2
      refine iteT ⟨_, rfl, s2 _ _ hD1, ?_, Tn - (i + 1), by omega, rfl, hlt, ?_, ⟨_, _, rfl⟩, (s1.trans s2).upd_new hD _, upd_same⟩
      · rw [List.length_map, days_length]
        exact big_line (by have := cntTo_le f i; omega)
      · rw [ed, List.map_append]
        rfl
    | false =>
      have ed : daysOf f (i + 1) = daysOf f i := by rw [days_succ, hf]; simp
      rw [hf] at s2
      exact iteF ⟨Tn - (i + 1), by omega, rfl, hlt, by rw [ed], ⟨_, _, rfl⟩, s1.trans s2, s2 _ _ hD1⟩
  · have ei : i = Tn := by omega
    subst ei
    refine .inl ⟨⟨SqL.of (s1 _ _ hl), by omega⟩, ?_⟩
    have ld : ((daysOf f i).map (fun x : Nat => V.int x)).length = cntTo f i := by rw [List.length_map, days_length]
    obtain ⟨q0, q1⟩ := q H1 s1
    refine ⟨_, rfl, D, _, rfl, .inl (SqL.of hD1), ?_⟩
    rw [ld]
    refine ⟨rfl, _, rfl, ?_⟩
    rw [decI]
    by_cases hc : ((cntTo f i : Nat) : Int) = 0
    · rw [decide_eq_true hc]
      exact iteT (q0 (by omega))
    · rw [decide_eq_false hc]
      have c0 : 0 < cntTo f i := by omega
      have cl := cntTo_le f i
      have m0 := Int.emod_nonneg pl (b := (cntTo f i : Int)) (by omega)
      have m1 := Int.emod_lt_of_pos pl (b := (cntTo f i : Int)) (by omega)
      refine iteF ⟨_, rfl, _, rfl, D, _, rfl, .inl (SqL.of hD1), ?_⟩
      rw [ld]
      refine ⟨_, _, rfl, rfl, ⟨by omega, by omega⟩, _, rfl, l, _, rfl, .inl (SqL.of (s1 _ _ hl)), ?_⟩
      rw [la]
      refine ⟨_, _, rfl, rfl, .inr ⟨?_, ?_⟩, ?_⟩
      · have : (-(2 ^ 64) : Int) = -18446744073709551616 := by decide
        omega
      · have : ((2 ^ 64) : Int) = 18446744073709551616 := by decide
        omega
      refine ⟨_, rfl, _, rfl, _, rfl, D, _, rfl, .inl (SqL.of hD1), ?_⟩
      rw [ld]
      refine ⟨_, _, rfl, rfl, (by show (0 : Int) < (cntTo f i : Int); omega), D, _, _, _, rfl, rfl, SqL.of hD1, ?_, _, _, rfl, rfl, q1 c0⟩
      have hj : (pl % (cntTo f i : Int)).toNat < (daysOf f i).length := by rw [days_length]; omega
      have e : pl % (cntTo f i : Int) = (((pl % (cntTo f i : Int)).toNat : Nat) : Int) := by omega
      have h1 : ((daysOf f i).map (fun x : Nat => V.int x))[(pl % (cntTo f i : Int)).toNat]? = some (.int ((daysOf f i).getD (pl % (cntTo f i : Int)).toNat 0 : Nat)) := by
        rw [List.getElem?_map, List.getD_eq_getElem?_getD, List.getElem?_eq_getElem hj]
        rfl
      have h2 := atI_nat h1
      rw [← e] at h2
      exact h2
def spNthDay (n : Nat) : Sp := fun vs H Q _ => ∃ (a : Addr) (r : Rule) (d m : Int), vs = [.ref a, .int d, .int m] ∧ RuleAt H a r ∧ Good r ∧ depth r < n ∧ turn r ≤ 1000000 ∧ 1 ≤ m ∧
  ∀ H', Same H H' → (cntTo (on r) (turn r) = 0 → Q .non H') ∧ (0 < cntTo (on r) (turn r) → Q (.int (dayAt (on r) (turn r) (upTo (on r) (turn r) (d + 1) + m - 1))) H')
theorem sc_nth_day : FnScope ["rule", "day", "many", "part", "marks"] ["rule", "day", "many"] (defScope sNthDay) := ⟨rfl, rfl, rfl, by decide +kernel, rfl, by decide +kernel, by decide +kernel⟩
theorem ok_nthDay {n k : Nat} (D : Df K mg "nth_day" sNthDay ["rule", "day", "many"]) (hk : 1 ≤ k) (C_part_of : Has P w K mg base k "part_of" ["rule"] (spPart A n)) (C_marks : HasM P w K mg base k "marks" (Kd.cls A) ["self"] (spMarks A n)) (C_days_up_to : Has P w K mg base 1 "days_up_to" ["marks", "day"] spUpTo) (C_day_at : Has P w K mg base 1 "day_at" ["marks", "place"] spDayAt) :
    Has P w K mg base (k + 1) "nth_day" ["rule", "day", "many"] (spNthDay n) := by
  refine D.ok sc_nth_day (fun vs H Q E h => ?_) (fun f cdv Ar outer s H vs Q E hr h => ?_)
  · obtain ⟨a, r, d, m, rfl, _⟩ := h
    rfl
  obtain ⟨a, r, d, m, rfl, hR, hG, hd, ht, hm, q⟩ := h
  have t0 := turn_pos hG
  refine ⟨_, (pss_cons (ps_set (i := 3) sc_nth_day.nd rfl (Or.inl rfl) (pe_has C_part_of hr (by omega) (pa_cons (pv 0) pa_nil star_n)))
    (pss_cons (ps_if (pt_cmpR op_lt (pv 2) pe_int (nomark _)) (pss_one ps_never) pss_nil)
    (pss_cons (ps_set (i := 4) sc_nth_day.nd rfl (Or.inl rfl) (pe_methD0 C_marks hr (by omega) (pv 3)))
    (pss_one (ps_ret (pe_has C_day_at hr (by omega) (pa_cons (pv 4) (pa_cons (pe_op op_sub (pe_op op_add (pe_has C_days_up_to hr (by omega) (pa_cons (pv 4) (pa_cons (pe_op op_add (pv 1) pe_int) pa_nil star_b) star_n)) (pv 2)) pe_int) pa_nil star_b) star_n))))))), ?_⟩
  refine ⟨_, rfl, a, r, fun _ => none, rfl, hR, hG, hd, ht, (fun b r h => by cases h), fun p G' H1 s1 gn P1 M1 => ?_⟩
  refine ⟨_, rfl, _, _, rfl, rfl, _, rfl, ?_⟩
  rw [decide_eq_false (show ¬ m < 1 by omega)]
  refine iteF ?_
  obtain ⟨dp, fp, hp, lp⟩ := P1.objM
  refine ⟨_, rfl, p, kd r, dp, fp, rfl, hp, lp, p, r, G', rfl, rfl, P1, hG, hd, ht, fun l H2 s2 hl => ?_⟩
  refine ⟨_, rfl, _, rfl, _, rfl, _, _, rfl, rfl, l, on r, turn r, _, rfl, hl, t0, ht, fun H3 s3 => ?_⟩
  refine ⟨_, rfl, _, _, rfl, rfl, _, _, rfl, rfl, l, on r, turn r, _, rfl, s3 _ _ hl, t0, ht, fun H4 s4 => ?_⟩
  exact q H4 (s1.trans (s2.trans (s3.trans s4)))
end
end Lw
set_option Elab.async false
set_option linter.all false
set_option maxRecDepth 100000
namespace Lw
open PySem L2 L3 Fd
seal L2.PSs L2.PS L2.PE L2.PT L2.PW L2.PA L2.PG L2.PGs L2.PI L2.PC
section
variable {P : Program} {w : World} {K : PySem.W.Frag} {mg : Str → Option Value} {base : Heap} {A : Adr}
def spHasDay (n : Nat) : Sp := fun vs H Q _ => ∃ (a : Addr) (r : Rule) (d : Int), vs = [.ref a, .int d] ∧ RuleAt H a r ∧ Good r ∧ depth r < n ∧ turn r ≤ 1000000 ∧ ∀ H', Same H H' → Q (.bl (on r d)) H'
theorem sc_has_day : FnScope ["rule", "day"] ["rule", "day"] (defScope sHasDay) := ⟨rfl, rfl, rfl, by decide +kernel, rfl, by decide +kernel, by decide +kernel⟩
theorem ok_has_day {n k : Nat} (D : Df K mg "has_day" sHasDay ["rule", "day"]) (C_part_of : Has P w K mg base k "part_of" ["rule"] (spPart A n)) (C_has : HasM P w K mg base k "has" (Kd.cls A) ["self", "day"] (spHas A n)) : Has P w K mg base (k + 1) "has_day" ["rule", "day"] (spHasDay n) := by
  refine D.ok sc_has_day (fun vs H Q E h => ?_) (fun f cdv Ar outer s H vs Q E hr h => ?_)
  · obtain ⟨a, r, d, rfl, _⟩ := h
    rfl
  obtain ⟨a, r, d, rfl, hR, hG, hd, ht, q⟩ := h
  refine ⟨_, (pss_one (ps_ret (pe_methD C_has hr (Nat.le_refl _) (pe_has C_part_of hr (Nat.le_refl _) (pa_cons (pv 0) pa_nil star_n)) (pa_cons (pv 1) pa_nil star_n)))), ?_⟩
  refine ⟨_, rfl, a, r, fun _ => none, rfl, hR, hG, hd, ht, (fun b r h => by cases h), fun p G' H' s1 gn P1 M1 => ?_⟩
  obtain ⟨dp, fp, hp, lp⟩ := P1.obj
  refine ⟨p, kd r, dp, fp, rfl, hp, lp, _, rfl, p, r, d, G', rfl, rfl, P1, hG, hd, ht, M1, fun H2 k2 M2 => ?_⟩
  refine q H2 fun b o hb => k2 b o (s1 b o hb) (gn.2 b (by rw [hb]; simp) rfl)
end
end Lw
set_option Elab.async false
set_option linter.all false
set_option maxRecDepth 100000
namespace Lw
open PySem L2 L3 Fd
seal L2.PSs L2.PS L2.PE L2.PT L2.PW L2.PA L2.PG L2.PGs L2.PI L2.PC
def spBad1 (n : Nat) (Ra : Addr) : Sp := spPartX n Ra
def spBad2 (n : Nat) (Ra : Addr) : Sp := fun vs H _ E => ∃ (a : Addr) (r : Rule) (d : Int), vs = [.ref a, .int d] ∧ RuleAt H a r ∧ ¬ Good r ∧ Tn r ∧ depth r < n ∧ ∀ H', Same H H' → E (.ref Ra) none H'
def spBad3 (n : Nat) (Ra : Addr) : Sp := fun vs H _ E => ∃ (a : Addr) (r : Rule) (d m : Int), vs = [.ref a, .int d, .int m] ∧ RuleAt H a r ∧ ¬ Good r ∧ Tn r ∧ depth r < n ∧ ∀ H', Same H H' → E (.ref Ra) none H'
section
variable {P : Program} {w : World} {K : PySem.W.Frag} {mg : Str → Option Value} {base : Heap} {A : Adr} {Ra : Addr} {n k : Nat}
theorem xsc_has_day : FnScope ["rule", "day"] ["rule", "day"] (defScope sHasDay) := ⟨rfl, rfl, rfl, by decide +kernel, rfl, by decide +kernel, by decide +kernel⟩
theorem ok_hasDayX (D : Df K mg "has_day" sHasDay ["rule", "day"]) (C_bad : HasX P w K mg base k "part_of" ["rule"] (spPartX n Ra)) (C_has : HasM P w K mg base k "has" (Kd.cls A) ["self", "day"] (spHas A n)) : HasX P w K mg base (k + 1) "has_day" ["rule", "day"] (spBad2 n Ra) := by
  refine Df.okX D xsc_has_day (fun vs H Q E h => ?_) (fun f cdv Ar outer s H vs Q E hr h => ?_)
  · obtain ⟨a, r, d, rfl, _⟩ := h
    rfl
  obtain ⟨a, r, d, rfl, hR, hG, hT, hd, q⟩ := h
  refine ⟨_, (pss_one (ps_ret (pe_methD C_has hr (by omega) (pe_hasX C_bad hr (by omega) pass_e (pa_cons (pv 0) pa_nil star_n)) (pa_cons (pv 1) pa_nil star_n)))), ?_⟩
  exact ⟨_, rfl, a, r, rfl, hR, hG, hT, hd, q⟩
theorem xsc_turn_of : FnScope ["rule"] ["rule"] (defScope sTurn) := ⟨rfl, rfl, rfl, by decide +kernel, rfl, by decide +kernel, by decide +kernel⟩
theorem ok_turnX (D : Df K mg "turn_of" sTurn ["rule"]) (C_bad : HasX P w K mg base k "part_of" ["rule"] (spPartX n Ra)) : HasX P w K mg base (k + 1) "turn_of" ["rule"] (spBad1 n Ra) := by
  refine Df.okX D xsc_turn_of (fun vs H Q E h => ?_) (fun f cdv Ar outer s H vs Q E hr h => ?_)
  · obtain ⟨a, r, rfl, _⟩ := h
    rfl
  obtain ⟨a, r, rfl, hR, hG, hT, hd, q⟩ := h
  refine ⟨_, (pss_one (ps_ret (pe_fld (pe_hasX C_bad hr (by omega) pass_e (pa_cons (pv 0) pa_nil star_n)) rfl))), ?_⟩
  exact ⟨_, rfl, a, r, rfl, hR, hG, hT, hd, q⟩
theorem xsc_nth_day : FnScope ["rule", "day", "many", "part", "marks"] ["rule", "day", "many"] (defScope sNthDay) := ⟨rfl, rfl, rfl, by decide +kernel, rfl, by decide +kernel, by decide +kernel⟩
theorem ok_nthDayX (D : Df K mg "nth_day" sNthDay ["rule", "day", "many"]) (C_bad : HasX P w K mg base k "part_of" ["rule"] (spPartX n Ra)) : HasX P w K mg base (k + 1) "nth_day" ["rule", "day", "many"] (spBad3 n Ra) := by
  refine Df.okX D xsc_nth_day (fun vs H Q E h => ?_) (fun f cdv Ar outer s H vs Q E hr h => ?_)
  · obtain ⟨a, r, d, m, rfl, _⟩ := h
    rfl
  obtain ⟨a, r, d, m, rfl, hR, hG, hT, hd, q⟩ := h
  refine ⟨_, (pss_cons (ps_set (i := 3) xsc_nth_day.nd rfl (Or.inl rfl) (pe_hasX C_bad hr (by omega) pass_e (pa_cons (pv 0) pa_nil star_n))) pss_never), ?_⟩
  exact ⟨_, rfl, a, r, rfl, hR, hG, hT, hd, q⟩
theorem xsc_next_day : FnScope ["rule", "day"] ["rule", "day"] (defScope sNext) := ⟨rfl, rfl, rfl, by decide +kernel, rfl, by decide +kernel, by decide +kernel⟩
theorem ok_nextX (D : Df K mg "next_day" sNext ["rule", "day"]) (C_nth_day : HasX P w K mg base k "nth_day" ["rule", "day", "many"] (spBad3 n Ra)) : HasX P w K mg base (k + 1) "next_day" ["rule", "day"] (spBad2 n Ra) := by
  refine Df.okX D xsc_next_day (fun vs H Q E h => ?_) (fun f cdv Ar outer s H vs Q E hr h => ?_)
  · obtain ⟨a, r, d, rfl, _⟩ := h
    rfl
  obtain ⟨a, r, d, rfl, hR, hG, hT, hd, q⟩ := h
  refine ⟨_, (pss_one (ps_ret (pe_hasX C_nth_day hr (by omega) pass_e (pa_cons (pv 0) (pa_cons (pv 1) (pa_cons pe_int pa_nil star_c) star_n) star_n)))), ?_⟩
  exact ⟨_, rfl, _, rfl, a, r, d, 1, rfl, hR, hG, hT, hd, q⟩
theorem xsc_day_ahead : FnScope ["rule", "day", "marks"] ["rule", "day"] (defScope sAhead) := ⟨rfl, rfl, rfl, by decide +kernel, rfl, by decide +kernel, by decide +kernel⟩
theorem ok_aheadX (D : Df K mg "day_ahead" sAhead ["rule", "day"]) (C_bad : HasX P w K mg base k "part_of" ["rule"] (spPartX n Ra)) (C_marks : HasM P w K mg base k "marks" (Kd.cls A) ["self"] (spMarks A n)) : HasX P w K mg base (k + 1) "day_ahead" ["rule", "day"] (spBad2 n Ra) := by
  refine Df.okX D xsc_day_ahead (fun vs H Q E h => ?_) (fun f cdv Ar outer s H vs Q E hr h => ?_)
  · obtain ⟨a, r, d, rfl, _⟩ := h
    rfl
  obtain ⟨a, r, d, rfl, hR, hG, hT, hd, q⟩ := h
  refine ⟨_, (pss_cons (ps_set (i := 2) xsc_day_ahead.nd rfl (Or.inl rfl) (pe_methD0 C_marks hr (by omega) (pe_hasX C_bad hr (by omega) pass_e (pa_cons (pv 0) pa_nil star_n)))) pss_never), ?_⟩
  exact ⟨_, rfl, a, r, rfl, hR, hG, hT, hd, q⟩
theorem xsc_how_many : FnScope ["rule", "first", "last", "marks"] ["rule", "first", "last"] (defScope sMany) := ⟨rfl, rfl, rfl, by decide +kernel, rfl, by decide +kernel, by decide +kernel⟩
theorem ok_manyX (D : Df K mg "how_many" sMany ["rule", "first", "last"]) (C_bad : HasX P w K mg base k "part_of" ["rule"] (spPartX n Ra)) (C_marks : HasM P w K mg base k "marks" (Kd.cls A) ["self"] (spMarks A n)) : HasX P w K mg base (k + 1) "how_many" ["rule", "first", "last"] (spBad3 n Ra) := by
  refine Df.okX D xsc_how_many (fun vs H Q E h => ?_) (fun f cdv Ar outer s H vs Q E hr h => ?_)
  · obtain ⟨a, r, d, m, rfl, _⟩ := h
    rfl
  obtain ⟨a, r, d, m, rfl, hR, hG, hT, hd, q⟩ := h
  refine ⟨_, (pss_cons (ps_set (i := 3) xsc_how_many.nd rfl (Or.inl rfl) (pe_methD0 C_marks hr (by omega) (pe_hasX C_bad hr (by omega) pass_e (pa_cons (pv 0) pa_nil star_n)))) pss_never), ?_⟩
  exact ⟨_, rfl, a, r, rfl, hR, hG, hT, hd, q⟩
theorem xsc_shown : FnScope ["rule"] ["rule"] (defScope sShown) := ⟨rfl, rfl, rfl, by decide +kernel, rfl, by decide +kernel, by decide +kernel⟩
theorem ok_shownX (D : Df K mg "shown" sShown ["rule"]) (C_bad : HasX P w K mg base k "part_of" ["rule"] (spPartX n Ra)) : HasX P w K mg base (k + 1) "shown" ["rule"] (spBad1 n Ra) := by
  refine Df.okX D xsc_shown (fun vs H Q E h => ?_) (fun f cdv Ar outer s H vs Q E hr h => ?_)
  · obtain ⟨a, r, rfl, _⟩ := h
    rfl
  obtain ⟨a, r, rfl, hR, hG, hT, hd, q⟩ := h
  refine ⟨_, (pss_cons (ps_expr (pe_hasX C_bad hr (by omega) pass_e (pa_cons (pv 0) pa_nil star_n))) pss_never), ?_⟩
  exact ⟨_, rfl, a, r, rfl, hR, hG, hT, hd, q⟩
end
end Lw
set_option Elab.async false
set_option linter.all false
set_option maxRecDepth 100000
namespace Lw
open PySem L2 L3 Fd
seal L2.PSs L2.PS L2.PE L2.PT L2.PW L2.PA L2.PG L2.PGs L2.PI L2.PC
def spAny1 (n : Nat) : Sp := fun vs H Q _ => ∃ (a : Addr) (r : Rule), vs = [.ref a] ∧ RuleAt H a r ∧ Good r ∧ depth r < n ∧ turn r ≤ 1000000 ∧ ∀ v H', Same H H' → Q v H'
def spAny2 (n : Nat) : Sp := fun vs H Q _ => ∃ (a : Addr) (r : Rule) (d : Int), vs = [.ref a, .int d] ∧ RuleAt H a r ∧ Good r ∧ depth r < n ∧ turn r ≤ 1000000 ∧ ∀ v H', Same H H' → Q v H'
def spAny3 (n : Nat) : Sp := fun vs H Q _ => ∃ (a : Addr) (r : Rule) (d m : Int), vs = [.ref a, .int d, .int m] ∧ m < d ∧ RuleAt H a r ∧ Good r ∧ depth r < n ∧ turn r ≤ 1000000 ∧ ∀ v H', Same H H' → Q v H'
section
variable {P : Program} {w : World} {K : PySem.W.Frag} {mg : Str → Option Value} {base : Heap} {A : Adr} {n k : Nat}
theorem ok_aheadG (D : Df K mg "day_ahead" sAhead ["rule", "day"]) (hk : 1 ≤ k) (C_part_of : Has P w K mg base k "part_of" ["rule"] (spPart A n)) (C_marks : HasM P w K mg base k "marks" (Kd.cls A) ["self"] (spMarks A n)) (C_days_up_to : Has P w K mg base 1 "days_up_to" ["marks", "day"] spUpTo) (C_day_at : Has P w K mg base 1 "day_at" ["marks", "place"] spDayAt) :
    Has P w K mg base (k + 1) "day_ahead" ["rule", "day"] (spAny2 n) := by
  refine D.ok xsc_day_ahead (fun vs H Q E h => ?_) (fun f cdv Ar outer s H vs Q E hr h => ?_)
  · obtain ⟨a, r, d, rfl, _⟩ := h
    rfl
  obtain ⟨a, r, d, rfl, hR, hG, hd, ht, q⟩ := h
  have t0 := turn_pos hG
  refine ⟨_, (pss_cons (ps_set (i := 2) xsc_day_ahead.nd rfl (Or.inl rfl) (pe_methD0 C_marks hr (by omega) (pe_has C_part_of hr (by omega) (pa_cons (pv 0) pa_nil star_n))))
    (pss_one (ps_ret (pe_has C_day_at hr (by omega) (pa_cons (pv 2) (pa_cons (pe_op op_sub (pe_has C_days_up_to hr (by omega) (pa_cons (pv 2) (pa_cons (pv 1) pa_nil star_n) star_n)) pe_int) pa_nil star_b) star_n))))), ?_⟩
  refine ⟨_, rfl, a, r, fun _ => none, rfl, hR, hG, hd, ht, (fun b r h => by cases h), fun p G' H1 s1 gn P1 M1 => ?_⟩
  obtain ⟨dp, fp, hp, lp⟩ := P1.objM
  refine ⟨p, kd r, dp, fp, rfl, hp, lp, p, r, G', rfl, rfl, P1, hG, hd, ht, fun l H2 s2 hl => ?_⟩
  refine ⟨_, rfl, _, rfl, _, rfl, l, on r, turn r, _, rfl, hl, t0, ht, fun H3 s3 => ?_⟩
  refine ⟨_, _, rfl, rfl, l, on r, turn r, _, rfl, s3 _ _ hl, t0, ht, fun H4 s4 => ?_⟩
  have sa := s1.trans (s2.trans (s3.trans s4))
  exact ⟨fun hc => q _ H4 sa, fun hc => q _ H4 sa⟩
theorem ok_manyG (D : Df K mg "how_many" sMany ["rule", "first", "last"]) (C_part_of : Has P w K mg base k "part_of" ["rule"] (spPart A n)) (C_marks : HasM P w K mg base k "marks" (Kd.cls A) ["self"] (spMarks A n)) : Has P w K mg base (k + 1) "how_many" ["rule", "first", "last"] (spAny3 n) := by
  refine D.ok xsc_how_many (fun vs H Q E h => ?_) (fun f cdv Ar outer s H vs Q E hr h => ?_)
  · obtain ⟨a, r, x, y, rfl, _⟩ := h
    rfl
  obtain ⟨a, r, x, y, rfl, hxy, hR, hG, hd, ht, q⟩ := h
  refine ⟨_, (pss_cons (ps_set (i := 3) xsc_how_many.nd rfl (Or.inl rfl) (pe_methD0 C_marks hr (by omega) (pe_has C_part_of hr (by omega) (pa_cons (pv 0) pa_nil star_n))))
    (pss_cons (ps_if (pt_cmpR op_lt (pv 2) (pv 1) (nomark _)) (pss_one (ps_ret pe_int)) pss_nil) pss_never)), ?_⟩
  refine ⟨_, rfl, a, r, fun _ => none, rfl, hR, hG, hd, ht, (fun b r h => by cases h), fun p G' H1 s1 gn P1 M1 => ?_⟩
  obtain ⟨dp, fp, hp, lp⟩ := P1.objM
  refine ⟨p, kd r, dp, fp, rfl, hp, lp, p, r, G', rfl, rfl, P1, hG, hd, ht, fun l H2 s2 hl => ?_⟩
  exact ⟨_, rfl, _, rfl, _, _, rfl, rfl, _, rfl, iteP (decide_eq_true hxy) (q _ H2 (s1.trans s2))⟩
theorem ok_turnG (D : Df K mg "turn_of" sTurn ["rule"]) (T : Ptx K mg A) (C_part_of : Has P w K mg base k "part_of" ["rule"] (spPart A n)) : Has P w K mg base (k + 1) "turn_of" ["rule"] (spAny1 n) := by
  refine D.ok xsc_turn_of (fun vs H Q E h => ?_) (fun f cdv Ar outer s H vs Q E hr h => ?_)
  · obtain ⟨a, r, rfl, _⟩ := h
    rfl
  obtain ⟨a, r, rfl, hR, hG, hd, ht, q⟩ := h
  refine ⟨_, (pss_one (ps_ret (pe_fld (pe_has C_part_of hr (by omega) (pa_cons (pv 0) pa_nil star_n)) rfl))), ?_⟩
  refine ⟨_, rfl, a, r, fun _ => none, rfl, hR, hG, hd, ht, (fun b r h => by cases h), fun p G' H1 s1 gn P1 M1 => ?_⟩
  obtain ⟨C, dx, fs, hp, hC, lt⟩ := P1.turn hG
  exact ⟨p, C, dx, fs, _, rfl, hp, (T.cls hC).1, (T.cls hC).2, lt, q _ H1 s1⟩
end
end Lw
set_option Elab.async false
set_option linter.all false
set_option maxRecDepth 100000
namespace L3
open PySem L2
theorem pe_gstr {X : Cx} {x : Str} {z : Str} {pos : Pos} (hg : Gl X x) (hm : ∃ t, X.mg x = some (.str z t)) (hd : (x == ("__debug__" : Str)) = false := by decide) : PE X (.Name x pos) (tC (.str z)) := by
  obtain ⟨t, hm⟩ := hm
  exact pe_glob hg hm ⟨t, rfl⟩ hd
theorem pe_gref {X : Cx} {x : Str} {a : Addr} {pos : Pos} (hg : Gl X x) (hm : X.mg x = some (.ref a)) (hd : (x == ("__debug__" : Str)) = false := by decide) : PE X (.Name x pos) (tC (.ref a)) := pe_glob hg hm rfl hd
def ifE : Stmt → Expr
  | .If e _ _ _ => e
  | _ => .Constant .none 0 ⟨0, 0, 0, 0⟩
def cmpL : Expr → Expr
  | .Compare e _ _ _ => e
  | _ => .Constant .none 0 ⟨0, 0, 0, 0⟩
end L3
namespace Lw
open PySem L2 L3 Fd
open PyProof.Rows.KTD (datumAt)
seal L2.PSs L2.PS L2.PE L2.PT L2.PW L2.PA L2.PG L2.PGs L2.PI L2.PC
structure Ltx (K : PySem.W.Frag) (mg : Str → Option Value) (aF aW aK f1 f2 f3 : Addr) : Prop extends Blt mg where
  z_str : mg "str" = none
  z_zip : mg "zip" = none
  m_FORMS : mg "FORMS" = some (.ref aF)
  kF : KDict K aF [("every", .ref f1), ("date", .ref f2), ("nth", .ref f3)]
  t1 : ∀ H, SqT K H f1 [.str "every", .str "", .str "from", .str ""]
  t2 : ∀ H, SqT K H f2 [.str "date", .str ""]
  t3 : ∀ H, SqT K H f3 [.str "nth", .str "", .str "weekday", .str ""]
  m_PAIR_WORDS : mg "PAIR_WORDS" = some (.ref aW)
  kW : KDict K aW [("both", .str "and"), ("either", .str "or"), ("but", .str "but"), ("moved", .str "off")]
  m_PAIR_KINDS : mg "PAIR_KINDS" = some (.ref aK)
  kK : KDict K aK [("and", .str "both"), ("or", .str "either"), ("but", .str "but"), ("off", .str "moved")]
  g_NUMBER : ∃ t, mg "NUMBER" = some (.str "" t)
  g_FIGURES : ∃ t, mg "FIGURES" = some (.str "0123456789" t)
  g_PAIR_LENGTH : ∃ t, mg "PAIR_LENGTH" = some (.int 5 t)
def form : Rule → List Str
  | .every _ _ => ["every", "", "from", ""]
  | .date _ => ["date", ""]
  | .nth _ _ => ["nth", "", "weekday", ""]
  | _ => []
def tupV : Rule → List V
  | .every m s => [.str "every", .int m, .int s]
  | .date d => [.str "date", .int d]
  | .nth x k => [.str "nth", .int x, .int k]
  | _ => []
def kindV : Rule → Str
  | .every _ _ => "every"
  | .date _ => "date"
  | .nth _ _ => "nth"
  | .both _ _ => "both"
  | .either _ _ => "either"
  | .but _ _ => "but"
  | .moved _ _ => "moved"
def Plain : Rule → Prop
  | .every _ _ => True
  | .date _ => True
  | .nth _ _ => True
  | _ => False
def plc (i : Nat) : Nat := 1 + i / 2
theorem log_low {n : Int} (h : -(10 ^ 62) < n ∧ n < 10 ^ 62) : n.natAbs.log2 < 1920 := by
  have p : (10 : Int) ^ 62 = ((10 ^ 62 : Nat) : Int) := by norm_cast
  rw [p] at h
  rcases Nat.eq_zero_or_pos n.natAbs with h0 | hp
  · rw [h0]; decide
  · exact (Nat.log2_lt (Nat.ne_of_gt hp)).mpr (Nat.lt_of_lt_of_le (show n.natAbs < 10 ^ 62 by omega) (Nat.le_of_lt (by decide +kernel)))
theorem form_ok {r : Rule} (hP : Plain r) (hL : Low r) {i : Nat} {w : Str} (h : (form r)[i]? = some w) :
    (w = "" ∧ ∃ n, (tupV r)[plc i]? = some (.int n) ∧ (plainWords r)[i]? = some (num n) ∧ plc (i + 1) = plc i + 1 ∧ -(10 ^ 62) < n ∧ n < 10 ^ 62) ∨ (w ≠ "" ∧ (plainWords r)[i]? = some w ∧ plc (i + 1) = plc i) := by
  cases r with
  | every m s =>
    rcases i with _ | _ | _ | _ | i
    · cases h; exact .inr ⟨by decide +kernel, rfl, rfl⟩
    · cases h; exact .inl ⟨rfl, m, rfl, rfl, rfl, hL.1⟩
    · cases h; exact .inr ⟨by decide +kernel, rfl, rfl⟩
    · cases h; exact .inl ⟨rfl, s, rfl, rfl, rfl, hL.2⟩
    · cases h
  | date d =>
    rcases i with _ | _ | i
    · cases h; exact .inr ⟨by decide +kernel, rfl, rfl⟩
    · cases h; exact .inl ⟨rfl, d, rfl, rfl, rfl, hL⟩
    · cases h
  | nth x k =>
    rcases i with _ | _ | _ | _ | i
    · cases h; exact .inr ⟨by decide +kernel, rfl, rfl⟩
    · cases h; exact .inl ⟨rfl, x, rfl, rfl, rfl, hL.1⟩
    · cases h; exact .inr ⟨by decide +kernel, rfl, rfl⟩
    · cases h; exact .inl ⟨rfl, k, rfl, rfl, rfl, hL.2⟩
    · cases h
  | _ => exact hP.elim
theorem form_len {r : Rule} (hP : Plain r) : (plainWords r).length = (form r).length := by
  cases r with
  | every _ _ => rfl
  | date _ => rfl
  | nth _ _ => rfl
  | _ => exact hP.elim
theorem tup_at {H : Hp} {a : Addr} {r : Rule} (hP : Plain r) (h : RuleAt H a r) : H a = some (.tup (tupV r)) := by
  cases r with
  | every _ _ => exact h
  | date _ => exact h
  | nth _ _ => exact h
  | _ => exact hP.elim
section
variable {P : Program} {w : World} {K : PySem.W.Frag} {mg : Str → Option Value} {base : Heap} {A : Adr} {aF aW aK f1 f2 f3 : Addr}
def fAt (f1 f2 f3 : Addr) : Rule → Addr
  | .every _ _ => f1
  | .date _ => f2
  | _ => f3
theorem Ltx.at_ (T : Ltx K mg aF aW aK f1 f2 f3) {r : Rule} (hP : Plain r) : datumAt (kindV r) [("every", V.ref f1), ("date", .ref f2), ("nth", .ref f3)] = some (.ref (fAt f1 f2 f3 r)) ∧ ∀ H, SqT K H (fAt f1 f2 f3 r) ((form r).map V.str) := by
  cases r with
  | every _ _ => exact ⟨by simp [datumAt, kindV, fAt], T.t1⟩
  | date _ => exact ⟨by
      have h : ("date" : Str) ≠ "every" := by decide +kernel
      simp [datumAt, kindV, fAt, h], T.t2⟩
  | nth _ _ => exact ⟨by
      have h : ("nth" : Str) ≠ "every" := by decide +kernel
      have h' : ("nth" : Str) ≠ "date" := by decide +kernel
      simp [datumAt, kindV, fAt, h, h'], T.t3⟩
  | _ => exact hP.elim
theorem kind_at {r : Rule} (hP : Plain r) : atI (tupV r) 0 = some (.str (kindV r)) := by
  cases r with
  | every _ _ => rfl
  | date _ => rfl
  | nth _ _ => rfl
  | _ => exact hP.elim
theorem plain_line {r : Rule} (hP : Plain r) : lineOf r = Str.join sp (plainWords r) := by
  cases r with
  | every m s => exact line_words (.every m s)
  | date d => exact line_words (.date d)
  | nth x k => exact line_words (.nth x k)
  | _ => exact hP.elim
theorem words_weight {r : Rule} (hP : Plain r) (hL : Low r) : ((plainWords r).map (·.length)).sum + (plainWords r).length * 1 ≤ 1000 := by
  have a : ("every" : Str).length = 5 ∧ ("from" : Str).length = 4 ∧ ("date" : Str).length = 4 ∧ ("nth" : Str).length = 3 ∧ ("weekday" : Str).length = 7 := by decide +kernel
  cases r with
  | every m s =>
    have h1 := num_len hL.1
    have h2 := num_len hL.2
    simp only [plainWords, List.map_cons, List.map_nil, List.sum_cons, List.sum_nil, List.length_cons, List.length_nil, a]
    omega
  | date d =>
    have h1 := num_len hL
    simp only [plainWords, List.map_cons, List.map_nil, List.sum_cons, List.sum_nil, List.length_cons, List.length_nil, a]
    omega
  | nth x k =>
    have h1 := num_len hL.1
    have h2 := num_len hL.2
    simp only [plainWords, List.map_cons, List.map_nil, List.sum_cons, List.sum_nil, List.length_cons, List.length_nil, a]
    omega
  | _ => exact hP.elim
def spPlainLine : Sp := fun vs H Q _ => ∃ (a : Addr) (r : Rule), vs = [.ref a] ∧ Plain r ∧ RuleAt H a r ∧ Low r ∧ ∀ H', Same H H' → Q (.str (lineOf r)) H'
theorem sc_plain_line : FnScope ["rule", "words", "place", "told"] ["rule"] (defScope sPlainLine) := ⟨rfl, rfl, rfl, by decide +kernel, rfl, by decide +kernel, by decide +kernel⟩
theorem ok_plainLine (D : Df K mg "plain_line" sPlainLine ["rule"]) (T : Ltx K mg aF aW aK f1 f2 f3) : Has P w K mg base 1 "plain_line" ["rule"] spPlainLine := by
  refine D.ok sc_plain_line (fun vs H Q E h => ?_) (fun fa cdv Ar outer s H vs Q E hr h => ?_)
  · obtain ⟨a, r, rfl, _⟩ := h
    rfl
  obtain ⟨a, r, rfl, hP, hR, hL, q⟩ := h
  refine ⟨_, (pss_cons (ps_set (i := 1) sc_plain_line.nd rfl (Or.inl rfl) (pe_lst pa_nil))
    (pss_cons (ps_set (i := 2) sc_plain_line.nd rfl (Or.inl rfl) pe_int)
    (pss_cons (ps_for PassesOwn.never rfl (pi_tup (pe_kget (pe_gref rfl T.m_FORMS) (pe_ix ix_tup (pv 0) pe_int (fun _ _ => rfl)) (fun _ _ => rfl))) (pg_name (i := 3) sc_plain_line.nd rfl (Or.inl rfl)) (pss_one (ps_if (pt_cmpR op_eq (pv 3) (pe_gstr rfl T.g_NUMBER) (nomark _)) (pss_cons (ps_expr (pe_bm PySem.F.plainAttrs_list PySem.F.slot_list_append PySem.F.type_list_append mt_append (pv 1) (pa_cons (pe_callTy call_str_int rfl T.z_str b_str (pa_cons (pe_ix ix_tup (pv 0) (pv 2) (fun _ _ => rfl)) pa_nil star_s)) pa_nil star_k)))
    (pss_one (ps_set (i := 2) sc_plain_line.nd rfl (Or.inl rfl) (pe_op op_add (pv 2) pe_int)))) (pss_one (ps_expr (pe_bm PySem.F.plainAttrs_list PySem.F.slot_list_append PySem.F.type_list_append mt_append (pv 1) (pa_cons (pv 3) pa_nil star_n)))))))
    (pss_one (ps_ret (pe_bm PySem.F.plainAttrs_str PySem.F.slot_str_join PySem.F.type_str_join mt_join pe_str (pa_cons (pv 1) pa_nil star_n))))))), ?_⟩
  have hR := tup_at hP hR
  obtain ⟨d1, d2⟩ := T.at_ hP
  refine ⟨(by show 0 ≤ sizeLine; decide), fun L hL1 => ?_⟩
  have s1 : Same H (upd H L (.lst [])) := same_new hL1 _
  refine ⟨_, rfl, a, _, _, _, rfl, rfl, SqT.of (s1 _ _ hR), kind_at hP, aF, kindV r, _, _, rfl, rfl, T.kF, d1, _, rfl, ⟨_, d2 _⟩, ?_⟩
  refine for_tup (xs := (form r).map V.str) (fun i σ H' => ∃ o3, σ = [some (.ref a), some (.ref L), some (.int (plc i : Nat)), o3] ∧ H' L = some (.lst (((plainWords r).take i).map V.str)) ∧ Same H H') ⟨_, rfl, upd_same, s1⟩ (fun i σ H' _ _ => d2 H') ?_ ?_
  · rintro i x σ H2 hx ⟨o3, rfl, hl, s2⟩
    rw [List.getElem?_map] at hx
    cases hw : (form r)[i]? with
    | none => rw [hw] at hx; cases hx
    | some wd =>
      rw [hw] at hx
      obtain rfl := Option.some.inj hx
      have hlen : (((plainWords r).take i).map V.str).length < sizeLine := by
        have hle : (plainWords r).length ≤ 4 := by
          rw [form_len hP]
          cases r <;> simp [form]
        rw [List.length_map, List.length_take, sizeLine_eq]
        omega
      rcases form_ok hP hL hw with ⟨rfl, n, e1, e2, e3, e4⟩ | ⟨e0, e2, e3⟩
      · refine ⟨_, rfl, rfl, _, rfl, iteT ?_⟩
        refine ⟨_, rfl, .inl ⟨rfl, _, SqL.of hl⟩, _, rfl, _, rfl, a, _, _, _, rfl, rfl, SqT.of (s2 _ _ hR), atI_nat e1, n, rfl, log_low e4, L, _, _, rfl, rfl, hl, hlen, ?_⟩
        refine ⟨_, rfl, _, _, rfl, rfl, some (.str ""), ?_, ?_, s2.upd_new hL1 _⟩
        · rw [e3]
          rfl
        · rw [upd_same, take_snoc e2, List.map_append]
          rfl
      · refine ⟨_, rfl, rfl, _, rfl, ?_⟩
        have eq0 : decide (V.str wd = V.str "") = false := decide_eq_false fun z => e0 (by injection z)
        rw [eq0]
        refine iteF ⟨_, rfl, .inl ⟨rfl, _, SqL.of hl⟩, _, rfl, L, _, _, rfl, rfl, hl, hlen, ?_⟩
        refine ⟨some (.str wd), ?_, ?_, s2.upd_new hL1 _⟩
        · rw [e3]
          rfl
        · rw [upd_same, take_snoc e2, List.map_append]
          rfl
  · rintro σ H2 ⟨o3, rfl, hl, s2⟩
    rw [List.length_map, ← form_len hP, List.take_length] at hl
    refine ⟨rfl, _, rfl, sp, L, plainWords r, ?_, rfl, SqL.of hl, ?_, ?_⟩
    · rw [← sp_is]
    · exact PyProof.Rows.joinOk_of (by have h1 := words_weight hP hL; have h2 : sp.length = 1 := rfl; rw [h2]; omega)
    · have e : Txt.join sp (plainWords r) = lineOf r := by
        rw [plain_line hP]
        exact StrLaws.glued_eq_join sp _
      rw [e]
      exact q H2 s2
structure Two (H : Hp) (a : Addr) (r : Rule) (k wd : Str) (x y : Rule) (p q : Addr) : Prop where
  at_ : H a = some (.tup [.str k, .ref p, .ref q])
  ax : RuleAt H p x
  ay : RuleAt H q y
  line : lineOf r = "( " ++ lineOf x ++ " " ++ wd ++ " " ++ lineOf y ++ " )"
  lx : Low r → Low x ∧ Low y
  gx : Good r ↔ Good x ∧ Good y
  sz : size r = size x + size y + 1
  dp : depth r = max (depth x) (depth y) + 1
  nf : ∀ {f1 f2 f3 : Addr}, datumAt k [("every", V.ref f1), ("date", .ref f2), ("nth", .ref f3)] = none
  wd_ : datumAt k [("both", V.str "and"), ("either", .str "or"), ("but", .str "but"), ("moved", .str "off")] = some (.str wd)
  wl : wd.length ≤ 3
theorem kinds_ne : ("both" : Str) ≠ "every" ∧ ("both" : Str) ≠ "date" ∧ ("both" : Str) ≠ "nth" ∧ ("either" : Str) ≠ "every" ∧ ("either" : Str) ≠ "date" ∧ ("either" : Str) ≠ "nth" ∧ ("but" : Str) ≠ "every" ∧ ("but" : Str) ≠ "date" ∧ ("but" : Str) ≠ "nth" ∧ ("moved" : Str) ≠ "every" ∧ ("moved" : Str) ≠ "date" ∧ ("moved" : Str) ≠ "nth" ∧
  ("either" : Str) ≠ "both" ∧ ("but" : Str) ≠ "both" ∧ ("but" : Str) ≠ "either" ∧ ("moved" : Str) ≠ "both" ∧ ("moved" : Str) ≠ "either" ∧ ("moved" : Str) ≠ "but" := by decide +kernel
theorem two_of {H : Hp} {a : Addr} {r : Rule} (h : RuleAt H a r) : Plain r ∨ ∃ k wd x y p q, Two H a r k wd x y p q := by
  obtain ⟨a1, a2, a3, a4, a5, a6, a7, a8, a9, b1, b2, b3, b4, b5, b6, b7, b8, b9⟩ := kinds_ne
  cases r with
  | every _ _ => exact .inl True.intro
  | date _ => exact .inl True.intro
  | nth _ _ => exact .inl True.intro
  | both x y => obtain ⟨p, q, h0, h1, h2⟩ := h; exact .inr ⟨"both", "and", x, y, p, q, h0, h1, h2, rfl, id, Iff.rfl, rfl, rfl, by simp [datumAt, a1, a2, a3], by simp [datumAt], by decide +kernel⟩
  | either x y => obtain ⟨p, q, h0, h1, h2⟩ := h; exact .inr ⟨"either", "or", x, y, p, q, h0, h1, h2, rfl, id, Iff.rfl, rfl, rfl, by simp [datumAt, a4, a5, a6], by simp [datumAt, b4], by decide +kernel⟩
  | but x y => obtain ⟨p, q, h0, h1, h2⟩ := h; exact .inr ⟨"but", "but", x, y, p, q, h0, h1, h2, rfl, id, Iff.rfl, rfl, rfl, by simp [datumAt, a7, a8, a9], by simp [datumAt, b5, b6], by decide +kernel⟩
  | moved x y => obtain ⟨p, q, h0, h1, h2⟩ := h; exact .inr ⟨"moved", "off", x, y, p, q, h0, h1, h2, rfl, id, Iff.rfl, rfl, rfl, by simp [datumAt, b1, b2, b3], by simp [datumAt, b7, b8, b9], by decide +kernel⟩
def spLineOf (n : Nat) : Sp := fun vs H Q _ => ∃ (a : Addr) (r : Rule), vs = [.ref a] ∧ RuleAt H a r ∧ Low r ∧ size r ≤ 1000 ∧ depth r < n ∧ ∀ H', Same H H' → Q (.str (lineOf r)) H'
theorem sc_line_of : FnScope ["rule", "kind", "line", "word", "other"] ["rule"] (defScope sLineOf) := ⟨rfl, rfl, rfl, by decide +kernel, rfl, by decide +kernel, by decide +kernel⟩
theorem fits {n : Nat} (h : n ≤ 1000000) : n ≤ sizeLine := by rw [sizeLine_eq]; omega
theorem ok_lineOf {n k : Nat} (hk : 1 ≤ k) (D : Df K mg "line_of" sLineOf ["rule"]) (T : Ltx K mg aF aW aK f1 f2 f3) (C_plain_line : Has P w K mg base 1 "plain_line" ["rule"] spPlainLine) (C_line_of : Has P w K mg base k "line_of" ["rule"] (spLineOf n)) :
    Has P w K mg base (k + 1) "line_of" ["rule"] (spLineOf (n + 1)) := by
  refine D.ok sc_line_of (fun vs H Q E h => ?_) (fun fa cdv Ar outer s H vs Q E hr h => ?_)
  · obtain ⟨a, r, rfl, _⟩ := h
    rfl
  obtain ⟨a, r, rfl, hR, hL, hz, hd, q⟩ := h
  refine ⟨_, (pss_cons (ps_set (i := 1) sc_line_of.nd rfl (Or.inl rfl) (pe_ix ix_tup (pv 0) pe_int (fun _ _ => rfl)))
    (pss_cons (ps_if (pt_cmp (pc_kin (pv 1) (pe_gref rfl T.m_FORMS))) (pss_one (ps_ret (pe_has C_plain_line hr (by omega) (pa_cons (pv 0) pa_nil star_n)))) pss_nil)
    (pss_cons (ps_set (i := 2) sc_line_of.nd rfl (Or.inl rfl) (pe_has C_line_of hr (by omega) (pa_cons (pe_ix ix_tup (pv 0) pe_int (fun _ _ => rfl)) pa_nil star_s)))
    (pss_cons (ps_set (i := 3) sc_line_of.nd rfl (Or.inl rfl) (pe_kget (pe_gref rfl T.m_PAIR_WORDS) (pv 1) (fun _ _ => rfl)))
    (pss_cons (ps_set (i := 4) sc_line_of.nd rfl (Or.inl rfl) (pe_has C_line_of hr (by omega) (pa_cons (pe_ix ix_tup (pv 0) pe_int (fun _ _ => rfl)) pa_nil star_s)))
    (pss_one (ps_ret (pe_fstr (.cons pe_str (.cons (pf_val (pv 2)) (.cons pe_str (.cons (pf_val (pv 3)) (.cons pe_str (.cons (pf_val (pv 4)) (.cons pe_str .nil))))))))))))))), ?_⟩
  rcases two_of hR with hP | ⟨kd, wd, x, y, p, p2, W⟩
  · have hT := tup_at hP hR
    obtain ⟨d1, d2⟩ := T.at_ hP
    refine ⟨_, rfl, a, _, _, _, rfl, rfl, SqT.of hT, kind_at hP, ?_⟩
    refine ⟨_, rfl, aF, kindV r, _, rfl, rfl, T.kF, _, ?_, iteT ?_⟩
    · rw [d1]
      rfl
    · exact ⟨_, rfl, a, r, rfl, hP, hR, hL, q⟩
  · obtain ⟨lx, ly⟩ := W.lx hL
    have Wz := W.sz
    have Wd := W.dp
    refine ⟨_, rfl, a, _, _, _, rfl, rfl, SqT.of W.at_, rfl, ?_⟩
    refine ⟨_, rfl, aF, kd, _, rfl, rfl, T.kF, false, ?_, iteF ?_⟩
    · rw [W.nf]
      rfl
    refine ⟨_, rfl, a, _, _, _, rfl, rfl, SqT.of W.at_, rfl, p, x, rfl, W.ax, lx, by omega, by omega, fun H1 s1 => ?_⟩
    refine ⟨_, rfl, aW, kd, _, _, rfl, rfl, T.kW, W.wd_, ?_⟩
    refine ⟨_, rfl, a, _, _, _, rfl, rfl, SqT.of (s1 _ _ W.at_), rfl, p2, y, rfl, W.ay.mono (.of s1), ly, by omega, by omega, fun H2 s2 => ?_⟩
    have l1 := line_len lx
    have l2 := line_len ly
    have l3 := W.wl
    have c : ("( " : Str).length = 2 ∧ (" " : Str).length = 1 ∧ (" )" : Str).length = 2 := by decide +kernel
    have e0 : Str.empty ++ ("( " : Str) = "( " := Str.empty_append _
    refine ⟨_, rfl, by rw [e0]; decide +kernel, ?_⟩
    rw [e0]
    refine ⟨_, rfl, _, rfl, fits (by omega), _, rfl, fits (by simp only [len_app, c]; omega), ?_⟩
    refine ⟨_, rfl, fits (by simp only [len_app, c]; omega), ?_⟩
    refine ⟨_, rfl, _, rfl, fits (by omega), _, rfl, fits (by simp only [len_app, c]; omega), ?_⟩
    refine ⟨_, rfl, fits (by simp only [len_app, c]; omega), ?_⟩
    refine ⟨_, rfl, _, rfl, fits (by omega), _, rfl, fits (by simp only [len_app, c]; omega), ?_⟩
    refine ⟨_, rfl, fits (by simp only [len_app, c]; omega), fits (by simp only [len_app, c]; omega), ?_⟩
    rw [← W.line]
    exact q H2 (s1.trans s2)
theorem all_line (D : Df K mg "line_of" sLineOf ["rule"]) (T : Ltx K mg aF aW aK f1 f2 f3) (C : Has P w K mg base 1 "plain_line" ["rule"] spPlainLine) : ∀ n : Nat, Has P w K mg base (n + 1) "line_of" ["rule"] (spLineOf n)
  | 0 => by
    obtain ⟨f, fd, F, b, m⟩ := D
    have no : ∀ vs H Q E, ¬ spLineOf 0 vs H Q E := fun vs H Q E h => by
      obtain ⟨a, r, _, _, _, _, h1, _⟩ := h
      omega
    exact ⟨f, fd, ⟨fun vs H Q E h => absurd h (no vs H Q E), fun A outer s H args us vs Q E _ _ _ _ h => absurd h (no vs H Q E)⟩, b, F.kp, m⟩
  | n + 1 => ok_lineOf (by omega) D T C (all_line D T C n)
def spShown (n : Nat) : Sp := fun vs H Q _ => ∃ (a : Addr) (r : Rule), vs = [.ref a] ∧ RuleAt H a r ∧ Good r ∧ Low r ∧ size r ≤ 1000 ∧ depth r < n ∧ turn r ≤ 1000000 ∧ ∀ H', Same H H' → Q (.str (lineOf r)) H'
theorem sc_shown : FnScope ["rule"] ["rule"] (defScope sShown) := ⟨rfl, rfl, rfl, by decide +kernel, rfl, by decide +kernel, by decide +kernel⟩
theorem ok_shown {n k : Nat} (D : Df K mg "shown" sShown ["rule"]) (C_part_of : Has P w K mg base k "part_of" ["rule"] (spPart A n)) (C_line_of : Has P w K mg base k "line_of" ["rule"] (spLineOf n)) : Has P w K mg base (k + 1) "shown" ["rule"] (spShown n) := by
  refine D.ok sc_shown (fun vs H Q E h => ?_) (fun fa cdv Ar outer s H vs Q E hr h => ?_)
  · obtain ⟨a, r, rfl, _⟩ := h
    rfl
  obtain ⟨a, r, rfl, hR, hG, hL, hz, hd, ht, q⟩ := h
  refine ⟨_, (pss_cons (ps_expr (pe_has C_part_of hr (by omega) (pa_cons (pv 0) pa_nil star_n)))
    (pss_one (ps_ret (pe_has C_line_of hr (by omega) (pa_cons (pv 0) pa_nil star_n))))), ?_⟩
  refine ⟨_, rfl, a, r, fun _ => none, rfl, hR, hG, hd, ht, (fun b r h => by cases h), fun p G' H1 s1 gn P1 M1 => ?_⟩
  exact ⟨_, rfl, a, r, rfl, hR.mono (.of s1), hL, hz, hd, fun H2 s2 => q H2 (s1.trans s2)⟩
end
end Lw
set_option Elab.async false
set_option linter.all false
set_option maxRecDepth 100000
namespace Fd
open PySem
def digs (i : Int) : List Nat := (Nat.toDigits 10 i.natAbs).map Char.toNat
def fig (i : Int) : Str := ⟨(digs i).toArray⟩
theorem num_pos {i : Int} (h : 0 ≤ i) : num i = fig i := by
  obtain ⟨m, rfl⟩ := Int.eq_ofNat_of_zero_le h
  exact str_ext (by rw [num_nat]; rfl)
theorem num_below {i : Int} (h : i < 0) : (num i).cps.toList = 45 :: digs i := by
  obtain ⟨m, hm⟩ : ∃ m : Nat, i = -((m + 1 : Nat) : Int) := ⟨(-i - 1).toNat, by omega⟩
  subst hm
  rw [num_neg]
  unfold digs
  rw [show (-((m + 1 : Nat) : Int)).natAbs = m + 1 by omega]
theorem digs_digit {i : Int} {c : Nat} (h : c ∈ digs i) : 48 ≤ c ∧ c ≤ 57 := digit_of h
theorem digs_cons (i : Int) : ∃ c r, digs i = c :: r ∧ (c = 48 → i = 0) := by
  rcases Nat.eq_zero_or_pos i.natAbs with h | h
  · unfold digs
    rw [h]
    exact ⟨48, [], rfl, fun _ => by omega⟩
  · obtain ⟨c, r, e, hc⟩ := head_digit h
    exact ⟨c, r, e, fun z => absurd z hc⟩
theorem digs_val (i : Int) : (valOf (digs i) : Int) = i.natAbs := by unfold digs; rw [val_digits]
theorem starts_neg (i : Int) : (decide (0 + ("-" : Str).length ≤ (num i).length) && Builtin.Str.subAt (num i) "-" 0) = decide (i < 0) := by
  have e : ("-" : Str) = ⟨#[45]⟩ := by decide +kernel
  rw [e, StrLaws.subAt_eq]
  have hl : ∀ s : Str, s.length = s.cps.toList.length := fun s => by simp [Str.length]
  rw [hl (num i)]
  by_cases h : i < 0
  · rw [num_below h]
    simp [h, Str.length]
  · rw [num_pos (by omega)]
    obtain ⟨c, r, e2, _⟩ := digs_cons i
    have e3 : (fig i).cps.toList = c :: r := by rw [← e2]; rfl
    have hc := digs_digit (i := i) (c := c) (by rw [e2]; exact List.mem_cons_self)
    rw [e3]
    have : c ≠ 45 := by omega
    simp [h, this, Str.length]
theorem cut_one {i : Int} (h : i < 0) : Txt.slice (num i) (some 1) none = fig i := by
  have e := num_below h
  have hl : (num i).length = (digs i).length + 1 := by
    have : (num i).length = (num i).cps.toList.length := by simp [Str.length]
    rw [this, e]
    rfl
  have idx : Builtin.Str.strSliceIndices (some 1) none 1 (num i).length = Builtin.Str.strSliceIndices (some ((1 : Nat) : Int)) (some (((num i).length : Nat) : Int)) 1 (num i).length := by
    unfold Builtin.Str.strSliceIndices
    have h1 : ¬ (((num i).length : Nat) : Int) < 0 := by omega
    have h2 : max (0 : Int) (min (((num i).length : Nat) : Int) (((num i).length : Nat) : Int)) = (((num i).length : Nat) : Int) := by omega
    simp only [h1, if_false, h2, show (1 : Int) > 0 from by decide, if_true]
    rfl
  have pk := StrLaws.sliced_plain (num i) (a := 1) (b := (num i).length) (by omega) (Nat.le_refl _)
  have len : (Builtin.Str.strSliceIndices (some ((1 : Nat) : Int)) (some (((num i).length : Nat) : Int)) 1 (num i).length).length = (num i).length - 1 := by
    rw [StrLaws.strSliceIndices_plain (by omega) (Nat.le_refl _)]
    simp
  unfold Txt.slice
  rw [idx, len, pk, e]
  have ne : ((num i).length - 1 == (num i).length) = false := by simp; omega
  rw [ne]
  simp only [Bool.and_false, Bool.false_eq_true, if_false]
  rw [hl]
  show (⟨(List.take ((digs i).length + 1 - 1) (digs i)).toArray⟩ : Str) = fig i
  rw [Nat.add_sub_cancel, List.take_length]
  rfl
theorem in_figures : ∀ k : Nat, k < 10 → (Builtin.Str.occurrences ("0123456789" : Str) ⟨#[48 + k]⟩ 0 ("0123456789" : Str).length 1).isEmpty = false := by decide +kernel
theorem int_figure : ∀ k : Nat, k < 10 → PySem.intText? ⟨#[48 + k]⟩ = some (k : Int) := by decide +kernel
theorem val_snoc (cs : List Nat) (c : Nat) : valOf (cs ++ [c]) = valOf cs * 10 + (c - 48) := by
  unfold valOf
  rw [List.foldl_append]
  rfl
end Fd
namespace Lw
open PySem L2 L3 Fd
open PyProof.Rows.KTD (datumAt)
seal L2.PSs L2.PS L2.PE L2.PT L2.PW L2.PA L2.PG L2.PGs L2.PI L2.PC
section
variable {P : Program} {w : World} {K : PySem.W.Frag} {mg : Str → Option Value} {base : Heap} {A : Adr} {aF aW aK f1 f2 f3 : Addr}
theorem join_by {U : L2.St → Hp → Prop} {G : Prop} (J : L2.St → Hp → Prop) (h1 : (∀ σ' H', J σ' H' → U σ' H') → G) (h2 : ∀ σ' H', J σ' H' → U σ' H') : G := h1 h2
def spNumber : Sp := fun vs H Q _ => ∃ i : Int, vs = [.str (num i)] ∧ -(10 ^ 62) < i ∧ i < 10 ^ 62 ∧ Q (.int i) H
theorem sc_number_of : FnScope ["word", "figures", "number", "figure"] ["word"] (defScope sNumber) := ⟨rfl, rfl, rfl, by decide +kernel, rfl, by decide +kernel, by decide +kernel⟩
theorem ok_number (D : Df K mg "number_of" sNumber ["word"]) (T : Ltx K mg aF aW aK f1 f2 f3) : Has P w K mg base 1 "number_of" ["word"] spNumber := by
  refine D.ok sc_number_of (fun vs H Q E h => ?_) (fun fa cdv Ar outer s H vs Q E hr h => ?_)
  · obtain ⟨i, rfl, _⟩ := h
    rfl
  obtain ⟨i, rfl, i0, i1, q⟩ := h
  refine ⟨_, (pss_cons (ps_set (i := 1) sc_number_of.nd rfl (Or.inl rfl) (pe_ifExp (pt_val (pe_bm PySem.F.plainAttrs_str PySem.F.slot_str_startswith PySem.F.type_str_startswith mt_startswith (pv 0) (pa_cons pe_str pa_nil star_c))) (pe_slice sl_str (pv 0) (po_some pe_int) po_none) (pv 0)))
    (pss_cons (ps_if (PW.pt (pw_or (pt_cmpR op_eq (pv 1) pe_str (nomark _)) (pw_or1 (PW.pt (pw_and (pt_cmpR op_eq (pe_ix ix_str (pv 1) pe_int (fun _ _ => rfl)) pe_str (nomark _)) (pw_and1 (pt_cmpR op_ne (pv 0) pe_str (nomark _)))))))) (pss_one ps_never) pss_nil)
    (pss_cons (ps_set (i := 2) sc_number_of.nd rfl (Or.inl rfl) pe_int)
    (pss_cons (ps_for PassesOwn.never rfl (pi_str (pv 1)) (pg_name (i := 3) sc_number_of.nd rfl (Or.inl rfl)) (pss_cons (ps_if (pt_cmpR op_notIn_str (pv 3) (pe_gstr rfl T.g_FIGURES) (by with_unfolding_all rfl)) (pss_one ps_never) pss_nil)
    (pss_one (ps_set (i := 2) sc_number_of.nd rfl (Or.inl rfl) (pe_op op_add (pe_op op_mul (pv 2) pe_int) (pe_callTy call_int_text rfl T.z_int b_int (pa_cons (pv 3) pa_nil star_n)))))))
    (pss_one (ps_ret (pe_ifExp (pt_val (pe_bm PySem.F.plainAttrs_str PySem.F.slot_str_startswith PySem.F.type_str_startswith mt_startswith (pv 0) (pa_cons pe_str pa_nil star_c))) (pe_un un_neg (pv 2)) (pv 2)))))))), ?_⟩
  have nl := num_len ⟨i0, i1⟩
  obtain ⟨c0, r0, ed, hc0⟩ := digs_cons i
  have ef : (fig i).cps.toList = c0 :: r0 := by rw [← ed]; rfl
  have hlf : (fig i).length ≤ sizeLine := by
    have h1 : (fig i).length ≤ (num i).length := by
      by_cases h : i < 0
      · have e1 : (num i).length = (num i).cps.toList.length := by simp [Str.length]
        have e2 : (fig i).length = (digs i).length := by simp [Str.length, fig]
        rw [e1, e2, num_below h]
        simp
      · rw [num_pos (by omega)]
        exact Nat.le_refl _
    exact fits (by omega)
  have asc : (fig i).cps.all (· < 128) = true := by
    rw [Array.all_eq_true_iff_forall_mem]
    intro c hc
    have := digs_digit (i := i) (c := c) (by simpa [fig] using hc)
    simp
    omega
  refine' join_by (fun σ' H' => σ' = [some (.str (num i)), some (.str (fig i)), none, none] ∧ H = H') (fun R => ?a1) ?b1
  case a1 =>
    refine ⟨_, rfl, rfl, _, _, rfl, rfl, _, rfl, ?_⟩
    rw [starts_neg]
    by_cases h : i < 0
    · rw [decide_eq_true h]
      refine iteT ⟨_, rfl, _, rfl, _, rfl, fits (by omega), ?_⟩
      rw [cut_one h]
      exact R _ _ ⟨rfl, rfl⟩
    · rw [decide_eq_false h]
      refine iteF ⟨_, rfl, ?_⟩
      have e := num_pos (i := i) (by omega)
      refine R _ _ ⟨?_, rfl⟩
      show [some (V.str (num i)), some (.str (num i)), none, none] = _
      conv => lhs; rhs; lhs; rw [e]
  rintro σ' H' ⟨rfl, rfl⟩
  have ne : decide (V.str (fig i) = V.str "") = false := decide_eq_false fun z => by
    injection z with z
    have := congrArg (fun t : Str => t.cps.toList) z
    have e0 : ("" : Str).cps.toList = [] := by decide +kernel
    rw [ef, e0] at this
    cases this
  refine' join_by (fun σ' H' => σ' = [some (.str (num i)), some (.str (fig i)), none, none] ∧ H = H') (fun R => ?a2) ?b2
  case a2 =>
    refine ⟨_, rfl, rfl, _, rfl, ?_⟩
    rw [ne]
    refine iteF ⟨_, rfl, _, 0, c0, rfl, rfl, hlf, by rw [ef]; exact atI_nat (j := 0) rfl, rfl, _, rfl, ?_⟩
    by_cases h : c0 = 48
    · have hi := hc0 h
      subst h
      refine iteP (by decide +kernel) ⟨_, rfl, rfl, _, rfl, ?_⟩
      have e0 : (!decide (V.str (num i) = V.str "0")) = false := by rw [hi]; decide +kernel
      rw [e0]
      exact iteF (R _ _ ⟨rfl, rfl⟩)
    · have e0 : decide (V.str ⟨#[c0]⟩ = V.str "0") = false := decide_eq_false fun z => by
        injection z with z
        have := congrArg (fun t : Str => t.cps.toList) z
        have e48 : ("0" : Str).cps.toList = [48] := by decide +kernel
        rw [e48] at this
        exact h (by simpa using this)
      rw [e0]
      exact iteF (iteF (R _ _ ⟨rfl, rfl⟩))
  rintro σ' H' ⟨rfl, rfl⟩
  refine ⟨_, rfl, fig i, rfl, asc, for_str (x := fig i) (fun j σ H' => ∃ o3, σ = [some (.str (num i)), some (.str (fig i)), some (.int (valOf ((digs i).take j) : Nat)), o3] ∧ H' = H) ⟨_, rfl, rfl⟩ ?_ ?_⟩
  · rintro j c σ H2 hc ⟨o3, rfl, rfl⟩
    have hcd : (digs i)[j]? = some c := by simpa [fig] using hc
    obtain ⟨d1, d2⟩ := digs_digit (List.mem_of_getElem? hcd)
    obtain ⟨k, rfl⟩ : ∃ k, c = 48 + k := ⟨c - 48, by omega⟩
    refine ⟨_, rfl, _, _, rfl, rfl, _, rfl, ?_⟩
    rw [in_figures k (by omega)]
    refine iteF ⟨_, rfl, _, _, rfl, rfl, .inr ⟨by decide, by decide⟩, _, rfl, _, _, rfl, int_figure k (by omega), by show 1 ≤ 640; decide, _, _, rfl, rfl, some (.str ⟨#[48 + k]⟩), ?_, rfl⟩
    rw [take_snoc hcd, val_snoc]
    have e : ((valOf ((digs i).take j) * 10 + (48 + k - 48) : Nat) : Int) = (valOf ((digs i).take j) : Int) * 10 + (k : Int) := by omega
    rw [e]
    rfl
  · rintro σ H2 ⟨o3, rfl, rfl⟩
    have el : (fig i).cps.size = (digs i).length := by simp [fig]
    rw [el, List.take_length]
    refine ⟨_, rfl, rfl, _, _, rfl, rfl, _, rfl, ?_⟩
    rw [starts_neg, digs_val]
    by_cases h : i < 0
    · rw [decide_eq_true h]
      refine iteT ⟨_, rfl, _, rfl, ?_⟩
      show Q (.int (-((i.natAbs : Nat) : Int))) H2
      rw [show -((i.natAbs : Nat) : Int) = i by omega]
      exact q
    · rw [decide_eq_false h]
      refine iteF ⟨_, rfl, ?_⟩
      rw [show ((i.natAbs : Nat) : Int) = i by omega]
      exact q
theorem rule_new {H : Hp} {p : Addr} {r : Rule} (hP : Plain r) (h : H p = some (.tup (tupV r))) : RuleAt H p r := by
  cases r with
  | every _ _ => exact h
  | date _ => exact h
  | nth _ _ => exact h
  | _ => exact hP.elim
theorem plc_end {r : Rule} (hP : Plain r) : (tupV r).take (plc (form r).length) = tupV r := by
  cases r with
  | every _ _ => simp [plc, form, tupV]
  | date _ => simp [plc, form, tupV]
  | nth _ _ => simp [plc, form, tupV]
  | _ => exact hP.elim
theorem plc_one {r : Rule} (hP : Plain r) : (tupV r).take (plc 0) = [.str (kindV r)] ∧ atI ((plainWords r).map V.str) 0 = some (.str (kindV r)) := by
  cases r with
  | every _ _ => exact ⟨rfl, rfl⟩
  | date _ => exact ⟨rfl, rfl⟩
  | nth _ _ => exact ⟨rfl, rfl⟩
  | _ => exact hP.elim
def spPlainRule (K : PySem.W.Frag) (f1 f2 f3 : Addr) : Sp := fun vs H Q _ => ∃ (l : Addr) (r : Rule), vs = [.ref (fAt f1 f2 f3 r), .ref l] ∧ Plain r ∧ Low r ∧ SqL K H l ((plainWords r).map V.str) ∧ ∀ p H', Same H H' → RuleAt H' p r → Q (.ref p) H'
theorem sc_plain_rule : FnScope ["form", "words", "found", "told", "word"] ["form", "words"] (defScope sPlainRule) := ⟨rfl, rfl, rfl, by decide +kernel, rfl, by decide +kernel, by decide +kernel⟩
theorem ok_plainRule (D : Df K mg "plain_rule" sPlainRule ["form", "words"]) (T : Ltx K mg aF aW aK f1 f2 f3) (C_number_of : Has P w K mg base 1 "number_of" ["word"] spNumber) : Has P w K mg base 2 "plain_rule" ["form", "words"] (spPlainRule K f1 f2 f3) := by
  refine D.ok sc_plain_rule (fun vs H Q E h => ?_) (fun fa cdv Ar outer s H vs Q E hr h => ?_)
  · obtain ⟨l, r, rfl, _⟩ := h
    rfl
  obtain ⟨l, r, rfl, hP, hL, hl, q⟩ := h
  refine ⟨_, (pss_cons (ps_if (pt_cmpR op_ne (pe_callB call_len_seq rfl T.z_len b_len (pa_cons (pv 1) pa_nil star_n)) (pe_callB call_len_seq rfl T.z_len b_len (pa_cons (pv 0) pa_nil star_n)) (nomark _)) (pss_one ps_never) pss_nil)
    (pss_cons (ps_set (i := 2) sc_plain_rule.nd rfl (Or.inl rfl) (pe_lst (pa_cons (pe_ix ix_list (pv 1) pe_int (fun _ _ => rfl)) pa_nil star_s)))
    (pss_cons (ps_for PassesOwn.never rfl (pi_zipT rfl T.z_zip (pa_cons (pv 0) (pa_cons (pv 1) pa_nil star_n) star_n)) (pg_tup rfl (pgs_cons (pg_name (i := 3) sc_plain_rule.nd rfl (Or.inl rfl)) (pgs_cons (pg_name (i := 4) sc_plain_rule.nd rfl (Or.inl rfl)) pgs_nil))) (pss_one (ps_if (pt_cmpR op_eq (pv 3) (pe_gstr rfl T.g_NUMBER) (nomark _)) (pss_one (ps_expr (pe_bm PySem.F.plainAttrs_list PySem.F.slot_list_append PySem.F.type_list_append mt_append (pv 2) (pa_cons (pe_has C_number_of hr (by decide) (pa_cons (pv 4) pa_nil star_n)) pa_nil star_k)))) (pss_one (ps_if (pt_cmpR op_ne (pv 4) (pv 3) (nomark _)) (pss_one ps_never) pss_nil)))))
    (pss_one (ps_ret (pe_callTy call_tuple_of rfl T.z_tuple b_tuple (pa_cons (pv 2) pa_nil star_n))))))), ?_⟩
  have hF : ∀ H, SqT K H (fAt f1 f2 f3 r) ((form r).map V.str) := (T.at_ hP).2
  have le := form_len hP
  refine ⟨_, rfl, l, _, rfl, .inl hl, _, rfl, _, _, rfl, .inr (hF _), rfl, _, rfl, ?_⟩
  rw [List.length_map, List.length_map, le]
  refine iteNS rfl ?_
  refine ⟨_, rfl, l, _, _, _, rfl, rfl, hl, (plc_one hP).2, (by show 1 ≤ sizeLine; decide), fun fl hfl => ?_⟩
  have s1 := same_new hfl (.lst [.str (kindV r)])
  refine ⟨_, rfl, _, rfl, _, l, _, _, rfl, hF _, s1.seq hl, for_zipT (xs := (form r).map V.str) (ys := (plainWords r).map V.str) (fun i σ H' => ∃ o3 o4, σ = [some (.ref (fAt f1 f2 f3 r)), some (.ref l), some (.ref fl), o3, o4] ∧ H' fl = some (.lst ((tupV r).take (plc i))) ∧ Same H H')
    ⟨_, _, rfl, by rw [upd_same, (plc_one hP).1], s1⟩ (fun i σ H' h => ⟨hF _, ?_⟩) (by rw [List.length_map, List.length_map, le]) ?_ ?_⟩
  · obtain ⟨_, _, _, _, sh⟩ := h
    exact sh.seq hl
  · rintro i x y p σ H2 hx hy ⟨o3, o4, rfl, h2, s2⟩ hp
    obtain ⟨wd, hw, rfl⟩ := map_get hx
    obtain ⟨wd2, hw2, rfl⟩ := map_get hy
    have e2 := same_new hp (.tup [.str wd, .str wd2])
    refine ⟨p, _, rfl, SqT.of upd_same, rfl, _, _, rfl, _, _, rfl, rfl, ?_⟩
    rcases form_ok hP hL hw with ⟨rfl, n, e3, e4, e5, e6, e7⟩ | ⟨e0, e4, e5⟩
    · rw [hw2] at e4
      obtain rfl := Option.some.inj e4
      refine ⟨_, rfl, rfl, _, rfl, iteT ?_⟩
      refine ⟨_, rfl, .inl ⟨rfl, _, SqL.of (e2 _ _ h2)⟩, _, rfl, n, rfl, e6, e7, fl, _, _, rfl, rfl, e2 _ _ h2, ?_, _, _, rfl, ?_, (s2.trans e2).upd_new hfl _⟩
      · rw [List.length_take, sizeLine_eq]
        have : (tupV r).length ≤ 3 := by cases r <;> simp [tupV]
        omega
      · rw [upd_same, e5, take_snoc e3]
    · rw [hw2] at e4
      obtain rfl := Option.some.inj e4
      have eq0 : decide (V.str wd2 = V.str "") = false := decide_eq_false fun z => e0 (by injection z)
      refine ⟨_, rfl, rfl, _, rfl, ?_⟩
      rw [eq0]
      refine iteF ⟨_, rfl, _, rfl, rfl, _, rfl, iteNS rfl ⟨_, _, rfl, ?_, s2.trans e2⟩⟩
      rw [e5]
      exact e2 _ _ h2
  · rintro σ H2 ⟨o3, o4, rfl, h2, s2⟩
    rw [List.length_map, plc_end hP] at h2
    exact ⟨_, rfl, fl, _, rfl, .inl ⟨SqL.of h2, fun p hp => q p _ (s2.trans (same_new hp _)) (rule_new hP upd_same)⟩⟩
end
end Lw
set_option Elab.async false
set_option linter.all false
set_option maxRecDepth 100000
namespace Lw
open PySem L2 L3 Fd
open PyProof.Rows.KTD (datumAt)
seal L2.PSs L2.PS L2.PE L2.PT L2.PW L2.PA L2.PG L2.PGs L2.PI L2.PC
def TkOk : Tk → Prop
  | .pl r => Plain r ∧ Low r
  | .wd s => ∀ {f1 f2 f3 : Addr}, datumAt s [("every", V.ref f1), ("date", .ref f2), ("nth", .ref f3)] = none
theorem wd_none {s : Str} (h1 : s ≠ "every") (h2 : s ≠ "date") (h3 : s ≠ "nth") : TkOk (.wd s) := by
  intro f1 f2 f3
  simp [datumAt, h1, h2, h3]
theorem toks_ok : ∀ {r : Rule}, Low r → ∀ t ∈ toks r, TkOk t := by
  have pair : ∀ (c : Str) (x y : Rule), TkOk (.wd c) → (∀ t ∈ toks x, TkOk t) → (∀ t ∈ toks y, TkOk t) → ∀ t ∈ [Tk.wd "("] ++ toks x ++ [Tk.wd c] ++ toks y ++ [Tk.wd ")"], TkOk t := by
    intro c x y hc hx hy t ht
    simp only [List.mem_append, List.mem_singleton] at ht
    rcases ht with (((rfl | ht) | rfl) | ht) | rfl
    · exact wd_none (by decide +kernel) (by decide +kernel) (by decide +kernel)
    · exact hx t ht
    · exact hc
    · exact hy t ht
    · exact wd_none (by decide +kernel) (by decide +kernel) (by decide +kernel)
  intro r
  induction r with
  | every m s => intro hL t ht; obtain rfl := List.mem_singleton.mp ht; exact ⟨True.intro, hL⟩
  | date d => intro hL t ht; obtain rfl := List.mem_singleton.mp ht; exact ⟨True.intro, hL⟩
  | nth x k => intro hL t ht; obtain rfl := List.mem_singleton.mp ht; exact ⟨True.intro, hL⟩
  | both x y hx hy => intro hL; exact pair "and" x y (wd_none (by decide +kernel) (by decide +kernel) (by decide +kernel)) (hx hL.1) (hy hL.2)
  | either x y hx hy => intro hL; exact pair "or" x y (wd_none (by decide +kernel) (by decide +kernel) (by decide +kernel)) (hx hL.1) (hy hL.2)
  | but x y hx hy => intro hL; exact pair "but" x y (wd_none (by decide +kernel) (by decide +kernel) (by decide +kernel)) (hx hL.1) (hy hL.2)
  | moved x y hx hy => intro hL; exact pair "off" x y (wd_none (by decide +kernel) (by decide +kernel) (by decide +kernel)) (hx hL.1) (hy hL.2)
def off (ts : List Tk) (j : Nat) : Nat := ((ts.take j).flatMap tkWords).length
theorem off_drop {ts : List Tk} {j : Nat} {t : Tk} (h : ts[j]? = some t) : (ts.flatMap tkWords).drop (off ts j) = tkWords t ++ (ts.drop (j + 1)).flatMap tkWords := by
  have hj : j < ts.length := by
    rcases Nat.lt_or_ge j ts.length with z | z
    · exact z
    · rw [List.getElem?_eq_none z] at h; cases h
  have e : ts = ts.take j ++ t :: ts.drop (j + 1) := by
    have h2 := List.drop_eq_getElem_cons hj
    rw [List.getElem?_eq_getElem hj] at h
    rw [Option.some.inj h] at h2
    rw [← h2, List.take_append_drop]
  have e2 : ts.flatMap tkWords = (ts.take j).flatMap tkWords ++ (tkWords t ++ (ts.drop (j + 1)).flatMap tkWords) := by
    conv => lhs; rw [e]
    rw [List.flatMap_append, List.flatMap_cons]
  rw [e2]
  exact List.drop_left
theorem off_succ {ts : List Tk} {j : Nat} {t : Tk} (h : ts[j]? = some t) : off ts (j + 1) = off ts j + (tkWords t).length := by
  unfold off
  rw [take_snoc h, List.flatMap_append, List.length_append]
  simp
theorem off_end (ts : List Tk) : off ts ts.length = (ts.flatMap tkWords).length := by
  unfold off
  rw [List.take_length]
theorem off_le (ts : List Tk) (j : Nat) : off ts j ≤ (ts.flatMap tkWords).length := by
  have e := List.take_append_drop j ts
  unfold off
  conv => rhs; rw [← e, List.flatMap_append, List.length_append]
  exact Nat.le_add_right _ _
def ItemAt (H : Hp) (v : V) : Tk → Prop
  | .pl r => ∃ p, v = .ref p ∧ RuleAt H p r
  | .wd s => v = .str s
theorem ItemAt.mono {H H' : Hp} (k : TupKeep H H') {v : V} {t : Tk} (h : ItemAt H v t) : ItemAt H' v t := by
  cases t with
  | pl r => obtain ⟨p, e, h⟩ := h; exact ⟨p, e, h.mono k⟩
  | wd s => exact h
theorem cut_words {ts : List Tk} {j : Nat} {t : Tk} (h : ts[j]? = some t) : cutV ((ts.flatMap tkWords).map V.str) (some ((off ts j : Nat) : Int)) (some (((off ts j + (tkWords t).length : Nat)) : Int)) = (tkWords t).map V.str := by
  have hd := off_drop h
  have hl : off ts j + (tkWords t).length ≤ (ts.flatMap tkWords).length := by
    have := congrArg List.length hd
    rw [List.length_drop, List.length_append] at this
    have := off_le ts j
    omega
  unfold cutV
  rw [List.length_map, HT.sIx_nat, HT.sIx_nat, Nat.min_eq_left hl, Nat.min_eq_left (off_le ts j), ← List.map_drop, hd, ← List.map_take, Nat.add_sub_cancel_left, List.take_left]
section
variable {P : Program} {w : World} {K : PySem.W.Frag} {mg : Str → Option Value} {base : Heap} {A : Adr} {aF aW aK f1 f2 f3 : Addr}
def spItems (K : PySem.W.Frag) : Sp := fun vs H Q _ => ∃ (l : Addr) (ts : List Tk), vs = [.ref l] ∧ SqL K H l ((ts.flatMap tkWords).map V.str) ∧ (∀ t ∈ ts, TkOk t) ∧ (ts.flatMap tkWords).length ≤ 1000000 ∧
  ∀ b its H', Same H H' → H' b = some (.lst its) → Rel (ItemAt H') its ts → Q (.ref b) H'
theorem sc_items_of : FnScope ["words", "items", "place", "word", "form"] ["words"] (defScope sItems) := ⟨rfl, rfl, rfl, by decide +kernel, rfl, by decide +kernel, by decide +kernel⟩
theorem words_pos {t : Tk} (h : TkOk t) : 0 < (tkWords t).length := by
  cases t with
  | pl r =>
    obtain ⟨hP, _⟩ := h
    show 0 < (plainWords r).length
    rw [form_len hP]
    cases r with
    | every _ _ => exact Nat.succ_pos _
    | date _ => exact Nat.succ_pos _
    | nth _ _ => exact Nat.succ_pos _
    | _ => exact hP.elim
  | wd s => exact Nat.one_pos
theorem ok_items (D : Df K mg "items_of" sItems ["words"]) (T : Ltx K mg aF aW aK f1 f2 f3) (C_plain_rule : Has P w K mg base 2 "plain_rule" ["form", "words"] (spPlainRule K f1 f2 f3)) : Has P w K mg base 3 "items_of" ["words"] (spItems K) := by
  refine D.ok sc_items_of (fun vs H Q E h => ?_) (fun fa cdv Ar outer s H vs Q E hr h => ?_)
  · obtain ⟨l, ts, rfl, _⟩ := h
    rfl
  obtain ⟨l, ts, rfl, hS, hok, hlen, q⟩ := h
  refine ⟨_, (pss_cons (ps_set (i := 1) sc_items_of.nd rfl (Or.inl rfl) (pe_lst pa_nil))
    (pss_cons (ps_set (i := 2) sc_items_of.nd rfl (Or.inl rfl) pe_int)
    (pss_cons (ps_while PassesOwn.never (pt_cmpR op_lt (pv 2) (pe_callB call_len_seq rfl T.z_len b_len (pa_cons (pv 0) pa_nil star_n)) (nomark _)) (pss_cons (ps_set (i := 3) sc_items_of.nd rfl (Or.inl rfl) (pe_ix ix_list (pv 0) (pv 2) (fun _ _ => rfl)))
    (pss_one (ps_if (pt_cmp (pc_kin (pv 3) (pe_gref rfl T.m_FORMS))) (pss_cons (ps_set (i := 4) sc_items_of.nd rfl (Or.inl rfl) (pe_kget (pe_gref rfl T.m_FORMS) (pv 3) (fun _ _ => rfl)))
    (pss_cons (ps_expr (pe_bm PySem.F.plainAttrs_list PySem.F.slot_list_append PySem.F.type_list_append mt_append (pv 1) (pa_cons (pe_has C_plain_rule hr (by decide) (pa_cons (pv 4) (pa_cons (pe_slice sl_list (pv 0) (po_some (pv 2)) (po_some (pe_op op_add (pv 2) (pe_callB call_len_seq rfl T.z_len b_len (pa_cons (pv 4) pa_nil star_n))))) pa_nil star_s) star_n)) pa_nil star_k)))
    (pss_one (ps_set (i := 2) sc_items_of.nd rfl (Or.inl rfl) (pe_op op_add (pv 2) (pe_callB call_len_seq rfl T.z_len b_len (pa_cons (pv 4) pa_nil star_n))))))) (pss_cons (ps_expr (pe_bm PySem.F.plainAttrs_list PySem.F.slot_list_append PySem.F.type_list_append mt_append (pv 1) (pa_cons (pv 3) pa_nil star_n)))
    (pss_one (ps_set (i := 2) sc_items_of.nd rfl (Or.inl rfl) (pe_op op_add (pv 2) pe_int))))))))
    (pss_one (ps_ret (pv 1)))))), ?_⟩
  refine ⟨(by show 0 ≤ sizeLine; decide), fun il hil => ?_⟩
  have s1 : Same H (upd H il (.lst [])) := same_new hil _
  refine ⟨fun m σ H' => ∃ (j : Nat) (its : List V) (o3 o4 : Option V), m = ts.length - j ∧ j ≤ ts.length ∧ σ = [some (.ref l), some (.ref il), some (.int (off ts j : Nat)), o3, o4] ∧ H' il = some (.lst its) ∧ Rel (ItemAt H') its (ts.take j) ∧ Same H H' ∧ its.length ≤ off ts j,
    ⟨_, 0, [], _, _, rfl, Nat.zero_le _, rfl, upd_same, Rel.nil, s1, Nat.le_refl _⟩, ?_⟩
  rintro m σ H2 ⟨j, its, o3, o4, rfl, hj, rfl, h2, hr2, s2, hc2⟩
  have hS2 := s2.seq hS
  refine ⟨_, rfl, _, rfl, l, _, rfl, .inl hS2, _, _, rfl, rfl, _, rfl, ?_⟩
  rw [List.length_map]
  by_cases hlt : j < ts.length
  · have ht := List.getElem?_eq_getElem hlt
    have hk := hok _ (List.mem_of_getElem? ht)
    have hd := off_drop ht
    have hp := words_pos hk
    have ho := off_le ts j
    have hsz : its.length < sizeLine := by
      rw [sizeLine_eq]
      omega
    have es := off_succ ht
    have lo := off_le ts (j + 1)
    rw [decide_eq_true (show ((off ts j : Nat) : Int) < (((ts.flatMap tkWords).length : Nat) : Int) by omega)]
    refine iteT ⟨fun σ' H' => ∃ m', m' < ts.length - j ∧ ∃ (j : Nat) (its : List V) (o3 o4 : Option V), m' = ts.length - j ∧ j ≤ ts.length ∧ σ' = [some (.ref l), some (.ref il), some (.int (off ts j : Nat)), o3, o4] ∧ H' il = some (.lst its) ∧ Rel (ItemAt H') its (ts.take j) ∧ Same H H' ∧ its.length ≤ off ts j, fun _ _ h => h, ?_⟩
    have at_ : ∀ {x : Str} {ws : List Str}, tkWords ts[j] = x :: ws → atI ((ts.flatMap tkWords).map V.str) ((off ts j : Nat) : Int) = some (.str x) := fun {x ws} e => by
      refine atI_nat ?_
      have h1 : (ts.flatMap tkWords)[off ts j]? = some x := by
        have := congrArg (fun z : List Str => z[0]?) hd
        simp only [List.getElem?_drop, e] at this
        simpa using this
      rw [List.getElem?_map, h1]
      rfl
    have cw := cut_words ht
    generalize et : ts[j] = t at ht hk hd hp es at_ cw
    cases t with
    | pl r =>
      obtain ⟨hP, hL⟩ := hk
      obtain ⟨d1, d2⟩ := T.at_ hP
      have ew : ∃ ws, tkWords (.pl r) = kindV r :: ws := by
        cases r with
        | every _ _ => exact ⟨_, rfl⟩
        | date _ => exact ⟨_, rfl⟩
        | nth _ _ => exact ⟨_, rfl⟩
        | _ => exact hP.elim
      obtain ⟨ws, ew⟩ := ew
      have lf : ((form r).map V.str).length = (tkWords (.pl r)).length := by rw [List.length_map]; exact (form_len hP).symm
      refine ⟨_, rfl, _, rfl, l, _, _, _, rfl, rfl, hS2, at_ ew, ?_⟩
      refine ⟨_, rfl, aF, kindV r, _, rfl, rfl, T.kF, true, by rw [d1]; rfl, iteT ?_⟩
      refine ⟨_, rfl, aF, kindV r, _, _, rfl, rfl, T.kF, d1, ?_⟩
      refine ⟨_, rfl, .inl ⟨rfl, _, SqL.of h2⟩, _, rfl, _, rfl, _, rfl, _, rfl, _, rfl, _, rfl, _, _, rfl, .inr (d2 _), _, _, rfl, rfl, _, rfl, l, _, rfl, hS2, fun sl hsl => ?_⟩
      have ec : cutV ((ts.flatMap tkWords).map V.str) (some ((off ts j : Nat) : Int)) (some (((off ts j : Nat) : Int) + ((((form r).map V.str).length : Nat) : Int))) = (plainWords r).map V.str := by
        rw [lf, ← Int.natCast_add]
        exact cw
      rw [ec]
      have e3 := same_new hsl (.lst ((plainWords r).map V.str))
      refine ⟨sl, r, rfl, hP, hL, SqL.of upd_same, fun p H3 e4 hR3 => ?_⟩
      have e34 := e3.trans e4
      refine ⟨il, _, _, rfl, rfl, e34 _ _ h2, hsz, ?_⟩
      refine ⟨_, rfl, _, rfl, _, _, rfl, .inr (d2 _), _, _, rfl, rfl, ts.length - (j + 1), by omega, j + 1, its ++ [.ref p], some (.str (kindV r)), some (.ref (fAt f1 f2 f3 r)), rfl, hlt, ?_, upd_same, ?_, (s2.trans e34).upd_new hil _, ?_⟩
      · rw [es, ← lf, Int.natCast_add]
        rfl
      · have k1 : TupKeep H3 (upd H3 il (.lst (its ++ [.ref p]))) := TupKeep.lst (e34 _ _ h2) _
        rw [take_snoc ht]
        exact Rel.snoc (hr2.mono fun a b h => h.mono ((TupKeep.of e34).trans k1)) ⟨p, rfl, hR3.mono k1⟩
      · rw [List.length_append, es]
        simp
        omega
    | wd x =>
      refine ⟨_, rfl, _, rfl, l, _, _, _, rfl, rfl, hS2, at_ (x := x) (ws := []) rfl, ?_⟩
      refine ⟨_, rfl, aF, x, _, rfl, rfl, T.kF, false, by rw [hk]; rfl, iteF ?_⟩
      refine ⟨_, rfl, .inl ⟨rfl, _, SqL.of h2⟩, _, rfl, il, _, _, rfl, rfl, h2, hsz, ?_⟩
      refine ⟨_, rfl, _, _, rfl, rfl, ts.length - (j + 1), by omega, j + 1, its ++ [.str x], some (.str x), o4, rfl, hlt, ?_, upd_same, ?_, s2.upd_new hil _, ?_⟩
      · rw [es, Int.natCast_add]
        rfl
      · have k1 : TupKeep H2 (upd H2 il (.lst (its ++ [.str x]))) := TupKeep.lst h2 _
        rw [take_snoc ht]
        exact Rel.snoc (hr2.mono fun a b h => h.mono k1) rfl
      · rw [List.length_append, es]
        simp
        omega
  · have ej : j = ts.length := by omega
    subst ej
    rw [off_end, decide_eq_false (by omega)]
    rw [List.take_length] at hr2
    exact iteF ⟨_, rfl, q il its H2 s2 h2 hr2⟩
end
end Lw
set_option Elab.async false
set_option linter.all false
set_option maxRecDepth 100000
namespace Lw
open PySem L2 L3 Fd
open PyProof.Rows.KTD (datumAt)
seal L2.PSs L2.PS L2.PE L2.PT L2.PW L2.PA L2.PG L2.PGs L2.PI L2.PC
theorem always_r {σ : L2.St} {H : Hp} {A B : Hp → Prop} (h : A H) : tAlways σ H (fun ok H4 => if ok = true then A H4 else B H4) := by
  show if true = true then A H else B H
  exact iteT h
theorem one_same {K : PySem.W.Frag} (t : Value) : PySem.W.kitOne K t t = some true := by
  unfold PySem.W.kitOne
  rw [if_pos (beq_self_eq_true t)]
structure KitS (K : PySem.W.Frag) : Prop where
  st : PySem.W.subIn K (.type "str") (.type "tuple") = some false
  it : PySem.W.subIn K (.type "int") (.type "tuple") = some false
  is : PySem.W.subIn K (.type "int") (.type "str") = some false
  ib : PySem.W.subIn K (.type "int") (.type "bool") = some false
theorem KitS.st1 {K : PySem.W.Frag} (k : KitS K) : PySem.W.kitOne K (.type "str") (.type "tuple") = some false := kit_no (by decide +kernel) (by decide +kernel) k.st
theorem rule_tup {H : Hp} {p : Addr} {r : Rule} (h : RuleAt H p r) : ∃ xs, H p = some (.tup xs) := by
  cases r with
  | every _ _ => exact ⟨_, h⟩
  | date _ => exact ⟨_, h⟩
  | nth _ _ => exact ⟨_, h⟩
  | both _ _ => obtain ⟨_, _, h, _⟩ := h; exact ⟨_, h⟩
  | either _ _ => obtain ⟨_, _, h, _⟩ := h; exact ⟨_, h⟩
  | but _ _ => obtain ⟨_, _, h, _⟩ := h; exact ⟨_, h⟩
  | moved _ _ => obtain ⟨_, _, h, _⟩ := h; exact ⟨_, h⟩
theorem pair_new {wd : Str} {x y r : Rule} (h : pairOf wd x y = some r) : ∃ k : Str, datumAt wd [("and", V.str "both"), ("or", .str "either"), ("but", .str "but"), ("off", .str "moved")] = some (.str k) ∧
    ∀ (H : Hp) (t p q : Addr), H t = some (.tup [.str k, .ref p, .ref q]) → RuleAt H p x → RuleAt H q y → RuleAt H t r := by
  have n : ("or" : Str) ≠ "and" ∧ ("but" : Str) ≠ "and" ∧ ("but" : Str) ≠ "or" ∧ ("off" : Str) ≠ "and" ∧ ("off" : Str) ≠ "or" ∧ ("off" : Str) ≠ "but" := by decide +kernel
  obtain ⟨n1, n2, n3, n4, n5, n6⟩ := n
  unfold pairOf at h
  by_cases h1 : wd = "and"
  · subst h1
    rw [if_pos rfl] at h
    cases h
    exact ⟨"both", by simp [datumAt], fun H t p q e a b => ⟨p, q, e, a, b⟩⟩
  rw [if_neg h1] at h
  by_cases h2 : wd = "or"
  · subst h2
    rw [if_pos rfl] at h
    cases h
    exact ⟨"either", by simp [datumAt, n1], fun H t p q e a b => ⟨p, q, e, a, b⟩⟩
  rw [if_neg h2] at h
  by_cases h3 : wd = "but"
  · subst h3
    rw [if_pos rfl] at h
    cases h
    exact ⟨"but", by simp [datumAt, n2, n3], fun H t p q e a b => ⟨p, q, e, a, b⟩⟩
  rw [if_neg h3] at h
  by_cases h4 : wd = "off"
  · subst h4
    rw [if_pos rfl] at h
    cases h
    exact ⟨"moved", by simp [datumAt, n4, n5, n6], fun H t p q e a b => ⟨p, q, e, a, b⟩⟩
  rw [if_neg h4] at h
  cases h
section
variable {P : Program} {w : World} {K : PySem.W.Frag} {mg : Str → Option Value} {base : Heap} {A : Adr} {aF aW aK f1 f2 f3 : Addr}
def fiveV (p q : Addr) (wd : Str) : List V := [.str "(", .ref p, .str wd, .ref q, .str ")"]
def spPairRule : Sp := fun vs H Q _ => ∃ (l p q : Addr) (wd : Str) (x y r : Rule), vs = [.ref l] ∧ H l = some (.lst (fiveV p q wd)) ∧ RuleAt H p x ∧ RuleAt H q y ∧ pairOf wd x y = some r ∧ ∀ t H', Same H H' → RuleAt H' t r → Q (.ref t) H'
theorem sc_pair_rule : FnScope ["items"] ["items"] (defScope sPairRule) := ⟨rfl, rfl, rfl, by decide +kernel, rfl, by decide +kernel, by decide +kernel⟩
theorem lcsc_pair_rule_0 : LcScope (lcOf (cmpL (ifE ((defBody sPairRule).getD 0 (.Pass ⟨0, 0, 0, 0⟩))))) (defScope sPairRule) ["items"] ["item"] [] := ⟨rfl, by decide +kernel, by decide +kernel, by decide +kernel, by decide +kernel, by decide +kernel⟩
theorem lcnd_pair_rule_0 : (lcNames ["items"] ["item"] []).Nodup := by decide +kernel
def kindsV : List V := [.bl false, .bl true, .bl false, .bl true, .bl false]
theorem ok_pairRule (D : Df K mg "pair_rule" sPairRule ["items"]) (T : Ltx K mg aF aW aK f1 f2 f3) (k : KitS K) : Has P w K mg base 1 "pair_rule" ["items"] spPairRule := by
  refine D.ok sc_pair_rule (fun vs H Q E h => ?_) (fun fa cdv Ar outer s H vs Q E hr h => ?_)
  · obtain ⟨l, p, q, wd, x, y, r, rfl, _⟩ := h
    rfl
  obtain ⟨l, p, p2, wd, x, y, r, rfl, hl, hx, hy, hw, q⟩ := h
  refine ⟨_, (pss_cons (ps_if (pt_cmpR (op_neL (hu0 hr)) (pe_lc (pi_list (pv 0)) ⟨lcsc_pair_rule_0, rfl, fun cl fp sb Hb => (pg_name (i := 0) (x := "item") lcnd_pair_rule_0 rfl (Or.inl rfl)), fun cl fp sb Hb => pf_nil, fun cl fp sb Hb => (pe_isinst T.z_isinstance T.z_tuple b_tuple (pv 0))⟩) (pe_lst (pa_cons pe_bl (pa_cons pe_bl (pa_cons pe_bl (pa_cons pe_bl (pa_cons pe_bl pa_nil star_c) star_c) star_c) star_c) star_c)) (nomark _)) (pss_one ps_never) pss_nil)
    (pss_cons (ps_if (PW.pt (pw_or (pt_cmpR op_ne (pe_ix ix_list (pv 0) pe_int (fun _ _ => rfl)) pe_str (nomark _)) (pw_or1 (pt_cmp (pc_knotin (pe_ix ix_list (pv 0) pe_int (fun _ _ => rfl)) (pe_gref rfl T.m_PAIR_KINDS)))))) (pss_one ps_never) pss_nil)
    (pss_one (ps_ret (pe_tup (pa_cons (pe_kget (pe_gref rfl T.m_PAIR_KINDS) (pe_ix ix_list (pv 0) pe_int (fun _ _ => rfl)) (fun _ _ => rfl)) (pa_cons (pe_ix ix_list (pv 0) pe_int (fun _ _ => rfl)) (pa_cons (pe_ix ix_list (pv 0) pe_int (fun _ _ => rfl)) pa_nil star_s) star_s) star_s)))))), ?_⟩
  obtain ⟨xs, hp⟩ := rule_tup hx
  obtain ⟨ys, hp2⟩ := rule_tup hy
  obtain ⟨kd, dk, new⟩ := pair_new hw
  refine ⟨_, rfl, l, rfl, ⟨_, SqL.of hl⟩, fun D1 hD1 cl fp sb Hb => ?_⟩
  refine list_turns (xs := fiveV p p2 wd) [] (fun i ys H' => ys = kindsV.take i) rfl (by show 5 < 1000; decide) (SqL.of hl) hD1 rfl ?_ ?_
  · rintro i v ys H1 Y N hv s1 h1 rfl y1 _
    have fin : ∀ b : Bool, kindsV[i]? = some (.bl b) → Y (.bl b) H1 := fun b e => y1 _ _ (Same.refl _) (by rw [take_snoc e])
    rcases i with _ | _ | _ | _ | _ | i
    · cases hv; exact always_r ⟨_, rfl, _, _, .str _, k.st1, fin _ rfl⟩
    · cases hv; exact always_r ⟨_, rfl, _, _, .tup (s1 _ _ hp), one_same _, fin _ rfl⟩
    · cases hv; exact always_r ⟨_, rfl, _, _, .str _, k.st1, fin _ rfl⟩
    · cases hv; exact always_r ⟨_, rfl, _, _, .tup (s1 _ _ hp2), one_same _, fin _ rfl⟩
    · cases hv; exact always_r ⟨_, rfl, _, _, .str _, k.st1, fin _ rfl⟩
    · cases hv
  · rintro ys H1 s1 h1 rfl
    refine ⟨(by show 5 ≤ sizeLine; decide), fun b hb => ⟨D1, b, _, _, rfl, rfl, SqL.of ((same_new hb _) _ _ h1), SqL.of upd_same, rfl, rfl, _, rfl, iteF ?_⟩⟩
    have s2 := s1.trans (same_new hb (.lst [.bl false, .bl true, .bl false, .bl true, .bl false]))
    have hl2 := s2 _ _ hl
    refine ⟨_, rfl, l, _, _, _, rfl, rfl, SqL.of hl2, rfl, rfl, _, rfl, iteNS rfl ?_⟩
    refine ⟨_, rfl, l, _, _, _, rfl, rfl, SqL.of hl2, rfl, aK, wd, _, rfl, rfl, T.kK, false, by rw [dk]; rfl, iteF ?_⟩
    refine ⟨_, rfl, l, _, _, _, rfl, rfl, SqL.of hl2, rfl, aK, wd, _, _, rfl, rfl, T.kK, dk, _, rfl, l, _, _, _, rfl, rfl, SqL.of hl2, rfl, _, rfl, l, _, _, _, rfl, rfl, SqL.of hl2, rfl, (by show 3 ≤ sizeLine; decide), fun t ht => ?_⟩
    have s3 := s2.trans (same_new ht (.tup [.str kd, .ref p, .ref p2]))
    exact q t _ s3 (new _ t p p2 upd_same (hx.mono (.of s3)) (hy.mono (.of s3)))
def SkAt (H : Hp) (v : V) : Sk → Prop
  | .ru r => ∃ p, v = .ref p ∧ RuleAt H p r
  | .wd s => v = .str s
theorem SkAt.mono {H H' : Hp} (k : TupKeep H H') {v : V} {t : Sk} (h : SkAt H v t) : SkAt H' v t := by
  cases t with
  | ru r => obtain ⟨p, e, h⟩ := h; exact ⟨p, e, h.mono k⟩
  | wd s => exact h
theorem rel_snoc {α β : Type} {R : α → β → Prop} {as : List α} {bs : List β} {b : β} (h : Rel R as (bs ++ [b])) : ∃ as' a, as = as' ++ [a] ∧ Rel R as' bs ∧ R a b := by
  have hl := h.1
  rw [List.length_append, List.length_singleton] at hl
  have ne : as ≠ [] := fun e => by rw [e] at hl; simp at hl
  have ea := List.dropLast_concat_getLast ne
  have la : as.dropLast.length = bs.length := by rw [List.length_dropLast]; omega
  refine ⟨as.dropLast, as.getLast ne, ea.symm, ⟨la, fun i x y e1 e2 => ?_⟩, ?_⟩
  · refine h.2 i x y ?_ ?_
    · rw [List.getElem?_dropLast] at e1
      split at e1
      · exact e1
      · cases e1
    · have hi : i < bs.length := by
        rcases Nat.lt_or_ge i bs.length with z | z
        · exact z
        · rw [List.getElem?_eq_none z] at e2; cases e2
      rw [List.getElem?_append_left hi]
      exact e2
  · refine h.2 bs.length _ _ ?_ (by simp)
    rw [show bs.length = as.length - 1 by omega, ← List.getLast?_eq_getElem?, List.getLast?_eq_some_getLast ne]
theorem cut_five (ks five : List V) (h : five.length = 5) : cutV (ks ++ five) (some (-5)) none = five := by
  unfold cutV
  rw [HT.sIx_none]
  have e : HT.sIx (ks ++ five).length 0 (some (-5)) = ks.length := by
    show (if (-5 : Int) < 0 then ((-5 : Int) + (((ks ++ five).length : Nat) : Int)).toNat else min (-5 : Int).toNat (ks ++ five).length) = ks.length
    rw [if_pos (by decide), List.length_append, h]
    omega
  rw [e, List.drop_left, List.length_append, Nat.add_sub_cancel_left, List.take_length]
theorem pop_take {xs : List V} {n : Nat} (h : n < xs.length) : (xs.take (n + 1))[(xs.take (n + 1)).length - 1]? = some xs[n] ∧ (xs.take (n + 1)).dropLast = xs.take n := by
  have hl : (xs.take (n + 1)).length = n + 1 := by rw [List.length_take]; omega
  constructor
  · rw [hl, Nat.add_sub_cancel, List.getElem?_take]
    rw [if_pos (Nat.lt_succ_self n), List.getElem?_eq_getElem h]
  · rw [List.dropLast_eq_take, hl, Nat.add_sub_cancel, List.take_take, Nat.min_eq_left (Nat.le_succ n)]
def spRuleOf (K : PySem.W.Frag) : Sp := fun vs H Q _ => ∃ (l : Addr) (its : List V) (ts : List Tk) (r : Rule), vs = [.ref l] ∧ SqL K H l its ∧ Rel (ItemAt H) its ts ∧ ts.length ≤ 1000000 ∧ run [] ts = some [.ru r] ∧ ∀ p H', Same H H' → RuleAt H' p r → Q (.ref p) H'
theorem sc_rule_of : FnScope ["items", "kept", "item", "pair", "closed"] ["items"] (defScope sRuleOf) := ⟨rfl, rfl, rfl, by decide +kernel, rfl, by decide +kernel, by decide +kernel⟩
set_option maxHeartbeats 4000000 in
theorem ok_ruleOf (D : Df K mg "rule_of" sRuleOf ["items"]) (T : Ltx K mg aF aW aK f1 f2 f3) (C_pair_rule : Has P w K mg base 1 "pair_rule" ["items"] spPairRule) : Has P w K mg base 2 "rule_of" ["items"] (spRuleOf K) := by
  refine D.ok sc_rule_of (fun vs H Q E h => ?_) (fun fa cdv Ar outer s H vs Q E hr h => ?_)
  · obtain ⟨l, its, ts, r, rfl, _⟩ := h
    rfl
  obtain ⟨l, its, ts, r, rfl, hS, hI, hlen, hrun, q⟩ := h
  refine ⟨_, (pss_cons (ps_set (i := 1) sc_rule_of.nd rfl (Or.inl rfl) (pe_lst pa_nil))
    (pss_cons (ps_for PassesOwn.never rfl (pi_list (pv 0)) (pg_name (i := 2) sc_rule_of.nd rfl (Or.inl rfl)) (pss_cons (ps_expr (pe_bm PySem.F.plainAttrs_list PySem.F.slot_list_append PySem.F.type_list_append mt_append (pv 1) (pa_cons (pv 2) pa_nil star_n)))
    (pss_one (ps_if (pt_cmpR (op_eqT (hu0 hr)) (pv 2) pe_str (nomark _)) (pss_cons (ps_set (i := 3) sc_rule_of.nd rfl (Or.inl rfl) (pe_has C_pair_rule hr (by decide) (pa_cons (pe_slice sl_list (pv 1) (po_some (pe_un un_neg (pe_gint rfl T.g_PAIR_LENGTH))) po_none) pa_nil star_s)))
    (pss_cons (ps_for PassesOwn.never rfl (pi_range1 rfl T.z_range (pa_cons (pe_gint rfl T.g_PAIR_LENGTH) pa_nil star_n)) (pg_name (i := 4) sc_rule_of.nd rfl (Or.inl rfl)) (pss_one (ps_expr (pe_bm0 PySem.F.plainAttrs_list PySem.F.slot_list_pop PySem.F.type_list_pop mt_pop (pv 1)))))
    (pss_one (ps_expr (pe_bm PySem.F.plainAttrs_list PySem.F.slot_list_append PySem.F.type_list_append mt_append (pv 1) (pa_cons (pv 3) pa_nil star_n)))))) pss_nil))))
    (pss_cons (ps_if (PW.pt (pw_or (pt_cmpR op_ne (pe_callB call_len_seq rfl T.z_len b_len (pa_cons (pv 1) pa_nil star_n)) pe_int (nomark _)) (pw_or1 (pt_not (pt_val (pe_isinst T.z_isinstance T.z_tuple b_tuple (pe_ix ix_list (pv 1) pe_int (fun _ _ => rfl)))))))) (pss_one ps_never) pss_nil)
    (pss_one (ps_ret (pe_ix ix_list (pv 1) pe_int (fun _ _ => rfl))))))), ?_⟩
  refine ⟨(by show 0 ≤ sizeLine; decide), fun kl hkl => ?_⟩
  have s1 : Same H (upd H kl (.lst [])) := same_new hkl _
  refine ⟨_, rfl, l, rfl, ⟨_, s1.seq hS⟩, for_list (xs := its) (fun i σ H' => ∃ (st : List Sk) (ks : List V) (o2 o3 o4 : Option V), run [] (ts.take i) = some st ∧ σ = [some (.ref l), some (.ref kl), o2, o3, o4] ∧ H' kl = some (.lst ks) ∧ Rel (SkAt H') ks st.reverse ∧ Same H H' ∧ ks.length ≤ i)
    ⟨[], [], _, _, _, rfl, rfl, upd_same, Rel.nil, s1, Nat.le_refl _⟩ (fun i σ H' _ h => ?_) ?_ ?_⟩
  · obtain ⟨_, _, _, _, _, _, _, _, _, sh, _⟩ := h
    exact sh.seq hS
  · rintro i v σ H2 hv ⟨st, ks, o2, o3, o4, hst, rfl, hk, hrel, s2, hc⟩
    obtain ⟨t, ht, hit⟩ := hI.get hv
    obtain ⟨a, b, ha, hb, hn⟩ := run_steps hrun ht
    rw [hst] at ha
    obtain rfl := Option.some.inj ha
    have hi : i < its.length := by
      rcases Nat.lt_or_ge i its.length with z | z
      · exact z
      · rw [List.getElem?_eq_none z] at hv; cases hv
    have hil := hI.1
    have hit2 := hit.mono (.of s2)
    have k1 : TupKeep H2 (upd H2 kl (.lst (ks ++ [v]))) := TupKeep.lst hk _
    have s3 : Same H (upd H2 kl (.lst (ks ++ [v]))) := s2.upd_new hkl _
    refine ⟨_, rfl, .inl ⟨rfl, _, SqL.of hk⟩, _, rfl, kl, _, _, rfl, rfl, hk, by rw [sizeLine_eq]; omega, ?_⟩
    cases t with
    | pl r' =>
      obtain ⟨p, rfl, hp⟩ := hit2
      obtain ⟨xs, hx⟩ := rule_tup (hp.mono k1)
      obtain rfl : .ru r' :: st = b := Option.some.inj hb
      refine ⟨_, rfl, _, rfl, .inr ⟨p, xs, rfl, SqT.of hx, _, rfl, iteF ⟨_, ks ++ [.ref p], _, _, _, hn, rfl, upd_same, ?_, s3, ?_⟩⟩⟩
      · rw [List.reverse_cons]
        exact Rel.snoc (hrel.mono fun a b h => h.mono k1) ⟨p, rfl, hp.mono k1⟩
      · rw [List.length_append]
        simp
        omega
    | wd x =>
      obtain rfl : v = .str x := hit2
      by_cases hx : x = ")"
      · subst hx
        have hb' : Fd.step st (.wd ")") = some b := hb
        have shape : ∃ y wd x st' r', st = .ru y :: .wd wd :: .ru x :: .wd "(" :: st' ∧ pairOf wd x y = some r' ∧ b = .ru r' :: st' := by
          unfold Fd.step at hb'
          dsimp only at hb'
          rw [if_pos rfl] at hb'
          split at hb'
          · rename_i y wd x o st'
            by_cases ho : o = "("
            · subst ho
              rw [if_pos rfl] at hb'
              cases hp : pairOf wd x y with
              | none => rw [hp] at hb'; cases hb'
              | some r' => rw [hp] at hb'; exact ⟨y, wd, x, st', r', rfl, hp, (Option.some.inj hb').symm⟩
            · rw [if_neg ho] at hb'; cases hb'
          · cases hb'
        obtain ⟨y, wd, x, st', r', rfl, hpr, rfl⟩ := shape
        simp only [List.reverse_cons, List.append_assoc, List.cons_append, List.nil_append] at hrel
        rw [show st'.reverse ++ [Sk.wd "(", Sk.ru x, Sk.wd wd, Sk.ru y] = ((((st'.reverse ++ [Sk.wd "("]) ++ [Sk.ru x]) ++ [Sk.wd wd]) ++ [Sk.ru y]) by simp] at hrel
        obtain ⟨k4, v4, e4', hrel4, p4, e4'', h4⟩ := rel_snoc hrel
        obtain ⟨k3, v3, e3', hrel3, h3⟩ := rel_snoc hrel4
        obtain ⟨k2, v2, e2', hrel2, p2, e2'', h2⟩ := rel_snoc hrel3
        obtain ⟨k0, v0, e0', hrel0, h0⟩ := rel_snoc hrel2
        have h3 : v3 = .str wd := h3
        have h0 : v0 = .str "(" := h0
        clear hrel hrel4 hrel3 hrel2
        subst e0' e2' e3' e4' h3 h0 e2'' e4''
        have ek : k0 ++ [V.str "("] ++ [.ref p2] ++ [.str wd] ++ [.ref p4] ++ [.str ")"] = k0 ++ fiveV p2 p4 wd := by simp [fiveV]
        rw [ek] at k1 s3
        rw [ek]
        have hk3 : (upd H2 kl (.lst (k0 ++ fiveV p2 p4 wd))) kl = some (.lst (k0 ++ fiveV p2 p4 wd)) := upd_same
        have c5 := cut_five k0 (fiveV p2 p4 wd) rfl
        have hlen5 : (k0 ++ fiveV p2 p4 wd).length = k0.length + 5 := by rw [List.length_append]; rfl
        have hx2 := h2.mono k1
        have hx4 := h4.mono k1
        have hrel := hrel0.mono fun a b h => h.mono k1
        clear hrel0
        revert k1 s3 hk3 hx2 hx4 hrel
        generalize upd H2 kl (.lst (k0 ++ fiveV p2 p4 wd)) = H3
        intro k1 s3 hk3 hx2 hx4 hrel
        refine ⟨_, rfl, _, rfl, .inl ⟨_, rfl, _, rfl, iteT ?_⟩⟩
        refine ⟨_, rfl, _, rfl, _, rfl, kl, _, rfl, SqL.of hk3, fun sl hsl => ?_⟩
        have ec : cutV (k0 ++ fiveV p2 p4 wd) (some (-5)) none = fiveV p2 p4 wd := c5
        rw [ec]
        have e4 := same_new hsl (.lst (fiveV p2 p4 wd))
        refine ⟨sl, p2, p4, wd, x, y, r', rfl, upd_same, hx2.mono (.of e4), hx4.mono (.of e4), hpr, fun tt H5 e5 hR5 => ?_⟩
        have e45 := e4.trans e5
        have hk5 := e45 _ _ hk3
        refine ⟨5, rfl, by decide, by decide, for_range (lo := 0) (n := (5 : Int).toNat) (fun c σ H' => ∃ o4, σ = [some (.ref l), some (.ref kl), some (.str ")"), some (.ref tt), o4] ∧ H' kl = some (.lst ((k0 ++ fiveV p2 p4 wd).take (k0.length + 5 - c))) ∧ TupKeep H5 H' ∧ Same H H' ∧ c ≤ 5)
          ⟨_, rfl, by rw [Nat.sub_zero, ← hlen5, List.take_length]; exact hk5, TupKeep.refl _, s3.trans e45, Nat.zero_le _⟩ ?_ ?_⟩
        · rintro c σ H6 hc ⟨o4, rfl, h6, t6, s6, _⟩
          have hc : c < 5 := hc
          have en : k0.length + 5 - c = (k0.length + 5 - (c + 1)) + 1 := by omega
          rw [en] at h6
          obtain ⟨g1, g2⟩ := pop_take (xs := k0 ++ fiveV p2 p4 wd) (n := k0.length + 5 - (c + 1)) (by omega)
          refine ⟨_, rfl, .inl ⟨rfl, _, SqL.of h6⟩, kl, _, _, rfl, rfl, h6, g1, _, rfl, ?_, t6.trans (TupKeep.lst h6 _), s6.upd_new hkl _, hc⟩
          rw [upd_same, g2]
        · rintro σ H6 ⟨o4, rfl, h6, t6, s6, _⟩
          have h6 : H6 kl = some (.lst k0) := by
            rw [h6]
            have e : (k0 ++ fiveV p2 p4 wd).take (k0.length + 5 - (5 : Int).toNat) = k0 := by
              show (k0 ++ fiveV p2 p4 wd).take (k0.length + 5 - 5) = k0
              rw [Nat.add_sub_cancel, List.take_left]
            rw [e]
          have k7 : TupKeep H6 (upd H6 kl (.lst (k0 ++ [.ref tt]))) := TupKeep.lst h6 _
          simp only [List.length_append, List.length_singleton] at hc
          refine ⟨_, rfl, .inl ⟨rfl, _, SqL.of h6⟩, _, rfl, kl, _, _, rfl, rfl, h6, by rw [sizeLine_eq]; omega, _, k0 ++ [.ref tt], _, _, _, hn, rfl, upd_same, ?_, s6.upd_new hkl _, ?_⟩
          · rw [List.reverse_cons]
            have t37 : TupKeep H3 (upd H6 kl (.lst (k0 ++ [.ref tt]))) := ((TupKeep.of e45).trans t6).trans k7
            exact Rel.snoc (hrel.mono fun a b h => h.mono t37) ⟨tt, rfl, hR5.mono (t6.trans k7)⟩
          · rw [List.length_append]
            simp
            omega
      · have hb' : b = .wd x :: st := by
          have : Fd.step st (.wd x) = some b := hb
          unfold Fd.step at this
          dsimp only at this
          rw [if_neg hx] at this
          exact (Option.some.inj this).symm
        subst hb'
        refine ⟨_, rfl, _, rfl, .inl ⟨x, rfl, _, rfl, ?_⟩⟩
        rw [decide_eq_false hx]
        refine iteF ⟨_, ks ++ [.str x], _, _, _, hn, rfl, upd_same, ?_, s3, ?_⟩
        · rw [List.reverse_cons]
          exact Rel.snoc (hrel.mono fun a b h => h.mono k1) rfl
        · rw [List.length_append]
          simp
          omega
  · rintro σ H2 ⟨st, ks, o2, o3, o4, hst, rfl, hk, hrel, s2, _⟩
    rw [hI.1, List.take_length, hrun] at hst
    obtain rfl := Option.some.inj hst
    obtain ⟨k0, v, rfl, h0, p, rfl, hp⟩ := rel_snoc (bs := []) (b := Sk.ru r) hrel
    obtain rfl : k0 = [] := List.eq_nil_of_length_eq_zero h0.1
    obtain ⟨xs, hx⟩ := rule_tup hp
    refine ⟨_, rfl, kl, _, rfl, .inl (SqL.of hk), rfl, _, rfl, iteNS rfl ?_⟩
    refine ⟨_, rfl, kl, _, _, _, rfl, rfl, SqL.of hk, rfl, _, _, .tup hx, one_same _, _, rfl, iteF ?_⟩
    exact ⟨_, rfl, kl, _, _, _, rfl, rfl, SqL.of hk, rfl, q p H2 s2 hp⟩
theorem plain_turn {r : Rule} (hP : Plain r) (hG : Good r) : turn r ≤ 1000000 ∧ depth r = 0 := by
  cases r with
  | every m s =>
    have g : 1 ≤ m ∧ m ≤ 60 := hG
    exact ⟨(by show m.toNat ≤ 1000000; omega), rfl⟩
  | date _ => exact ⟨(by show 72 ≤ 1000000; decide), rfl⟩
  | nth _ _ => exact ⟨(by show 72 ≤ 1000000; decide), rfl⟩
  | _ => exact hP.elim
def spRead : Sp := fun vs H Q _ => ∃ r : Rule, vs = [.str (lineOf r)] ∧ Good r ∧ Low r ∧ size r ≤ 1000 ∧ ∀ p H', Same H H' → RuleAt H' p r → Q (.ref p) H'
theorem sc_read : FnScope ["line", "items", "rule", "item"] ["line"] (defScope sRead) := ⟨rfl, rfl, rfl, by decide +kernel, rfl, by decide +kernel, by decide +kernel⟩
theorem toks_good : ∀ {r r' : Rule}, Good r → Tk.pl r' ∈ toks r → Good r' := by
  have pair : ∀ (c : Str) (x y r' : Rule), (Tk.pl r' ∈ toks x → Good r') → (Tk.pl r' ∈ toks y → Good r') → Tk.pl r' ∈ [Tk.wd "("] ++ toks x ++ [Tk.wd c] ++ toks y ++ [Tk.wd ")"] → Good r' := by
    intro c x y r' hx hy ht
    simp only [List.mem_append, List.mem_singleton] at ht
    rcases ht with (((ht | ht) | ht) | ht) | ht
    · cases ht
    · exact hx ht
    · cases ht
    · exact hy ht
    · cases ht
  intro r
  induction r with
  | every m s => intro r' hG ht; cases List.mem_singleton.mp ht; exact hG
  | date d => intro r' hG ht; cases List.mem_singleton.mp ht; exact hG
  | nth x k => intro r' hG ht; cases List.mem_singleton.mp ht; exact hG
  | both x y hx hy => intro r' hG; exact pair "and" x y r' (hx hG.1) (hy hG.2)
  | either x y hx hy => intro r' hG; exact pair "or" x y r' (hx hG.1) (hy hG.2)
  | but x y hx hy => intro r' hG; exact pair "but" x y r' (hx hG.1) (hy hG.2)
  | moved x y hx hy => intro r' hG; exact pair "off" x y r' (hx hG.1) (hy hG.2)
theorem toks_le {r : Rule} (hL : Low r) : (toks r).length ≤ (words r).length := by
  have h : ∀ ts : List Tk, (∀ t ∈ ts, TkOk t) → ts.length ≤ (ts.flatMap tkWords).length := by
    intro ts
    induction ts with
    | nil => exact fun _ => Nat.le_refl _
    | cons t ts ih =>
      intro h
      have h1 := words_pos (h t List.mem_cons_self)
      have h2 := ih fun u hu => h u (List.mem_cons_of_mem _ hu)
      rw [List.flatMap_cons, List.length_append, List.length_cons]
      omega
  exact h _ (toks_ok hL)
theorem ok_read {n k : Nat} (hn : 1 ≤ n) (hk : 3 ≤ k) (D : Df K mg "read" sRead ["line"]) (T : Ltx K mg aF aW aK f1 f2 f3) (kt : KitS K) (C_items_of : Has P w K mg base 3 "items_of" ["words"] (spItems K)) (C_rule_of : Has P w K mg base 2 "rule_of" ["items"] (spRuleOf K)) (C_part_of : Has P w K mg base k "part_of" ["rule"] (spPart A n)) :
    Has P w K mg base (k + 1) "read" ["line"] spRead := by
  refine D.ok sc_read (fun vs H Q E h => ?_) (fun fa cdv Ar outer s H vs Q E hr h => ?_)
  · obtain ⟨r, rfl, _⟩ := h
    rfl
  obtain ⟨r, rfl, hG, hL, hz, q⟩ := h
  refine ⟨_, (pss_cons (ps_set (i := 1) sc_read.nd rfl (Or.inl rfl) (pe_has C_items_of hr (by omega) (pa_cons (pe_bm PySem.F.plainAttrs_str PySem.F.slot_str_split PySem.F.type_str_split mt_split (pv 0) (pa_cons pe_str pa_nil star_c)) pa_nil star_k)))
    (pss_cons (ps_set (i := 2) sc_read.nd rfl (Or.inl rfl) (pe_has C_rule_of hr (by omega) (pa_cons (pv 1) pa_nil star_n)))
    (pss_cons (ps_for PassesOwn.never rfl (pi_list (pv 1)) (pg_name (i := 3) sc_read.nd rfl (Or.inl rfl)) (pss_one (ps_if (pt_val (pe_isinst T.z_isinstance T.z_tuple b_tuple (pv 3))) (pss_one (ps_expr (pe_has C_part_of hr (by omega) (pa_cons (pv 3) pa_nil star_n)))) pss_nil)))
    (pss_one (ps_ret (pv 2)))))), ?_⟩
  have ll := line_len hL
  have es : Txt.split (lineOf r) " " = words r := by rw [sp_is, split_line]
  have wl : (words r).length ≤ 1000000 := by
    have := PyProof.Rows.split_le (lineOf r) " "
    rw [es] at this
    omega
  refine ⟨_, rfl, rfl, lineOf r, " ", rfl, rfl, by decide +kernel, by rw [sizeLine_eq]; omega, fun wa hwa => ?_⟩
  rw [es]
  have s1 := same_new hwa (.lst ((words r).map V.str))
  refine ⟨wa, toks r, rfl, SqL.of upd_same, toks_ok hL, wl, fun il its H2 e2 hil hrel => ?_⟩
  have s2 := s1.trans e2
  have tl := toks_le hL
  refine ⟨_, rfl, il, its, toks r, r, rfl, SqL.of hil, hrel, by omega, run_toks r [], fun p H3 e3 hR3 => ?_⟩
  have hil3 := e3 _ _ hil
  refine ⟨_, rfl, il, rfl, ⟨_, SqL.of hil3⟩, for_list (xs := its) (fun i σ H' => ∃ o3, σ = [some (.str (lineOf r)), some (.ref il), some (.ref p), o3] ∧ Same H3 H') ⟨_, rfl, Same.refl _⟩ (fun i σ H' _ h => ?_) ?_ ?_⟩
  · obtain ⟨_, _, sh⟩ := h
    exact SqL.of (sh _ _ hil3)
  · rintro i v σ H4 hv ⟨o3, rfl, s4⟩
    obtain ⟨t, ht, hit⟩ := hrel.get hv
    have hok := toks_ok hL t (List.mem_of_getElem? ht)
    cases t with
    | pl r' =>
      obtain ⟨p', rfl, hp'⟩ := hit
      obtain ⟨hP, hL'⟩ := hok
      have hG' := toks_good hG (List.mem_of_getElem? ht)
      obtain ⟨t1, t2⟩ := plain_turn hP hG'
      have hp4 := hp'.mono (.of (e3.trans s4))
      obtain ⟨xs, hx⟩ := rule_tup hp4
      refine ⟨_, rfl, _, _, .tup hx, one_same _, _, rfl, iteT ?_⟩
      exact ⟨_, rfl, p', r', fun _ => none, rfl, hp4, hG', by omega, t1, (fun b r h => by cases h), fun pp G' H5 s5 gn P1 M1 => ⟨_, rfl, s4.trans s5⟩⟩
    | wd x =>
      obtain rfl : v = .str x := hit
      exact ⟨_, rfl, _, _, .str x, kt.st1, _, rfl, iteF ⟨_, rfl, s4⟩⟩
  · rintro σ H4 ⟨o3, rfl, s4⟩
    exact ⟨_, rfl, q p H4 (s2.trans (e3.trans s4)) (hR3.mono (.of s4))⟩
end
end Lw
set_option Elab.async false
set_option linter.all false
set_option maxRecDepth 100000
namespace Lw
open PySem L2 L3 Fd
seal L2.PSs L2.PS L2.PE L2.PT L2.PW L2.PA L2.PG L2.PGs L2.PI L2.PC
section
variable {P : Program} {w : World} {K : PySem.W.Frag} {mg : Str → Option Value} {base : Heap} {A : Adr} {Ra aF aW aK f1 f2 f3 : Addr}
def spPartU (Ra : Addr) : Sp := fun vs H Q E => ∃ (a : Addr) (r : Rule), vs = [.ref a] ∧ RuleAt H a r ∧ Plain r ∧ (Good r → ∀ p H', Same H H' → Q (.ref p) H') ∧ (¬ Good r → ∀ H', Same H H' → E (.ref Ra) none H')
theorem xsc_read : FnScope ["line", "items", "rule", "item"] ["line"] (defScope sRead) := ⟨rfl, rfl, rfl, by decide +kernel, rfl, by decide +kernel, by decide +kernel⟩
def spReadX (Ra : Addr) : Sp := fun vs H _ E => ∃ r : Rule, vs = [.str (lineOf r)] ∧ ¬ Good r ∧ Low r ∧ size r ≤ 1000 ∧ ∀ H', Same H H' → E (.ref Ra) none H'
theorem toks_bad : ∀ {r : Rule}, ¬ Good r → ∃ r', Tk.pl r' ∈ toks r ∧ ¬ Good r' := by
  have pair : ∀ (c : Str) (x y : Rule), (¬ Good x → ∃ r', Tk.pl r' ∈ toks x ∧ ¬ Good r') → (¬ Good y → ∃ r', Tk.pl r' ∈ toks y ∧ ¬ Good r') → ¬ (Good x ∧ Good y) → ∃ r', Tk.pl r' ∈ [Tk.wd "("] ++ toks x ++ [Tk.wd c] ++ toks y ++ [Tk.wd ")"] ∧ ¬ Good r' := by
    intro c x y hx hy h
    by_cases gx : Good x
    · obtain ⟨r', h1, h2⟩ := hy fun gy => h ⟨gx, gy⟩
      exact ⟨r', by simp [h1], h2⟩
    · obtain ⟨r', h1, h2⟩ := hx gx
      exact ⟨r', by simp [h1], h2⟩
  intro r
  induction r with
  | every m s => exact fun h => ⟨_, List.mem_singleton.mpr rfl, h⟩
  | date d => exact fun h => ⟨_, List.mem_singleton.mpr rfl, h⟩
  | nth x k => exact fun h => ⟨_, List.mem_singleton.mpr rfl, h⟩
  | both x y hx hy => exact fun h => pair "and" x y hx hy h
  | either x y hx hy => exact fun h => pair "or" x y hx hy h
  | but x y hx hy => exact fun h => pair "but" x y hx hy h
  | moved x y hx hy => exact fun h => pair "off" x y hx hy h
theorem ok_readX {k : Nat} (hk : 3 ≤ k) (D : Df K mg "read" sRead ["line"]) (T : Ltx K mg aF aW aK f1 f2 f3) (kt : KitS K) (C_items_of : Has P w K mg base 3 "items_of" ["words"] (spItems K)) (C_rule_of : Has P w K mg base 2 "rule_of" ["items"] (spRuleOf K)) (C_part_of : HasX P w K mg base k "part_of" ["rule"] (spPartU Ra)) :
    HasX P w K mg base (k + 1) "read" ["line"] (spReadX Ra) := by
  refine Df.okX D xsc_read (fun vs H Q E h => ?_) (fun fa cdv Ar outer s H vs Q E hr h => ?_)
  · obtain ⟨r, rfl, _⟩ := h
    rfl
  obtain ⟨r, rfl, hG, hL, hz, q⟩ := h
  refine ⟨_, (pss_cons (ps_set (i := 1) xsc_read.nd rfl (Or.inl rfl) (pe_has C_items_of hr (by omega) (pa_cons (pe_bm PySem.F.plainAttrs_str PySem.F.slot_str_split PySem.F.type_str_split mt_split (pv 0) (pa_cons pe_str pa_nil star_c)) pa_nil star_k)))
    (pss_cons (ps_set (i := 2) xsc_read.nd rfl (Or.inl rfl) (pe_has C_rule_of hr (by omega) (pa_cons (pv 1) pa_nil star_n)))
    (pss_cons (ps_for PassesOwn.leaving rfl (pi_list (pv 1)) (pg_name (i := 3) xsc_read.nd rfl (Or.inl rfl)) (pss_one (ps_if (pt_val (pe_isinst T.z_isinstance T.z_tuple b_tuple (pv 3))) (pss_one (ps_expr (pe_hasX C_part_of hr (by omega) pass_e (pa_cons (pv 3) pa_nil star_n)))) pss_nil)))
    pss_never))), ?_⟩
  have ll := line_len hL
  have es : Txt.split (lineOf r) " " = words r := by rw [sp_is, split_line]
  have wl : (words r).length ≤ 1000000 := by
    have := PyProof.Rows.split_le (lineOf r) " "
    rw [es] at this
    omega
  refine ⟨_, rfl, rfl, lineOf r, " ", rfl, rfl, by decide +kernel, by rw [sizeLine_eq]; omega, fun wa hwa => ?_⟩
  rw [es]
  have s1 := same_new hwa (.lst ((words r).map V.str))
  refine ⟨wa, toks r, rfl, SqL.of upd_same, toks_ok hL, wl, fun il its H2 e2 hil hrel => ?_⟩
  have s2 := s1.trans e2
  have tl := toks_le hL
  refine ⟨_, rfl, il, its, toks r, r, rfl, SqL.of hil, hrel, by omega, run_toks r [], fun p H3 e3 hR3 => ?_⟩
  have hil3 := e3 _ _ hil
  obtain ⟨rb, hb1, hb2⟩ := toks_bad hG
  obtain ⟨jb, hjb⟩ := List.mem_iff_getElem?.mp hb1
  refine ⟨_, rfl, il, rfl, ⟨_, SqL.of hil3⟩, for_list (xs := its) (fun i σ H' => ∃ o3, σ = [some (.str (lineOf r)), some (.ref il), some (.ref p), o3] ∧ Same H3 H' ∧ i ≤ jb) ⟨_, rfl, Same.refl _, Nat.zero_le _⟩ (fun i σ H' _ h => ?_) ?_ ?_⟩
  · obtain ⟨_, _, sh, _⟩ := h
    exact SqL.of (sh _ _ hil3)
  · rintro i v σ H4 hv ⟨o3, rfl, s4, hij⟩
    obtain ⟨t, ht, hit⟩ := hrel.get hv
    have hok := toks_ok hL t (List.mem_of_getElem? ht)
    have ne : ∀ {r' : Rule}, t = .pl r' → Good r' → i ≠ jb := fun {r'} e g z => by
      subst z
      rw [ht] at hjb
      cases Option.some.inj hjb
      cases e
      exact hb2 g
    cases t with
    | pl r' =>
      obtain ⟨p', rfl, hp'⟩ := hit
      obtain ⟨hP, hL'⟩ := hok
      have hp4 := hp'.mono (.of (e3.trans s4))
      obtain ⟨xs, hx⟩ := rule_tup hp4
      refine ⟨_, rfl, _, _, .tup hx, one_same _, _, rfl, iteT ?_⟩
      refine ⟨_, rfl, p', r', rfl, hp4, hP, fun g pp H5 s5 => ⟨_, rfl, s4.trans s5, ?_⟩, fun g H5 s5 => q H5 (s2.trans (e3.trans (s4.trans s5)))⟩
      have := ne rfl g
      omega
    | wd x =>
      obtain rfl : v = .str x := hit
      refine ⟨_, rfl, _, _, .str x, kt.st1, _, rfl, iteF ⟨_, rfl, s4, ?_⟩⟩
      have : i ≠ jb := fun z => by
        subst z
        rw [ht] at hjb
        cases Option.some.inj hjb
      omega
  · rintro σ H4 ⟨o3, rfl, s4, hij⟩
    exfalso
    have h1 : jb < (toks r).length := by
      rcases Nat.lt_or_ge jb (toks r).length with z | z
      · exact z
      · rw [List.getElem?_eq_none z] at hjb; cases hjb
    have h2 := hrel.1
    omega
theorem ok_partU {k : Nat} (hk : 6 ≤ k) (D : Df K mg "part_of" sPart ["rule"]) (T : RTx K mg base A Ra) (C_EveryPart : HasC P w K mg base 1 "EveryPart" A.cE ["self", "many", "start"] (spInitE A)) (C_DatePart : HasC P w K mg base 1 "DatePart" A.cD ["self", "date"] (spInitD A)) (C_NthPart : HasC P w K mg base 1 "NthPart" A.cN ["self", "which", "weekday"] (spInitN A))
    (X_EveryPart : HasCX P w K mg base 1 "EveryPart" A.cE ["self", "many", "start"] (spInitEX Ra)) (X_DatePart : HasCX P w K mg base 1 "DatePart" A.cD ["self", "date"] (spInitDX Ra)) (X_NthPart : HasCX P w K mg base 1 "NthPart" A.cN ["self", "which", "weekday"] (spInitNX Ra)) : HasX P w K mg base (k + 1) "part_of" ["rule"] (spPartU Ra) := by
  refine Df.okX D sc_part_of (fun vs H Q E h => ?_) (fun f cdv Ar outer s H vs Q E hr h => ?_)
  · obtain ⟨a, r, rfl, _⟩ := h
    rfl
  obtain ⟨a, r, rfl, hR, hP, qg, qb⟩ := h
  cases r with
  | every m st =>
    have hR : H a = some (.tup [.str "every", .int m, .int st]) := hR
    by_cases hG : Good (.every m st)
    · refine ⟨_, (pss_cons (ps_set (i := 1) sc_part_of.nd rfl (Or.inl rfl) (pe_ix ix_tup (pv 0) pe_int (fun _ _ => rfl)))
        (pss_cons (ps_if (pt_cmpR op_eq (pv 1) pe_str (nomark _)) (pss_one (ps_ret (pe_new C_EveryPart hr (by omega) (pa_cons (pe_ix ix_tup (pv 0) pe_int (fun _ _ => rfl)) (pa_cons (pe_ix ix_tup (pv 0) pe_int (fun _ _ => rfl)) pa_nil star_s) star_s)))) pss_nil) pss_never)), ?_⟩
      refine ⟨_, rfl, a, _, _, _, rfl, rfl, SqT.of hR, rfl, _, rfl, rfl, _, rfl, iteP (by decide +kernel) ?_⟩
      exact ⟨_, rfl, a, _, _, _, rfl, rfl, SqT.of hR, rfl, _, rfl, a, _, _, _, rfl, rfl, SqT.of hR, rfl, fun x dx hx hdx ne => ⟨x, dx, m, st, rfl, upd_same, hG, rfl, qg hG _ _ ((same_make hx hdx).upd_new hx _)⟩⟩
    · refine ⟨_, (pss_cons (ps_set (i := 1) sc_part_of.nd rfl (Or.inl rfl) (pe_ix ix_tup (pv 0) pe_int (fun _ _ => rfl)))
        (pss_cons (ps_if (pt_cmpR op_eq (pv 1) pe_str (nomark _)) (pss_one (ps_ret (pe_newX X_EveryPart hr (by omega) pass_e (pa_cons (pe_ix ix_tup (pv 0) pe_int (fun _ _ => rfl)) (pa_cons (pe_ix ix_tup (pv 0) pe_int (fun _ _ => rfl)) pa_nil star_s) star_s)))) pss_nil) pss_never)), ?_⟩
      refine ⟨_, rfl, a, _, _, _, rfl, rfl, SqT.of hR, rfl, _, rfl, rfl, _, rfl, iteP (by decide +kernel) ?_⟩
      exact ⟨_, rfl, a, _, _, _, rfl, rfl, SqT.of hR, rfl, _, rfl, a, _, _, _, rfl, rfl, SqT.of hR, rfl, fun x dx hx hdx ne => ⟨x, m, st, rfl, hG, qb hG _ (same_make hx hdx)⟩⟩
  | date d =>
    have hR : H a = some (.tup [.str "date", .int d]) := hR
    by_cases hG : Good (.date d)
    · refine ⟨_, (pss_cons (ps_set (i := 1) sc_part_of.nd rfl (Or.inl rfl) (pe_ix ix_tup (pv 0) pe_int (fun _ _ => rfl)))
        (pss_cons (ps_if (pt_cmpR op_eq (pv 1) pe_str (nomark _)) pss_never pss_nil)
        (pss_cons (ps_if (pt_cmpR op_eq (pv 1) pe_str (nomark _)) (pss_one (ps_ret (pe_new C_DatePart hr (by omega) (pa_cons (pe_ix ix_tup (pv 0) pe_int (fun _ _ => rfl)) pa_nil star_s)))) pss_nil) pss_never))), ?_⟩
      refine ⟨_, rfl, a, _, _, _, rfl, rfl, SqT.of hR, rfl, _, rfl, rfl, _, rfl, iteN (by decide +kernel) ⟨_, rfl, rfl, _, rfl, iteP (by decide +kernel) ?_⟩⟩
      exact ⟨_, rfl, a, _, _, _, rfl, rfl, SqT.of hR, rfl, fun x dx hx hdx ne => ⟨x, dx, d, rfl, upd_same, hG, rfl, qg hG _ _ ((same_make hx hdx).upd_new hx _)⟩⟩
    · refine ⟨_, (pss_cons (ps_set (i := 1) sc_part_of.nd rfl (Or.inl rfl) (pe_ix ix_tup (pv 0) pe_int (fun _ _ => rfl)))
        (pss_cons (ps_if (pt_cmpR op_eq (pv 1) pe_str (nomark _)) pss_never pss_nil)
        (pss_cons (ps_if (pt_cmpR op_eq (pv 1) pe_str (nomark _)) (pss_one (ps_ret (pe_newX X_DatePart hr (by omega) pass_e (pa_cons (pe_ix ix_tup (pv 0) pe_int (fun _ _ => rfl)) pa_nil star_s)))) pss_nil) pss_never))), ?_⟩
      refine ⟨_, rfl, a, _, _, _, rfl, rfl, SqT.of hR, rfl, _, rfl, rfl, _, rfl, iteN (by decide +kernel) ⟨_, rfl, rfl, _, rfl, iteP (by decide +kernel) ?_⟩⟩
      exact ⟨_, rfl, a, _, _, _, rfl, rfl, SqT.of hR, rfl, fun x dx hx hdx ne => ⟨x, d, rfl, hG, qb hG _ (same_make hx hdx)⟩⟩
  | nth x k =>
    have hR : H a = some (.tup [.str "nth", .int x, .int k]) := hR
    by_cases hG : Good (.nth x k)
    · refine ⟨_, (pss_cons (ps_set (i := 1) sc_part_of.nd rfl (Or.inl rfl) (pe_ix ix_tup (pv 0) pe_int (fun _ _ => rfl)))
        (pss_cons (ps_if (pt_cmpR op_eq (pv 1) pe_str (nomark _)) pss_never pss_nil)
        (pss_cons (ps_if (pt_cmpR op_eq (pv 1) pe_str (nomark _)) pss_never pss_nil)
        (pss_cons (ps_if (pt_cmpR op_eq (pv 1) pe_str (nomark _)) (pss_one (ps_ret (pe_new C_NthPart hr (by omega) (pa_cons (pe_ix ix_tup (pv 0) pe_int (fun _ _ => rfl)) (pa_cons (pe_ix ix_tup (pv 0) pe_int (fun _ _ => rfl)) pa_nil star_s) star_s)))) pss_nil) pss_never)))), ?_⟩
      refine ⟨_, rfl, a, _, _, _, rfl, rfl, SqT.of hR, rfl, _, rfl, rfl, _, rfl, iteN (by decide +kernel) ⟨_, rfl, rfl, _, rfl, iteN (by decide +kernel) ⟨_, rfl, rfl, _, rfl, iteP (by decide +kernel) ?_⟩⟩⟩
      exact ⟨_, rfl, a, _, _, _, rfl, rfl, SqT.of hR, rfl, _, rfl, a, _, _, _, rfl, rfl, SqT.of hR, rfl, fun y dx hx hdx ne => ⟨y, dx, x, k, rfl, upd_same, hG, rfl, qg hG _ _ ((same_make hx hdx).upd_new hx _)⟩⟩
    · refine ⟨_, (pss_cons (ps_set (i := 1) sc_part_of.nd rfl (Or.inl rfl) (pe_ix ix_tup (pv 0) pe_int (fun _ _ => rfl)))
        (pss_cons (ps_if (pt_cmpR op_eq (pv 1) pe_str (nomark _)) pss_never pss_nil)
        (pss_cons (ps_if (pt_cmpR op_eq (pv 1) pe_str (nomark _)) pss_never pss_nil)
        (pss_cons (ps_if (pt_cmpR op_eq (pv 1) pe_str (nomark _)) (pss_one (ps_ret (pe_newX X_NthPart hr (by omega) pass_e (pa_cons (pe_ix ix_tup (pv 0) pe_int (fun _ _ => rfl)) (pa_cons (pe_ix ix_tup (pv 0) pe_int (fun _ _ => rfl)) pa_nil star_s) star_s)))) pss_nil) pss_never)))), ?_⟩
      refine ⟨_, rfl, a, _, _, _, rfl, rfl, SqT.of hR, rfl, _, rfl, rfl, _, rfl, iteN (by decide +kernel) ⟨_, rfl, rfl, _, rfl, iteN (by decide +kernel) ⟨_, rfl, rfl, _, rfl, iteP (by decide +kernel) ?_⟩⟩⟩
      exact ⟨_, rfl, a, _, _, _, rfl, rfl, SqT.of hR, rfl, _, rfl, a, _, _, _, rfl, rfl, SqT.of hR, rfl, fun y dx hx hdx ne => ⟨y, x, k, rfl, hG, qb hG _ (same_make hx hdx)⟩⟩
  | _ => exact hP.elim
end
end Lw
set_option Elab.async false
set_option linter.all false
set_option maxRecDepth 100000
namespace Lw
open PySem L2 L3 Fd
seal L2.PSs L2.PS L2.PE L2.PT L2.PW L2.PA L2.PG L2.PGs L2.PI L2.PC
def Two2 (H : Hp) (n : Nat) (L p1 p2 a2 : Addr) : Prop := ∃ (s1 s2 : Str) (a1 : Addr) (r1 : Rule), H L = some (.lst [.ref p1, .ref p2]) ∧ H p1 = some (.tup [.str s1, .ref a1]) ∧ RuleAt H a1 r1 ∧ Good r1 ∧ depth r1 < n ∧ turn r1 ≤ 1000000 ∧ H p2 = some (.tup [.str s2, .ref a2])
def spLeafX (n : Nat) (Ra : Addr) : Sp := fun vs H _ E => ∃ (L p1 p2 a2 : Addr) (r2 : Rule) (d m : Int), vs = [.ref L, .int d, .int m] ∧ Two2 H n L p1 p2 a2 ∧ RuleAt H a2 r2 ∧ ¬ Good r2 ∧ Tn r2 ∧ depth r2 < n ∧ ∀ H', Same H H' → E (.ref Ra) none H'
def spLeafG (n : Nat) : Sp := fun vs H Q _ => ∃ (L p1 p2 a2 : Addr) (r2 : Rule) (d m : Int), vs = [.ref L, .int d, .int m] ∧ m < d ∧ Two2 H n L p1 p2 a2 ∧ RuleAt H a2 r2 ∧ Good r2 ∧ depth r2 < n ∧ turn r2 ≤ 1000000 ∧ ∀ v H', Same H H' → Q v H'
section
variable {P : Program} {w : World} {K : PySem.W.Frag} {mg : Str → Option Value} {base : Heap} {A : Adr} {Ra : Addr} {n k : Nat}
theorem xsc_leaf : FnScope ["diary", "first", "last", "parts", "names", "all_marks", "found", "day", "had"] ["diary", "first", "last"] (defScope sLeaf) := ⟨rfl, rfl, rfl, by decide +kernel, rfl, by decide +kernel, by decide +kernel⟩
theorem lcsc_leaf_0 : LcScope (lcOf (stE ((defBody sLeaf).getD 0 (.Pass ⟨0, 0, 0, 0⟩)))) (defScope sLeaf) ["diary", "first", "last", "parts", "names", "all_marks", "found", "day", "had"] ["pair"] [] := ⟨rfl, by decide +kernel, by decide +kernel, by decide +kernel, by decide +kernel, by decide +kernel⟩
theorem lcnd_leaf_0 : (lcNames ["diary", "first", "last", "parts", "names", "all_marks", "found", "day", "had"] ["pair"] []).Nodup := by decide +kernel
theorem ok_leafG (D : Df K mg "leaf" sLeaf ["diary", "first", "last"]) (C_part_of : Has P w K mg base k "part_of" ["rule"] (spPart A n)) : Has P w K mg base (k + 1) "leaf" ["diary", "first", "last"] (spLeafG n) := by
  refine D.ok xsc_leaf (fun vs H Q E h => ?_) (fun f cdv Ar outer s H vs Q E hr h => ?_)
  · obtain ⟨L, p1, p2, a2, r2, d, m, rfl, _⟩ := h
    rfl
  obtain ⟨L, p1, p2, a2, r2, d, m, rfl, hm, ⟨s1, s2, a1, r1, hL, h1, hr1, g1, d1, t1, h2⟩, hr2, g2, d2, t2, q⟩ := h
  refine ⟨_, (pss_cons (ps_lcset (i := 3) xsc_leaf.nd rfl (Or.inl rfl) (pi_list (pv 0)) ⟨lcsc_leaf_0, rfl, fun cl fp sb Hb => (pg_name (i := 0) (x := "pair") lcnd_leaf_0 rfl (Or.inl rfl)), fun cl fp sb Hb => pf_nil, fun cl fp sb Hb => (pe_has C_part_of hr (by omega) (pa_cons (pe_ix ix_tup (pv 0) pe_int (fun _ _ => rfl)) pa_nil star_s))⟩)
    (pss_cons (ps_if (pt_cmpR op_lt (pv 2) (pv 1) (nomark _)) (pss_one (ps_ret (pe_lst pa_nil))) pss_nil) pss_never)), ?_⟩
  refine ⟨_, rfl, L, rfl, ⟨_, SqL.of hL⟩, fun L1 hL1 cl fp sb Hb => ?_⟩
  refine list_turns (xs := [V.ref p1, .ref p2]) [] (fun i ys H' => True) rfl (by show 2 < 1000; decide) (SqL.of hL) hL1 trivial ?_ ?_
  · rintro i x ys H1 Y N hx s1' hl _ y1 _
    obtain ⟨p, a, z, r, rfl, hp, ha, hg, hd, ht⟩ : ∃ (p a : Addr) (z : Str) (r : Rule), x = .ref p ∧ H p = some (.tup [.str z, .ref a]) ∧ RuleAt H a r ∧ Good r ∧ depth r < n ∧ turn r ≤ 1000000 := by
      rcases i with _ | _ | i
      · cases hx; exact ⟨p1, a1, s1, r1, rfl, h1, hr1, g1, d1, t1⟩
      · cases hx; exact ⟨p2, a2, s2, r2, rfl, h2, hr2, g2, d2, t2⟩
      · cases hx
    exact always_t ⟨_, rfl, p, _, _, _, rfl, rfl, SqT.of (s1' _ _ hp), rfl, a, r, fun _ => none, rfl, ha.mono (.of s1'), hg, hd, ht, (fun b r h => by cases h), fun pp G' H2 s2 gn P2 M2 => y1 _ _ s2 trivial⟩
  · rintro ys H1 s1' hl _
    exact ⟨_, rfl, _, rfl, _, _, rfl, rfl, _, rfl, iteP (decide_eq_true hm) ⟨(by show 0 ≤ sizeLine; decide), fun b hb => q _ _ (s1'.trans (same_new hb _))⟩⟩
theorem ok_leafX (D : Df K mg "leaf" sLeaf ["diary", "first", "last"]) (C_good : Has P w K mg base k "part_of" ["rule"] (spPart A n)) (C_bad : HasX P w K mg base k "part_of" ["rule"] (spPartX n Ra)) : HasX P w K mg base (k + 1) "leaf" ["diary", "first", "last"] (spLeafX n Ra) := by
  refine Df.okX D xsc_leaf (fun vs H Q E h => ?_) (fun f cdv Ar outer s H vs Q E hr h => ?_)
  · obtain ⟨L, p1, p2, a2, r2, d, m, rfl, _⟩ := h
    rfl
  obtain ⟨L, p1, p2, a2, r2, d, m, rfl, ⟨s1, s2, a1, r1, hL, h1, hr1, g1, d1, t1, h2⟩, hr2, b2, n2, d2, q⟩ := h
  refine ⟨_, (pss_cons (ps_lcsetX (i := 3) xsc_leaf.nd rfl (Or.inl rfl) (pi_list (pv 0)) ⟨lcsc_leaf_0, rfl, fun cl fp sb Hb => (pg_name (i := 0) (x := "pair") lcnd_leaf_0 rfl (Or.inl rfl)), fun cl fp sb Hb => pf_nil, fun cl fp sb Hb => (pe_hasU C_good.x C_bad hr (by omega) pass_lc (pa_cons (pe_ix ix_tup (pv 0) pe_int (fun _ _ => rfl)) pa_nil star_s))⟩) pss_never), ?_⟩
  refine ⟨_, rfl, L, rfl, ⟨_, SqL.of hL⟩, fun L1 hL1 cl fp sb Hb => ?_⟩
  refine list_turns (xs := [V.ref p1, .ref p2]) [] (fun i ys H' => i ≤ 1) rfl (by show 2 < 1000; decide) (SqL.of hL) hL1 (by decide) ?_ ?_
  · rintro i x ys H1 Y N hx s1' hl _ y1 _
    rcases i with _ | _ | i
    · cases hx
      exact always_t ⟨_, rfl, p1, _, _, _, rfl, rfl, SqT.of (s1' _ _ h1), rfl, .inl ⟨a1, r1, fun _ => none, rfl, hr1.mono (.of s1'), g1, d1, t1, (fun b r h => by cases h), fun pp G' H2 s2 gn P2 M2 => y1 _ _ s2 (by decide)⟩⟩
    · cases hx
      exact always_t ⟨_, rfl, p2, _, _, _, rfl, rfl, SqT.of (s1' _ _ h2), rfl, .inr ⟨a2, r2, rfl, hr2.mono (.of s1'), b2, n2, d2, fun H2 s2 => q H2 (s1'.trans s2)⟩⟩
    · cases hx
  · rintro ys H1 s1' hl h
    exact absurd h (by show ¬ 2 ≤ 1; decide)
end
end Lw
set_option Elab.async false
set_option linter.all false
set_option maxRecDepth 100000
namespace Lw
open PySem L2 L3 Fd
open PyProof.Rows (OwnCls)
open PySem.F (excBase_ValueError)
seal L2.PSs L2.PS L2.PE L2.PT L2.PW L2.PA L2.PG L2.PGs L2.PI L2.PC
theorem cut_map (ns : List Int) (lo hi : Option Int) : ∃ ms : List Int, cutV (ns.map V.int) lo hi = ms.map V.int ∧ ms.length ≤ ns.length := by
  refine ⟨(ns.drop (HT.sIx (ns.map V.int).length 0 lo)).take (HT.sIx (ns.map V.int).length (ns.map V.int).length hi - HT.sIx (ns.map V.int).length 0 lo), ?_, ?_⟩
  · unfold cutV
    rw [List.map_take, List.map_drop]
  · rw [List.length_take, List.length_drop]
    omega
theorem b_ValueError : bootBuiltins "ValueError" = some (.type "ValueError") := by decide +kernel
structure T02 (K : PySem.W.Frag) (mg : Str → Option Value) (base : Heap) (aF aW aK f1 f2 f3 Ra Ca La Fa : Addr) : Prop extends Ltx K mg aF aW aK f1 f2 f3 where
  m_FairError : mg "FairError" = some (.ref Fa)
  m_NoRule : mg "NoRule" = some (.ref Ra)
  m_NoCount : mg "NoCount" = some (.ref Ca)
  m_NoLine : mg "NoLine" = some (.ref La)
  z_ValueError : mg "ValueError" = none
  o_NoCount : OwnCls "NoCount" Ca [.type "ValueError", .type "Exception", .type "BaseException", .type "object"] "ValueError.__new__" mg base
  xmR : PySem.W.exmOne K (.ref Ra) (.ref Fa) = some true
  xmC : PySem.W.exmOne K (.ref Ca) (.ref Fa) = some true
  xcR : XCls K Ra
  xcC : XCls K Ca
  kRC : PySem.W.kitOne K (.ref Ra) (.ref Ca) = some false
  kRL : PySem.W.kitOne K (.ref Ra) (.ref La) = some false
  kCR : PySem.W.kitOne K (.ref Ca) (.ref Ra) = some false
  kCL : PySem.W.kitOne K (.ref Ca) (.ref La) = some false
  kRV : PySem.W.kitOne K (.ref Ra) (.type "ValueError") = some true
  kCV : PySem.W.kitOne K (.ref Ca) (.type "ValueError") = some true
theorem tn_of : ∀ {r : Rule}, Good r → turn r ≤ 1000000 → Tn r
  | .every _ _, _, _ => trivial
  | .date _, _, _ => trivial
  | .nth _ _, _, _ => trivial
  | .both x y, g, t => by
    have hx : turn x ≤ 1000000 := Nat.le_trans (Nat.le_of_dvd (turn_pos (r := .both x y) g) (Nat.dvd_lcm_left _ _)) t
    have hy : turn y ≤ 1000000 := Nat.le_trans (Nat.le_of_dvd (turn_pos (r := .both x y) g) (Nat.dvd_lcm_right _ _)) t
    exact ⟨tn_of g.1 hx, tn_of g.2 hy, fun _ => hx, fun _ => hy⟩
  | .either x y, g, t => by
    have hx : turn x ≤ 1000000 := Nat.le_trans (Nat.le_of_dvd (turn_pos (r := .either x y) g) (Nat.dvd_lcm_left _ _)) t
    have hy : turn y ≤ 1000000 := Nat.le_trans (Nat.le_of_dvd (turn_pos (r := .either x y) g) (Nat.dvd_lcm_right _ _)) t
    exact ⟨tn_of g.1 hx, tn_of g.2 hy, fun _ => hx, fun _ => hy⟩
  | .but x y, g, t => by
    have hx : turn x ≤ 1000000 := Nat.le_trans (Nat.le_of_dvd (turn_pos (r := .but x y) g) (Nat.dvd_lcm_left _ _)) t
    have hy : turn y ≤ 1000000 := Nat.le_trans (Nat.le_of_dvd (turn_pos (r := .but x y) g) (Nat.dvd_lcm_right _ _)) t
    exact ⟨tn_of g.1 hx, tn_of g.2 hy, fun _ => hx, fun _ => hy⟩
  | .moved x y, g, t => by
    have hx : turn x ≤ 1000000 := Nat.le_trans (Nat.le_of_dvd (turn_pos (r := .moved x y) g) (Nat.dvd_lcm_left _ _)) t
    have hy : turn y ≤ 1000000 := Nat.le_trans (Nat.le_of_dvd (turn_pos (r := .moved x y) g) (Nat.dvd_lcm_right _ _)) t
    exact ⟨tn_of g.1 hx, tn_of g.2 hy, fun _ => hx, fun _ => hy⟩
def Odd (r : Rule) : Prop := Plain r ∧ ¬ Good r ∧ Low r
structure Spoilt (r r' : Rule) : Prop where
  bad : ¬ Good r'
  tn : Tn r'
  low : Low r'
  dp : depth r' ≤ depth r
  sz : size r' ≤ size r
theorem Odd.spoilt {r0 : Rule} (h : Odd r0) (r : Rule) : Spoilt r r0 := by
  obtain ⟨h1, h2, h3⟩ := h
  have s := size_pos r
  cases r0 with
  | every _ _ => exact ⟨h2, trivial, h3, Nat.zero_le _, s⟩
  | date _ => exact ⟨h2, trivial, h3, Nat.zero_le _, s⟩
  | nth _ _ => exact ⟨h2, trivial, h3, Nat.zero_le _, s⟩
  | _ => exact h1.elim
structure Apart (H : Hp) (a : Addr) (r : Rule) (kd : Str) (x y : Rule) (p q : Addr) : Prop where
  at_ : H a = some (.tup [.str kd, .ref p, .ref q])
  ax : RuleAt H p x
  ay : RuleAt H q y
  gx : Good x
  gy : Good y
  nx : Near x
  ny : Near y
  tx : turn x ≤ 1000000
  ty : turn y ≤ 1000000
  dx : depth x < depth r
  dy : depth y < depth r
  kn : inV (.str kd) [.str "every", .str "date", .str "nth"] = false
  left : ∀ (H' : Hp) (b p' : Addr) (x' : Rule), TupKeep H H' → H' b = some (.tup [.str kd, .ref p', .ref q]) → RuleAt H' p' x' → Spoilt x x' → ∃ r', RuleAt H' b r' ∧ Spoilt r r'
  right : ∀ (H' : Hp) (b q' : Addr) (y' : Rule), TupKeep H H' → H' b = some (.tup [.str kd, .ref p, .ref q']) → RuleAt H' q' y' → Spoilt y y' → ∃ r', RuleAt H' b r' ∧ Spoilt r r'
theorem apart_of {H : Hp} {a : Addr} {r : Rule} (h : RuleAt H a r) (g : Good r) (nr : Near r) (t : turn r ≤ 1000000) : (∃ kd x rest, H a = some (.tup (.str kd :: x :: rest)) ∧ inV (.str kd) [.str "every", .str "date", .str "nth"] = true) ∨ ∃ kd x y p q, Apart H a r kd x y p q := by
  cases r with
  | every _ _ => exact .inl ⟨_, _, _, h, by decide +kernel⟩
  | date _ => exact .inl ⟨_, _, _, h, by decide +kernel⟩
  | nth _ _ => exact .inl ⟨_, _, _, h, by decide +kernel⟩
  | both x y =>
    obtain ⟨p, q, h0, h1, h2⟩ := h
    have tx : turn x ≤ 1000000 := Nat.le_trans (Nat.le_of_dvd (turn_pos (r := .both x y) g) (Nat.dvd_lcm_left _ _)) t
    have ty : turn y ≤ 1000000 := Nat.le_trans (Nat.le_of_dvd (turn_pos (r := .both x y) g) (Nat.dvd_lcm_right _ _)) t
    refine .inr ⟨"both", x, y, p, q, h0, h1, h2, g.1, g.2, nr.1, nr.2, tx, ty, (by show depth x < max (depth x) (depth y) + 1; omega), (by show depth y < max (depth x) (depth y) + 1; omega), by decide +kernel, fun H' b p' x' k e hx S => ⟨.both x' y, ⟨p', q, e, hx, h2.mono k⟩, ⟨fun z => S.bad z.1, ⟨S.tn, tn_of g.2 ty, fun z => absurd z S.bad, fun _ => ty⟩, ⟨S.low, low_of g.2 nr.2⟩, ?_, ?_⟩⟩,
      fun H' b q' y' k e hy S => ⟨.both x y', ⟨p, q', e, h1.mono k, hy⟩, ⟨fun z => S.bad z.2, ⟨tn_of g.1 tx, S.tn, fun _ => tx, fun z => absurd z S.bad⟩, ⟨low_of g.1 nr.1, S.low⟩, ?_, ?_⟩⟩⟩
    · have := S.dp; show max (depth x') (depth y) + 1 ≤ max (depth x) (depth y) + 1; omega
    · have := S.sz; show size x' + size y + 1 ≤ size x + size y + 1; omega
    · have := S.dp; show max (depth x) (depth y') + 1 ≤ max (depth x) (depth y) + 1; omega
    · have := S.sz; show size x + size y' + 1 ≤ size x + size y + 1; omega
  | either x y =>
    obtain ⟨p, q, h0, h1, h2⟩ := h
    have tx : turn x ≤ 1000000 := Nat.le_trans (Nat.le_of_dvd (turn_pos (r := .either x y) g) (Nat.dvd_lcm_left _ _)) t
    have ty : turn y ≤ 1000000 := Nat.le_trans (Nat.le_of_dvd (turn_pos (r := .either x y) g) (Nat.dvd_lcm_right _ _)) t
    refine .inr ⟨"either", x, y, p, q, h0, h1, h2, g.1, g.2, nr.1, nr.2, tx, ty, (by show depth x < max (depth x) (depth y) + 1; omega), (by show depth y < max (depth x) (depth y) + 1; omega), by decide +kernel, fun H' b p' x' k e hx S => ⟨.either x' y, ⟨p', q, e, hx, h2.mono k⟩, ⟨fun z => S.bad z.1, ⟨S.tn, tn_of g.2 ty, fun z => absurd z S.bad, fun _ => ty⟩, ⟨S.low, low_of g.2 nr.2⟩, ?_, ?_⟩⟩,
      fun H' b q' y' k e hy S => ⟨.either x y', ⟨p, q', e, h1.mono k, hy⟩, ⟨fun z => S.bad z.2, ⟨tn_of g.1 tx, S.tn, fun _ => tx, fun z => absurd z S.bad⟩, ⟨low_of g.1 nr.1, S.low⟩, ?_, ?_⟩⟩⟩
    · have := S.dp; show max (depth x') (depth y) + 1 ≤ max (depth x) (depth y) + 1; omega
    · have := S.sz; show size x' + size y + 1 ≤ size x + size y + 1; omega
    · have := S.dp; show max (depth x) (depth y') + 1 ≤ max (depth x) (depth y) + 1; omega
    · have := S.sz; show size x + size y' + 1 ≤ size x + size y + 1; omega
  | but x y =>
    obtain ⟨p, q, h0, h1, h2⟩ := h
    have tx : turn x ≤ 1000000 := Nat.le_trans (Nat.le_of_dvd (turn_pos (r := .but x y) g) (Nat.dvd_lcm_left _ _)) t
    have ty : turn y ≤ 1000000 := Nat.le_trans (Nat.le_of_dvd (turn_pos (r := .but x y) g) (Nat.dvd_lcm_right _ _)) t
    refine .inr ⟨"but", x, y, p, q, h0, h1, h2, g.1, g.2, nr.1, nr.2, tx, ty, (by show depth x < max (depth x) (depth y) + 1; omega), (by show depth y < max (depth x) (depth y) + 1; omega), by decide +kernel, fun H' b p' x' k e hx S => ⟨.but x' y, ⟨p', q, e, hx, h2.mono k⟩, ⟨fun z => S.bad z.1, ⟨S.tn, tn_of g.2 ty, fun z => absurd z S.bad, fun _ => ty⟩, ⟨S.low, low_of g.2 nr.2⟩, ?_, ?_⟩⟩,
      fun H' b q' y' k e hy S => ⟨.but x y', ⟨p, q', e, h1.mono k, hy⟩, ⟨fun z => S.bad z.2, ⟨tn_of g.1 tx, S.tn, fun _ => tx, fun z => absurd z S.bad⟩, ⟨low_of g.1 nr.1, S.low⟩, ?_, ?_⟩⟩⟩
    · have := S.dp; show max (depth x') (depth y) + 1 ≤ max (depth x) (depth y) + 1; omega
    · have := S.sz; show size x' + size y + 1 ≤ size x + size y + 1; omega
    · have := S.dp; show max (depth x) (depth y') + 1 ≤ max (depth x) (depth y) + 1; omega
    · have := S.sz; show size x + size y' + 1 ≤ size x + size y + 1; omega
  | moved x y =>
    obtain ⟨p, q, h0, h1, h2⟩ := h
    have tx : turn x ≤ 1000000 := Nat.le_trans (Nat.le_of_dvd (turn_pos (r := .moved x y) g) (Nat.dvd_lcm_left _ _)) t
    have ty : turn y ≤ 1000000 := Nat.le_trans (Nat.le_of_dvd (turn_pos (r := .moved x y) g) (Nat.dvd_lcm_right _ _)) t
    refine .inr ⟨"moved", x, y, p, q, h0, h1, h2, g.1, g.2, nr.1, nr.2, tx, ty, (by show depth x < max (depth x) (depth y) + 1; omega), (by show depth y < max (depth x) (depth y) + 1; omega), by decide +kernel, fun H' b p' x' k e hx S => ⟨.moved x' y, ⟨p', q, e, hx, h2.mono k⟩, ⟨fun z => S.bad z.1, ⟨S.tn, tn_of g.2 ty, fun z => absurd z S.bad, fun _ => ty⟩, ⟨S.low, low_of g.2 nr.2⟩, ?_, ?_⟩⟩,
      fun H' b q' y' k e hy S => ⟨.moved x y', ⟨p, q', e, h1.mono k, hy⟩, ⟨fun z => S.bad z.2, ⟨tn_of g.1 tx, S.tn, fun _ => tx, fun z => absurd z S.bad⟩, ⟨low_of g.1 nr.1, S.low⟩, ?_, ?_⟩⟩⟩
    · have := S.dp; show max (depth x') (depth y) + 1 ≤ max (depth x) (depth y) + 1; omega
    · have := S.sz; show size x' + size y + 1 ≤ size x + size y + 1; omega
    · have := S.dp; show max (depth x) (depth y') + 1 ≤ max (depth x) (depth y) + 1; omega
    · have := S.sz; show size x + size y' + 1 ≤ size x + size y + 1; omega
def spSpoilt (n : Nat) : Sp := fun vs H Q _ => ∃ (a o : Addr) (r r0 : Rule) (sd : Int), vs = [.ref a, .ref o, .int sd] ∧ RuleAt H a r ∧ Good r ∧ Near r ∧ turn r ≤ 1000000 ∧ depth r < n ∧ RuleAt H o r0 ∧ Odd r0 ∧
  ∀ p r' H', Same H H' → RuleAt H' p r' → Spoilt r r' → Q (.ref p) H'
def OddAt (H : Hp) (v : V) : Prop := ∃ p q, v = .ref p ∧ RuleAt H p q ∧ Odd q
def Odds (H : Hp) (vs : List V) : Prop := ∀ v ∈ vs, OddAt H v
theorem OddAt.mono {H H' : Hp} (k : TupKeep H H') {v : V} (h : OddAt H v) : OddAt H' v := by
  obtain ⟨p, q, e, h1, h2⟩ := h
  exact ⟨p, q, e, h1.mono k, h2⟩
theorem Odds.nil {H : Hp} : Odds H [] := fun v h => absurd h List.not_mem_nil
theorem Odds.mono {H H' : Hp} (k : TupKeep H H') {vs : List V} (h : Odds H vs) : Odds H' vs := fun v hv => (h v hv).mono k
theorem Odds.push {H : Hp} {vs : List V} {o : Addr} {xs : List V} {q : Rule} (O : Odds H vs) (h : H o = none) (hr : RuleAt (upd H o (.tup xs)) o q) (hq : Odd q) : Odds (upd H o (.tup xs)) (vs ++ [.ref o]) := fun v hv => by
  rcases List.mem_append.mp hv with z | z
  · exact (O v z).mono (TupKeep.new h _)
  · obtain rfl := List.mem_singleton.mp z
    exact ⟨o, q, rfl, hr, hq⟩
theorem Odds.e {H : Hp} {vs : List V} {o : Addr} {m s : Int} (O : Odds H vs) (h : H o = none) (hq : Odd (.every m s)) : Odds (upd H o (.tup [.str "every", .int m, .int s])) (vs ++ [.ref o]) := O.push (q := .every m s) h upd_same hq
theorem Odds.d {H : Hp} {vs : List V} {o : Addr} {d : Int} (O : Odds H vs) (h : H o = none) (hq : Odd (.date d)) : Odds (upd H o (.tup [.str "date", .int d])) (vs ++ [.ref o]) := O.push (q := .date d) h upd_same hq
theorem Odds.n {H : Hp} {vs : List V} {o : Addr} {x k : Int} (O : Odds H vs) (h : H o = none) (hq : Odd (.nth x k)) : Odds (upd H o (.tup [.str "nth", .int x, .int k])) (vs ++ [.ref o]) := O.push (q := .nth x k) h upd_same hq
theorem odd_e {m s : Int} (h : ¬ (1 ≤ m ∧ m ≤ 60)) (h1 : -(10 ^ 62) < m ∧ m < 10 ^ 62) (h2 : -(10 ^ 62) < s ∧ s < 10 ^ 62) : Odd (.every m s) := ⟨trivial, h, h1, h2⟩
theorem odd_d {d : Int} (h : ¬ ((1 ≤ d ∧ d ≤ 37) ∨ (-37 ≤ d ∧ d ≤ -1))) (h1 : -(10 ^ 62) < d ∧ d < 10 ^ 62) : Odd (.date d) := ⟨trivial, h, h1⟩
theorem odd_n {x k : Int} (h : ¬ (((1 ≤ x ∧ x ≤ 5) ∨ (-5 ≤ x ∧ x ≤ -1)) ∧ 0 ≤ k ∧ k < 9)) (h1 : -(10 ^ 62) < x ∧ x < 10 ^ 62) (h2 : -(10 ^ 62) < k ∧ k < 10 ^ 62) : Odd (.nth x k) := ⟨trivial, h, h1, h2⟩
structure Lst (H HC : Hp) (p l : Addr) (r : Rule) (vs : List V) : Prop where
  same : Same H HC
  rule : RuleAt HC p r
  lst : HC l = some (.lst vs)
  odds : Odds HC vs
  fresh : H l = none
theorem _root_.L2.Same.nw {H H' : Hp} {p : Addr} (s : Same H H') (h : H' p = none) {o : HO} : Same H (upd H' p o) := s.trans (same_new h o)
theorem Odds.app {H : Hp} {us vs : List V} (h : Odds H us) (h' : Odds H vs) : Odds H (us ++ vs) := fun v hv => by
  rcases List.mem_append.mp hv with z | z
  · exact h v z
  · exact h' v z
theorem by_fin {H : Hp} {U : Hp → Prop} {G : Prop} (h1 : (∀ H1, Same H H1 → U H1) → G) (h2 : ∀ H1, Same H H1 → U H1) : G := h1 h2
theorem five {σ : L2.St} (h : σ.length = 5) : ∃ a b c d e, σ = [a, b, c, d, e] := by
  match σ, h with
  | [a, b, c, d, e], _ => exact ⟨a, b, c, d, e, rfl⟩
def spToldB (n : Nat) : Sp := fun vs H Q _ => ∃ (i : Int) (a : Addr) (r : Rule), vs = [.int i, .ref a] ∧ 0 ≤ i ∧ i < 9 ∧ RuleAt H a r ∧ ¬ Good r ∧ Tn r ∧ Low r ∧ size r ≤ 1000 ∧ depth r < n ∧ ∀ H', Same H H' → Q (.str "no rule") H'
def spToldG (n : Nat) : Sp := fun vs H Q _ => ∃ (i : Int) (a : Addr) (r : Rule), vs = [.int i, .ref a] ∧ 0 ≤ i ∧ i < 9 ∧ RuleAt H a r ∧ Good r ∧ Low r ∧ size r ≤ 1000 ∧ depth r < n ∧ turn r ≤ 1000000 ∧ ∀ H', Same H H' → Q (.str (if i = 5 then "no count" else "done")) H'
def spNthC (n : Nat) (C : Addr) : Sp := fun vs H _ E => ∃ (a : Addr) (r : Rule) (d m : Int), vs = [.ref a, .int d, .int m] ∧ RuleAt H a r ∧ Good r ∧ depth r < n ∧ turn r ≤ 1000000 ∧ m < 1 ∧ ∀ H', Same H H' → E (.ref C) none H'
section
variable {P : Program} {w : World} {K : PySem.W.Frag} {mg : Str → Option Value} {base : Heap} {A : Adr} {aF aW aK f1 f2 f3 Ra Ca La Fa : Addr}
theorem ok_nthC {n k : Nat} (D : Df K mg "nth_day" sNthDay ["rule", "day", "many"]) (T : T02 K mg base aF aW aK f1 f2 f3 Ra Ca La Fa) (C_part_of : Has P w K mg base k "part_of" ["rule"] (spPart A n)) : HasX P w K mg base (k + 1) "nth_day" ["rule", "day", "many"] (spNthC n Ca) := by
  refine Df.okX D xsc_nth_day (fun vs H Q E h => ?_) (fun f cdv Ar outer s H vs Q E hr h => ?_)
  · obtain ⟨a, r, d, m, rfl, _⟩ := h
    rfl
  obtain ⟨a, r, d, m, rfl, hR, hG, hd, ht, hm, q⟩ := h
  refine ⟨_, (pss_cons (ps_set (i := 3) xsc_nth_day.nd rfl (Or.inl rfl) (pe_has C_part_of hr (Nat.le_refl _) (pa_cons (pv 0) pa_nil star_n)))
    (pss_cons (ps_if (pt_cmpR op_lt (pv 2) pe_int (nomark _)) (pss_one (ps_raise T.o_NoCount excBase_ValueError rfl (pa_cons pe_str pa_nil star_c) (fun _ _ _ _ _ _ _ I hm q => xe_raise I hm q))) pss_nil) pss_never)), ?_⟩
  refine ⟨_, rfl, a, r, fun _ => none, rfl, hR, hG, hd, ht, (fun b r h => by cases h), fun p G' H1 s1 gn P1 M1 => ?_⟩
  refine ⟨_, rfl, _, _, rfl, rfl, _, rfl, ?_⟩
  rw [decide_eq_true hm]
  exact iteT ⟨(by show 1 ≤ sizeLine; decide), q H1 s1⟩
theorem ok_nextG {n k : Nat} (D : Df K mg "next_day" sNext ["rule", "day"]) (C_nth_day : Has P w K mg base k "nth_day" ["rule", "day", "many"] (spNthDay n)) : Has P w K mg base (k + 1) "next_day" ["rule", "day"] (spAny2 n) := by
  refine D.ok xsc_next_day (fun vs H Q E h => ?_) (fun f cdv Ar outer s H vs Q E hr h => ?_)
  · obtain ⟨a, r, d, rfl, _⟩ := h
    rfl
  obtain ⟨a, r, d, rfl, hR, hG, hd, ht, q⟩ := h
  refine ⟨_, (pss_one (ps_ret (pe_has C_nth_day hr (Nat.le_refl _) (pa_cons (pv 0) (pa_cons (pv 1) (pa_cons pe_int pa_nil star_c) star_n) star_n)))), ?_⟩
  exact ⟨_, rfl, _, rfl, a, r, d, 1, rfl, hR, hG, hd, ht, by decide, fun H' s' => ⟨fun hc => q _ H' s', fun hc => q _ H' s'⟩⟩
theorem sc_law_lined : FnScope ["_law_rule", "_law_words", "_law_first"] ["_law_rule"] (defScope sLawLined) := ⟨rfl, rfl, rfl, by decide +kernel, rfl, by decide +kernel, by decide +kernel⟩
def lawWords : List (Key × V) := [(.inr "both", .str "and"), (.inr "either", .str "or"), (.inr "but", .str "but"), (.inr "moved", .str "off")]
theorem law_words {k : Str} {v : V} (h : PyProof.Rows.KTD.datumAt k [("both", V.str "and"), ("either", .str "or"), ("but", .str "but"), ("moved", .str "off")] = some v) : valV (mergeK [] lawWords) (.inr k) = some v := by
  obtain ⟨_, _, _, _, _, _, _, _, _, _, _, _, b4, b5, b6, b7, b8, b9⟩ := kinds_ne
  by_cases h1 : k = "both"
  · subst h1
    have e : v = .str "and" := by simpa [PyProof.Rows.KTD.datumAt] using h.symm
    subst e
    decide +kernel
  by_cases h2 : k = "either"
  · subst h2
    have e : v = .str "or" := by simpa [PyProof.Rows.KTD.datumAt, b4] using h.symm
    subst e
    decide +kernel
  by_cases h3 : k = "but"
  · subst h3
    have e : v = .str "but" := by simpa [PyProof.Rows.KTD.datumAt, b5, b6] using h.symm
    subst e
    decide +kernel
  by_cases h4 : k = "moved"
  · subst h4
    have e : v = .str "off" := by simpa [PyProof.Rows.KTD.datumAt, b7, b8, b9] using h.symm
    subst e
    decide +kernel
  simp [PyProof.Rows.KTD.datumAt, h1, h2, h3, h4] at h
theorem not_plain {k : Str} (h : PyProof.Rows.KTD.datumAt k [("every", V.ref 0), ("date", .ref 0), ("nth", .ref 0)] = none) : decide (V.str k = V.str "every") = false ∧ decide (V.str k = V.str "date") = false ∧ decide (V.str k = V.str "nth") = false := by
  refine ⟨decide_eq_false fun z => ?_, decide_eq_false fun z => ?_, decide_eq_false fun z => ?_⟩
  · injection z with z
    subst z
    simp [PyProof.Rows.KTD.datumAt] at h
  · injection z with z
    subst z
    simp [PyProof.Rows.KTD.datumAt] at h
  · injection z with z
    subst z
    simp [PyProof.Rows.KTD.datumAt] at h
set_option maxHeartbeats 4000000 in
theorem ok_lined {n k : Nat} (D : Df K mg "_law_lined" sLawLined ["_law_rule"]) (T : Ltx K mg aF aW aK f1 f2 f3) (C__law_lined : Has P w K mg base k "_law_lined" ["_law_rule"] (spLineOf n)) : Has P w K mg base (k + 1) "_law_lined" ["_law_rule"] (spLineOf (n + 1)) := by
  refine D.ok sc_law_lined (fun vs H Q E h => ?_) (fun fa cdv Ar outer s H vs Q E hr h => ?_)
  · obtain ⟨a, r, rfl, _⟩ := h
    rfl
  obtain ⟨a, r, rfl, hR, hL, hz, hd, q⟩ := h
  have hu := Nat.lt_of_le_of_lt (Nat.add_le_add_left (show 1 ≤ 64 by decide) _) hr.units
  refine ⟨_, (pss_cons (ps_set (i := 1) sc_law_lined.nd rfl (Or.inl rfl) (pe_disp (pps_cons pe_str pe_str (pps_cons pe_str pe_str (pps_cons pe_str pe_str (pps_cons pe_str pe_str pps_nil)))) rfl rfl (by simp) (by decide)))
    (pss_cons (ps_if (pt_cmpR op_eq (pe_ix ix_tup (pv 0) pe_int (fun _ _ => rfl)) pe_str (nomark _)) (pss_one (ps_ret (pe_op op_add_str (pe_op op_add_str (pe_op op_add_str pe_str (pe_callTy call_str_int rfl T.z_str b_str (pa_cons (pe_ix ix_tup (pv 0) pe_int (fun _ _ => rfl)) pa_nil star_s))) pe_str) (pe_callTy call_str_int rfl T.z_str b_str (pa_cons (pe_ix ix_tup (pv 0) pe_int (fun _ _ => rfl)) pa_nil star_s))))) pss_nil)
    (pss_cons (ps_if (pt_cmpR op_eq (pe_ix ix_tup (pv 0) pe_int (fun _ _ => rfl)) pe_str (nomark _)) (pss_one (ps_ret (pe_op op_add_str pe_str (pe_callTy call_str_int rfl T.z_str b_str (pa_cons (pe_ix ix_tup (pv 0) pe_int (fun _ _ => rfl)) pa_nil star_s))))) pss_nil)
    (pss_cons (ps_if (pt_cmpR op_eq (pe_ix ix_tup (pv 0) pe_int (fun _ _ => rfl)) pe_str (nomark _)) (pss_one (ps_ret (pe_op op_add_str (pe_op op_add_str (pe_op op_add_str pe_str (pe_callTy call_str_int rfl T.z_str b_str (pa_cons (pe_ix ix_tup (pv 0) pe_int (fun _ _ => rfl)) pa_nil star_s))) pe_str) (pe_callTy call_str_int rfl T.z_str b_str (pa_cons (pe_ix ix_tup (pv 0) pe_int (fun _ _ => rfl)) pa_nil star_s))))) pss_nil)
    (pss_cons (ps_set (i := 2) sc_law_lined.nd rfl (Or.inl rfl) (pe_has C__law_lined hr (by omega) (pa_cons (pe_ix ix_tup (pv 0) pe_int (fun _ _ => rfl)) pa_nil star_s)))
    (pss_one (ps_ret (pe_op op_add_str (pe_op op_add_str (pe_op op_add_str (pe_op op_add_str (pe_op op_add_str (pe_op op_add_str pe_str (pv 2)) pe_str) (pe_dget hu (pv 1) (pe_ix ix_tup (pv 0) pe_int (fun _ _ => rfl)) (fun _ _ => rfl))) pe_str) (pe_has C__law_lined hr (by omega) (pa_cons (pe_ix ix_tup (pv 0) pe_int (fun _ _ => rfl)) pa_nil star_s))) pe_str)))))))), ?_⟩
  refine fun wa hwa => ⟨upd_same, lawWords, rfl, by decide, ?_⟩
  have s0 : Same H (upd (upd H wa (.dK [])) wa (.dK (mergeK [] lawWords))) := (same_new hwa _).upd_new hwa _
  have hw : (upd (upd H wa (.dK [])) wa (.dK (mergeK [] lawWords))) wa = some (.dK (mergeK [] lawWords)) := upd_same
  revert s0 hw
  generalize upd (upd H wa (.dK [])) wa (.dK (mergeK [] lawWords)) = H0
  intro s0 hw
  have c : ("every " : Str).length = 6 ∧ (" from " : Str).length = 6 ∧ ("date " : Str).length = 5 ∧ ("nth " : Str).length = 4 ∧ (" weekday " : Str).length = 9 ∧ ("( " : Str).length = 2 ∧ (" " : Str).length = 1 ∧ (" )" : Str).length = 2 := by decide +kernel
  have nl : ∀ {i : Int}, -(10 ^ 62) < i ∧ i < 10 ^ 62 → (Str.ofString (toString i)).length ≤ 63 := fun h => num_len h
  rcases two_of hR with hP | ⟨kd, wd, x, y, p, p2, W⟩
  · cases r with
    | every m st =>
      have hT : H0 a = some (.tup [.str "every", .int m, .int st]) := s0 _ _ hR
      have h1 := nl hL.1
      have h2 := nl hL.2
      refine ⟨_, rfl, a, _, _, _, rfl, rfl, SqT.of hT, rfl, rfl, _, rfl, iteP (by decide +kernel) ?_⟩
      exact ⟨_, rfl, a, _, _, _, rfl, rfl, SqT.of hT, rfl, m, rfl, log_low hL.1, _, _, rfl, rfl, fits (by omega), _, _, rfl, rfl, fits (by simp only [len_app, c]; omega), _, rfl, a, _, _, _, rfl, rfl, SqT.of hT, rfl, st, rfl, log_low hL.2, _, _, rfl, rfl, fits (by simp only [len_app, c]; omega), q _ s0⟩
    | date d =>
      have hT : H0 a = some (.tup [.str "date", .int d]) := s0 _ _ hR
      have h1 := nl hL
      refine ⟨_, rfl, a, _, _, _, rfl, rfl, SqT.of hT, rfl, rfl, _, rfl, iteN (by decide +kernel) ?_⟩
      refine ⟨_, rfl, a, _, _, _, rfl, rfl, SqT.of hT, rfl, rfl, _, rfl, iteP (by decide +kernel) ?_⟩
      exact ⟨_, rfl, a, _, _, _, rfl, rfl, SqT.of hT, rfl, d, rfl, log_low hL, _, _, rfl, rfl, fits (by omega), q _ s0⟩
    | nth x k =>
      have hT : H0 a = some (.tup [.str "nth", .int x, .int k]) := s0 _ _ hR
      have h1 := nl hL.1
      have h2 := nl hL.2
      refine ⟨_, rfl, a, _, _, _, rfl, rfl, SqT.of hT, rfl, rfl, _, rfl, iteN (by decide +kernel) ?_⟩
      refine ⟨_, rfl, a, _, _, _, rfl, rfl, SqT.of hT, rfl, rfl, _, rfl, iteN (by decide +kernel) ?_⟩
      refine ⟨_, rfl, a, _, _, _, rfl, rfl, SqT.of hT, rfl, rfl, _, rfl, iteP (by decide +kernel) ?_⟩
      exact ⟨_, rfl, a, _, _, _, rfl, rfl, SqT.of hT, rfl, x, rfl, log_low hL.1, _, _, rfl, rfl, fits (by omega), _, _, rfl, rfl, fits (by simp only [len_app, c]; omega), _, rfl, a, _, _, _, rfl, rfl, SqT.of hT, rfl, k, rfl, log_low hL.2, _, _, rfl, rfl, fits (by simp only [len_app, c]; omega), q _ s0⟩
    | _ => exact hP.elim
  · obtain ⟨lx, ly⟩ := W.lx hL
    have Wz := W.sz
    have Wd := W.dp
    have hT := s0 _ _ W.at_
    obtain ⟨n1, n2, n3⟩ := not_plain (k := kd) W.nf
    have l1 := line_len lx
    have l2 := line_len ly
    have l3 := W.wl
    refine ⟨_, rfl, a, _, _, _, rfl, rfl, SqT.of hT, rfl, rfl, _, rfl, iteN n1 ?_⟩
    refine ⟨_, rfl, a, _, _, _, rfl, rfl, SqT.of hT, rfl, rfl, _, rfl, iteN n2 ?_⟩
    refine ⟨_, rfl, a, _, _, _, rfl, rfl, SqT.of hT, rfl, rfl, _, rfl, iteN n3 ?_⟩
    refine ⟨_, rfl, a, _, _, _, rfl, rfl, SqT.of hT, rfl, p, x, rfl, W.ax.mono (.of s0), lx, by omega, by omega, fun H1 s1 => ?_⟩
    refine ⟨_, rfl, _, _, rfl, rfl, fits (by omega), _, _, rfl, rfl, fits (by simp only [len_app, c]; omega), ?_⟩
    refine ⟨_, rfl, _, rfl, a, _, _, _, rfl, rfl, SqT.of (s1 _ _ hT), rfl, wa, _, rfl, by rw [← law_words W.wd_]; exact DGet.k (k := .inr kd) (s1 _ _ hw), ?_⟩
    refine ⟨_, _, rfl, rfl, fits (by simp only [len_app, c]; omega), _, _, rfl, rfl, fits (by simp only [len_app, c]; omega), ?_⟩
    refine ⟨_, rfl, a, _, _, _, rfl, rfl, SqT.of (s1 _ _ hT), rfl, p2, y, rfl, W.ay.mono (.of (s0.trans s1)), ly, by omega, by omega, fun H2 s2 => ?_⟩
    refine ⟨_, _, rfl, rfl, fits (by simp only [len_app, c]; omega), _, _, rfl, rfl, fits (by simp only [len_app, c]; omega), ?_⟩
    rw [← W.line]
    exact q H2 (s0.trans (s1.trans s2))
theorem all_lined (D : Df K mg "_law_lined" sLawLined ["_law_rule"]) (T : Ltx K mg aF aW aK f1 f2 f3) : ∀ n : Nat, Has P w K mg base n "_law_lined" ["_law_rule"] (spLineOf n)
  | 0 => by
    obtain ⟨f, fd, F, b, m⟩ := D
    have no : ∀ vs H Q E, ¬ spLineOf 0 vs H Q E := fun vs H Q E h => by
      obtain ⟨a, r, _, _, _, _, h1, _⟩ := h
      omega
    exact ⟨f, fd, ⟨fun vs H Q E h => absurd h (no vs H Q E), fun A outer s H args us vs Q E _ _ _ _ h => absurd h (no vs H Q E)⟩, b, F.kp, m⟩
  | n + 1 => ok_lined D T (all_lined D T n)
theorem sc_law_spoilt : FnScope ["_law_rule", "_law_odd", "_law_seed"] ["_law_rule", "_law_odd", "_law_seed"] (defScope sLawSpoilt) := ⟨rfl, rfl, rfl, by decide +kernel, rfl, by decide +kernel, by decide +kernel⟩
set_option maxHeartbeats 4000000 in
theorem ok_spoilt {n k : Nat} (D : Df K mg "_law_spoilt" sLawSpoilt ["_law_rule", "_law_odd", "_law_seed"]) (C__law_spoilt : Has P w K mg base k "_law_spoilt" ["_law_rule", "_law_odd", "_law_seed"] (spSpoilt n)) : Has P w K mg base (k + 1) "_law_spoilt" ["_law_rule", "_law_odd", "_law_seed"] (spSpoilt (n + 1)) := by
  refine D.ok sc_law_spoilt (fun vs H Q E h => ?_) (fun f cdv Ar outer s H vs Q E hr h => ?_)
  · obtain ⟨a, o, r, r0, sd, rfl, _⟩ := h
    rfl
  obtain ⟨a, o, r, r0, sd, rfl, hR, hG, hN, ht, hd, hO, hodd, q⟩ := h
  refine ⟨_, (pss_cons (ps_if (PW.pt (pw_or (pt_cmpR op_in_seq (pe_ix ix_tup (pv 0) pe_int (fun _ _ => rfl)) (pe_lst (pa_cons pe_str (pa_cons pe_str (pa_cons pe_str pa_nil star_c) star_c) star_c)) (by with_unfolding_all rfl)) (pw_or1 (pt_cmpR op_eq (pe_op op_mod (pv 2) pe_int) pe_int (nomark _))))) (pss_one (ps_ret (pv 1))) pss_nil)
    (pss_cons (ps_if (pt_cmpR op_eq (pe_op op_mod (pv 2) pe_int) pe_int (nomark _)) (pss_one (ps_ret (pe_tup (pa_cons (pe_ix ix_tup (pv 0) pe_int (fun _ _ => rfl)) (pa_cons (pe_has C__law_spoilt hr (by omega) (pa_cons (pe_ix ix_tup (pv 0) pe_int (fun _ _ => rfl)) (pa_cons (pv 1) (pa_cons (pe_op op_fdiv (pv 2) pe_int) pa_nil star_b) star_n) star_s)) (pa_cons (pe_ix ix_tup (pv 0) pe_int (fun _ _ => rfl)) pa_nil star_s) star_k) star_s)))) pss_nil)
    (pss_one (ps_ret (pe_tup (pa_cons (pe_ix ix_tup (pv 0) pe_int (fun _ _ => rfl)) (pa_cons (pe_ix ix_tup (pv 0) pe_int (fun _ _ => rfl)) (pa_cons (pe_has C__law_spoilt hr (by omega) (pa_cons (pe_ix ix_tup (pv 0) pe_int (fun _ _ => rfl)) (pa_cons (pv 1) (pa_cons (pe_op op_fdiv (pv 2) pe_int) pa_nil star_b) star_n) star_s)) pa_nil star_k) star_s) star_s)))))), ?_⟩
  rcases apart_of hR hG hN ht with ⟨kd, x, rest, ha, hin⟩ | ⟨kd, x, y, p, p2, W⟩
  · refine ⟨_, rfl, a, _, _, _, rfl, rfl, SqT.of ha, atI_nat (j := 0) rfl, (by show 3 ≤ sizeLine; decide), fun l hl => ⟨l, _, rfl, .inl (SqL.of upd_same), rfl, rfl, _, rfl, iteP hin ?_⟩⟩
    exact ⟨_, rfl, q o r0 _ (same_new hl _) (hO.mono (.new hl _)) (hodd.spoilt r)⟩
  · refine ⟨_, rfl, a, _, _, _, rfl, rfl, SqT.of W.at_, rfl, (by show 3 ≤ sizeLine; decide), fun l hl => ⟨l, _, rfl, .inl (SqL.of upd_same), rfl, rfl, _, rfl, iteN W.kn ?_⟩⟩
    have s1 := same_new hl (.lst [.str "every", .str "date", .str "nth"])
    have dx := W.dx
    have dy := W.dy
    have h1 := s1 _ _ W.at_
    refine ⟨_, rfl, _, _, rfl, rfl, (by show (0 : Int) < 3; decide), rfl, _, rfl, ite2 (fun _ => ?_) (fun _ => ?_)⟩
    · exact ⟨_, rfl, q o r0 _ s1 (hO.mono (.of s1)) (hodd.spoilt r)⟩
    refine ⟨_, rfl, _, _, rfl, rfl, (by show (0 : Int) < 3; decide), rfl, _, rfl, ite2 (fun _ => ?_) (fun _ => ?_)⟩
    · refine ⟨_, rfl, a, _, _, _, rfl, rfl, SqT.of h1, rfl, ?_⟩
      refine ⟨_, rfl, a, _, _, _, rfl, rfl, SqT.of h1, rfl, _, rfl, _, rfl, _, _, rfl, rfl, ⟨by decide, by decide⟩, p, o, x, r0, _, rfl, W.ax.mono (.of s1), W.gx, W.nx, W.tx, by omega, hO.mono (.of s1), hodd, fun p' x' H2 s2 hx' S => ?_⟩
      have s12 := s1.trans s2
      refine ⟨_, rfl, a, _, _, _, rfl, rfl, SqT.of (s12 _ _ W.at_), rfl, (by show 3 ≤ sizeLine; decide), fun b hb => ?_⟩
      have s3 := same_new hb (.tup [.str kd, .ref p', .ref p2])
      obtain ⟨r', h1', S'⟩ := W.left _ b p' x' (.of (s12.trans s3)) upd_same (hx'.mono (.of s3)) S
      exact q b r' _ (s12.trans s3) h1' S'
    · refine ⟨_, rfl, a, _, _, _, rfl, rfl, SqT.of h1, rfl, ?_⟩
      refine ⟨_, rfl, a, _, _, _, rfl, rfl, SqT.of h1, rfl, ?_⟩
      refine ⟨_, rfl, a, _, _, _, rfl, rfl, SqT.of h1, rfl, _, rfl, _, rfl, _, _, rfl, rfl, ⟨by decide, by decide⟩, p2, o, y, r0, _, rfl, W.ay.mono (.of s1), W.gy, W.ny, W.ty, by omega, hO.mono (.of s1), hodd, fun q' y' H2 s2 hy' S => ?_⟩
      have s12 := s1.trans s2
      refine ⟨(by show 3 ≤ sizeLine; decide), fun b hb => ?_⟩
      have s3 := same_new hb (.tup [.str kd, .ref p, .ref q'])
      obtain ⟨r', h1', S'⟩ := W.right _ b q' y' (.of (s12.trans s3)) upd_same (hy'.mono (.of s3)) S
      exact q b r' _ (s12.trans s3) h1' S'
theorem all_spoilt (D : Df K mg "_law_spoilt" sLawSpoilt ["_law_rule", "_law_odd", "_law_seed"]) : ∀ n : Nat, Has P w K mg base n "_law_spoilt" ["_law_rule", "_law_odd", "_law_seed"] (spSpoilt n)
  | 0 => by
    obtain ⟨f, fd, F, b, m⟩ := D
    have no : ∀ vs H Q E, ¬ spSpoilt 0 vs H Q E := fun vs H Q E h => by
      obtain ⟨a, o, r, r0, sd, _, _, _, _, _, h1, _⟩ := h
      omega
    exact ⟨f, fd, ⟨fun vs H Q E h => absurd h (no vs H Q E), fun A outer s H args us vs Q E _ _ _ _ h => absurd h (no vs H Q E)⟩, b, F.kp, m⟩
  | n + 1 => ok_spoilt D (all_spoilt D n)
theorem sc_law_told : FnScope ["_law_which", "_law_rule", "_law_word", "e", "_law_kinds"] ["_law_which", "_law_rule"] (defScope sLawTold) := ⟨rfl, rfl, rfl, by decide +kernel, rfl, by decide +kernel, by decide +kernel⟩
set_option maxHeartbeats 4000000 in
theorem ok_toldB {n k : Nat} (hn : 1 ≤ n) (hk : n ≤ k) (D : Df K mg "_law_told" sLawTold ["_law_which", "_law_rule"]) (T : T02 K mg base aF aW aK f1 f2 f3 Ra Ca La Fa) (C_has_day : HasX P w K mg base k "has_day" ["rule", "day"] (spBad2 n Ra)) (C_turn_of : HasX P w K mg base k "turn_of" ["rule"] (spBad1 n Ra)) (C_next_day : HasX P w K mg base k "next_day" ["rule", "day"] (spBad2 n Ra)) (C_day_ahead : HasX P w K mg base k "day_ahead" ["rule", "day"] (spBad2 n Ra)) (C_how_many : HasX P w K mg base k "how_many" ["rule", "first", "last"] (spBad3 n Ra)) (C_nth_day : HasX P w K mg base k "nth_day" ["rule", "day", "many"] (spBad3 n Ra)) (C_shown : HasX P w K mg base k "shown" ["rule"] (spBad1 n Ra)) (C_leaf : HasX P w K mg base k "leaf" ["diary", "first", "last"] (spLeafX n Ra)) (C_read : HasX P w K mg base k "read" ["line"] (spReadX Ra))
    (C__law_lined : Has P w K mg base n "_law_lined" ["_law_rule"] (spLineOf n)) : Has P w K mg base (k + 1) "_law_told" ["_law_which", "_law_rule"] (spToldB n) := by
  refine D.ok sc_law_told (fun vs H Q E h => ?_) (fun f cdv Ar outer s H vs Q E hr h => ?_)
  · obtain ⟨i, a, r, rfl, _⟩ := h
    rfl
  obtain ⟨i, a, r, rfl, h0, h9, hR, hG, hT, hL, hz, hd, q⟩ := h
  refine ⟨_, (pss_cons (ps_set (i := 2) sc_law_told.nd rfl (Or.inl rfl) pe_str)
    (pss_cons (ps_try (i := 3) rfl rfl sc_law_told.nd rfl rfl (fun pn E => (pss_one (ps_if (pt_cmpR op_eq (pv 0) pe_int (nomark _)) (pss_one (ps_expr (pe_hasX C_has_day hr (by omega) pass_t (pa_cons (pv 1) (pa_cons pe_int pa_nil star_c) star_n)))) (pss_one (ps_if (pt_cmpR op_eq (pv 0) pe_int (nomark _)) (pss_one (ps_expr (pe_hasX C_turn_of hr (by omega) pass_t (pa_cons (pv 1) pa_nil star_n)))) (pss_one (ps_if (pt_cmpR op_eq (pv 0) pe_int (nomark _)) (pss_one (ps_expr (pe_hasX C_next_day hr (by omega) pass_t (pa_cons (pv 1) (pa_cons pe_int pa_nil star_c) star_n)))) (pss_one (ps_if (pt_cmpR op_eq (pv 0) pe_int (nomark _)) (pss_one (ps_expr (pe_hasX C_day_ahead hr (by omega) pass_t (pa_cons (pv 1) (pa_cons pe_int pa_nil star_c) star_n)))) (pss_one (ps_if (pt_cmpR op_eq (pv 0) pe_int (nomark _)) (pss_one (ps_expr (pe_hasX C_how_many hr (by omega) pass_t (pa_cons (pv 1) (pa_cons pe_int (pa_cons pe_int pa_nil star_c) star_c) star_n)))) (pss_one (ps_if (pt_cmpR op_eq (pv 0) pe_int (nomark _)) (pss_one (ps_expr (pe_hasX C_nth_day hr (by omega) pass_t (pa_cons (pv 1) (pa_cons pe_int (pa_cons pe_int pa_nil star_c) star_c) star_n)))) (pss_one (ps_if (pt_cmpR op_eq (pv 0) pe_int (nomark _)) (pss_one (ps_expr (pe_hasX C_shown hr (by omega) pass_t (pa_cons (pv 1) pa_nil star_n)))) (pss_one (ps_if (pt_cmpR op_eq (pv 0) pe_int (nomark _)) (pss_one (ps_expr (pe_hasX C_leaf hr (by omega) pass_t (pa_cons (pe_lst (pa_cons (pe_tup (pa_cons pe_str (pa_cons (pe_tup (pa_cons pe_str (pa_cons pe_int pa_nil star_c) star_c)) pa_nil star_t) star_c)) (pa_cons (pe_tup (pa_cons pe_str (pa_cons (pv 1) pa_nil star_n) star_c)) pa_nil star_t) star_t)) (pa_cons pe_int (pa_cons pe_int pa_nil star_c) star_c) star_l)))) (pss_one (ps_expr (pe_hasX C_read hr (by omega) pass_t (pa_cons (pe_has C__law_lined hr (by omega) (pa_cons (pv 1) pa_nil star_n)) pa_nil star_k))))))))))))))))))))) (fun x => (pss_cons (ps_set (i := 2) sc_law_told.nd rfl (Or.inl rfl) pe_str)
    (pss_cons (ps_if (pt_val (pe_isexc T.z_isinstance T.m_NoRule (pv 3))) (pss_one (ps_set (i := 2) sc_law_told.nd rfl (Or.inl rfl) pe_str)) pss_nil)
    (pss_cons (ps_if (pt_val (pe_isexc T.z_isinstance T.m_NoCount (pv 3))) (pss_one (ps_set (i := 2) sc_law_told.nd rfl (Or.inl rfl) pe_str)) pss_nil)
    (pss_cons (ps_set (i := 4) sc_law_told.nd rfl (Or.inl rfl) (pe_lst (pa_cons (pe_isexc T.z_isinstance T.m_NoRule (pv 3)) (pa_cons (pe_isexc T.z_isinstance T.m_NoCount (pv 3)) (pa_cons (pe_isexc T.z_isinstance T.m_NoLine (pv 3)) pa_nil star_k) star_k) star_k)))
    (pss_one (ps_if (PW.pt (pw_or (pt_cmpR op_ne (pe_bm PySem.F.plainAttrs_list PySem.F.slot_list_count PySem.F.type_list_count mt_count (pv 4) (pa_cons pe_bl pa_nil star_c)) pe_int (nomark _)) (pw_or1 (pt_not (pt_val (pe_isexcT T.z_isinstance T.z_ValueError b_ValueError (pv 3))))))) (pss_one (ps_set (i := 2) sc_law_told.nd rfl (Or.inl rfl) pe_str)) pss_nil))))))) T.m_FairError)
    (pss_one (ps_ret (pv 2))))), ?_⟩
  refine fun pn => ?_
  refine' by_fin (H := H) (fun fin => ?a1) ?b1
  case a1 =>
    have hi : i = 0 ∨ i = 1 ∨ i = 2 ∨ i = 3 ∨ i = 4 ∨ i = 5 ∨ i = 6 ∨ i = 7 ∨ i = 8 := by omega
    rcases hi with rfl | rfl | rfl | rfl | rfl | rfl | rfl | rfl | rfl
    · exact ⟨_, rfl, rfl, _, rfl, iteP (by decide +kernel) ⟨_, rfl, a, r, 3, rfl, hR, hG, hT, hd, fun H1 s1 => fin H1 s1⟩⟩
    · exact ⟨_, rfl, rfl, _, rfl, iteN (by decide +kernel) ⟨_, rfl, rfl, _, rfl, iteP (by decide +kernel) ⟨_, rfl, a, r, rfl, hR, hG, hT, hd, fun H1 s1 => fin H1 s1⟩⟩⟩
    · exact ⟨_, rfl, rfl, _, rfl, iteN (by decide +kernel) ⟨_, rfl, rfl, _, rfl, iteN (by decide +kernel) ⟨_, rfl, rfl, _, rfl, iteP (by decide +kernel) ⟨_, rfl, a, r, 3, rfl, hR, hG, hT, hd, fun H1 s1 => fin H1 s1⟩⟩⟩⟩
    · exact ⟨_, rfl, rfl, _, rfl, iteN (by decide +kernel) ⟨_, rfl, rfl, _, rfl, iteN (by decide +kernel) ⟨_, rfl, rfl, _, rfl, iteN (by decide +kernel) ⟨_, rfl, rfl, _, rfl, iteP (by decide +kernel) ⟨_, rfl, a, r, 3, rfl, hR, hG, hT, hd, fun H1 s1 => fin H1 s1⟩⟩⟩⟩⟩
    · exact ⟨_, rfl, rfl, _, rfl, iteN (by decide +kernel) ⟨_, rfl, rfl, _, rfl, iteN (by decide +kernel) ⟨_, rfl, rfl, _, rfl, iteN (by decide +kernel) ⟨_, rfl, rfl, _, rfl, iteN (by decide +kernel) ⟨_, rfl, rfl, _, rfl, iteP (by decide +kernel) ⟨_, rfl, a, r, 3, 2, rfl, hR, hG, hT, hd, fun H1 s1 => fin H1 s1⟩⟩⟩⟩⟩⟩
    · exact ⟨_, rfl, rfl, _, rfl, iteN (by decide +kernel) ⟨_, rfl, rfl, _, rfl, iteN (by decide +kernel) ⟨_, rfl, rfl, _, rfl, iteN (by decide +kernel) ⟨_, rfl, rfl, _, rfl, iteN (by decide +kernel) ⟨_, rfl, rfl, _, rfl, iteN (by decide +kernel) ⟨_, rfl, rfl, _, rfl, iteP (by decide +kernel) ⟨_, rfl, a, r, 3, 0, rfl, hR, hG, hT, hd, fun H1 s1 => fin H1 s1⟩⟩⟩⟩⟩⟩⟩
    · exact ⟨_, rfl, rfl, _, rfl, iteN (by decide +kernel) ⟨_, rfl, rfl, _, rfl, iteN (by decide +kernel) ⟨_, rfl, rfl, _, rfl, iteN (by decide +kernel) ⟨_, rfl, rfl, _, rfl, iteN (by decide +kernel) ⟨_, rfl, rfl, _, rfl, iteN (by decide +kernel) ⟨_, rfl, rfl, _, rfl, iteN (by decide +kernel) ⟨_, rfl, rfl, _, rfl, iteP (by decide +kernel) ⟨_, rfl, a, r, rfl, hR, hG, hT, hd, fun H1 s1 => fin H1 s1⟩⟩⟩⟩⟩⟩⟩⟩
    · refine ⟨_, rfl, rfl, _, rfl, iteN (by decide +kernel) ⟨_, rfl, rfl, _, rfl, iteN (by decide +kernel) ⟨_, rfl, rfl, _, rfl, iteN (by decide +kernel) ⟨_, rfl, rfl, _, rfl, iteN (by decide +kernel) ⟨_, rfl, rfl, _, rfl, iteN (by decide +kernel) ⟨_, rfl, rfl, _, rfl, iteN (by decide +kernel) ⟨_, rfl, rfl, _, rfl, iteN (by decide +kernel) ⟨_, rfl, rfl, _, rfl, iteP (by decide +kernel) ⟨(by show 2 ≤ sizeLine; decide), fun t1 h1 => ⟨(by show 2 ≤ sizeLine; decide), fun t2 h2 => ⟨_, rfl, (by show 2 ≤ sizeLine; decide), fun t3 h3 => ⟨(by show 2 ≤ sizeLine; decide), fun L hL4 => ?_⟩⟩⟩⟩⟩⟩⟩⟩⟩⟩⟩⟩
      have k1 := same_new h1 (.tup [.str "date", .int 3])
      have k2 := same_new h2 (.tup [.str "a", .ref t1])
      have k3 := same_new h3 (.tup [.str "b", .ref a])
      have k4 := same_new hL4 (.lst [.ref t2, .ref t3])
      have kk := k1.trans (k2.trans (k3.trans k4))
      have two : Two2 _ n L t2 t3 a := ⟨"a", "b", t1, .date 3, upd_same, k4 _ _ (k3 _ _ upd_same), k4 _ _ (k3 _ _ (k2 _ _ upd_same)), .inl ⟨by decide, by decide⟩, (by show 0 < n; omega), (by show 72 ≤ 1000000; decide), k4 _ _ upd_same⟩
      exact ⟨L, t2, t3, a, r, 5, 4, rfl, two, hR.mono (.of kk), hG, hT, hd, fun H5 s5 => fin H5 (kk.trans s5)⟩
    · exact ⟨_, rfl, rfl, _, rfl, iteN (by decide +kernel) ⟨_, rfl, rfl, _, rfl, iteN (by decide +kernel) ⟨_, rfl, rfl, _, rfl, iteN (by decide +kernel) ⟨_, rfl, rfl, _, rfl, iteN (by decide +kernel) ⟨_, rfl, rfl, _, rfl, iteN (by decide +kernel) ⟨_, rfl, rfl, _, rfl, iteN (by decide +kernel) ⟨_, rfl, rfl, _, rfl, iteN (by decide +kernel) ⟨_, rfl, rfl, _, rfl, iteN (by decide +kernel) ⟨_, rfl, a, r, rfl, hR, hL, hz, hd, fun H1 s1 => ⟨r, rfl, hG, hL, hz, fun H2 s2 => fin H2 (s1.trans s2)⟩⟩⟩⟩⟩⟩⟩⟩⟩⟩
  case b1 =>
    intro H1 s1
    refine ⟨T.xmR, fun x σ' hx hl => ?_⟩
    obtain ⟨y1, y2, y3, y4, y5, rfl⟩ := five hl
    have s2 := s1.trans (same_new hx (XO x (.ref Ra)))
    have hX : (upd H1 x (XO x (.ref Ra))) x = some (XO x (.ref Ra)) := upd_same
    revert s2 hX
    generalize upd H1 x (XO x (.ref Ra)) = H2
    intro s2 hX
    refine ⟨_, rfl, x, Ra, true, rfl, hX, T.xcR, kit_same, _, rfl, iteT ?_⟩
    refine ⟨_, rfl, x, Ra, false, rfl, hX, T.xcR, T.kRC, _, rfl, iteF ?_⟩
    refine ⟨_, rfl, x, Ra, true, rfl, hX, T.xcR, kit_same, _, rfl, x, Ra, false, rfl, hX, T.xcR, T.kRC, _, rfl, x, Ra, false, rfl, hX, T.xcR, T.kRL, (by show 3 ≤ sizeLine; decide), fun kl hkl => ?_⟩
    have s3 := same_new hkl (.lst [.bl true, .bl false, .bl false])
    refine ⟨_, rfl, .inl ⟨rfl, _, SqL.of upd_same⟩, kl, _, _, rfl, rfl, SqL.of upd_same, rfl, rfl, rfl, _, rfl, iteN (by decide +kernel) ?_⟩
    refine ⟨_, rfl, x, Ra, true, rfl, s3 _ _ hX, T.xcR, T.kRV, _, rfl, iteF ?_⟩
    exact ⟨_, rfl, q _ (s2.trans s3)⟩
set_option maxHeartbeats 4000000 in
theorem ok_toldG {n k : Nat} (hn : 1 ≤ n) (hk : n ≤ k) (D : Df K mg "_law_told" sLawTold ["_law_which", "_law_rule"]) (T : T02 K mg base aF aW aK f1 f2 f3 Ra Ca La Fa) (C_has_day : HasX P w K mg base k "has_day" ["rule", "day"] (spHasDay n)) (C_turn_of : HasX P w K mg base k "turn_of" ["rule"] (spAny1 n)) (C_next_day : HasX P w K mg base k "next_day" ["rule", "day"] (spAny2 n)) (C_day_ahead : HasX P w K mg base k "day_ahead" ["rule", "day"] (spAny2 n)) (C_how_many : HasX P w K mg base k "how_many" ["rule", "first", "last"] (spAny3 n)) (C_nth_day : HasX P w K mg base k "nth_day" ["rule", "day", "many"] (spNthC n Ca)) (C_shown : HasX P w K mg base k "shown" ["rule"] (spShown n)) (C_leaf : HasX P w K mg base k "leaf" ["diary", "first", "last"] (spLeafG n)) (C_read : HasX P w K mg base k "read" ["line"] (spRead))
    (C__law_lined : Has P w K mg base n "_law_lined" ["_law_rule"] (spLineOf n)) : Has P w K mg base (k + 1) "_law_told" ["_law_which", "_law_rule"] (spToldG n) := by
  refine D.ok sc_law_told (fun vs H Q E h => ?_) (fun f cdv Ar outer s H vs Q E hr h => ?_)
  · obtain ⟨i, a, r, rfl, _⟩ := h
    rfl
  obtain ⟨i, a, r, rfl, h0, h9, hR, hG, hL, hz, hd, ht, q⟩ := h
  refine ⟨_, (pss_cons (ps_set (i := 2) sc_law_told.nd rfl (Or.inl rfl) pe_str)
    (pss_cons (ps_try (i := 3) rfl rfl sc_law_told.nd rfl rfl (fun pn E => (pss_one (ps_if (pt_cmpR op_eq (pv 0) pe_int (nomark _)) (pss_one (ps_expr (pe_hasX C_has_day hr (by omega) pass_t (pa_cons (pv 1) (pa_cons pe_int pa_nil star_c) star_n)))) (pss_one (ps_if (pt_cmpR op_eq (pv 0) pe_int (nomark _)) (pss_one (ps_expr (pe_hasX C_turn_of hr (by omega) pass_t (pa_cons (pv 1) pa_nil star_n)))) (pss_one (ps_if (pt_cmpR op_eq (pv 0) pe_int (nomark _)) (pss_one (ps_expr (pe_hasX C_next_day hr (by omega) pass_t (pa_cons (pv 1) (pa_cons pe_int pa_nil star_c) star_n)))) (pss_one (ps_if (pt_cmpR op_eq (pv 0) pe_int (nomark _)) (pss_one (ps_expr (pe_hasX C_day_ahead hr (by omega) pass_t (pa_cons (pv 1) (pa_cons pe_int pa_nil star_c) star_n)))) (pss_one (ps_if (pt_cmpR op_eq (pv 0) pe_int (nomark _)) (pss_one (ps_expr (pe_hasX C_how_many hr (by omega) pass_t (pa_cons (pv 1) (pa_cons pe_int (pa_cons pe_int pa_nil star_c) star_c) star_n)))) (pss_one (ps_if (pt_cmpR op_eq (pv 0) pe_int (nomark _)) (pss_one (ps_expr (pe_hasX C_nth_day hr (by omega) pass_t (pa_cons (pv 1) (pa_cons pe_int (pa_cons pe_int pa_nil star_c) star_c) star_n)))) (pss_one (ps_if (pt_cmpR op_eq (pv 0) pe_int (nomark _)) (pss_one (ps_expr (pe_hasX C_shown hr (by omega) pass_t (pa_cons (pv 1) pa_nil star_n)))) (pss_one (ps_if (pt_cmpR op_eq (pv 0) pe_int (nomark _)) (pss_one (ps_expr (pe_hasX C_leaf hr (by omega) pass_t (pa_cons (pe_lst (pa_cons (pe_tup (pa_cons pe_str (pa_cons (pe_tup (pa_cons pe_str (pa_cons pe_int pa_nil star_c) star_c)) pa_nil star_t) star_c)) (pa_cons (pe_tup (pa_cons pe_str (pa_cons (pv 1) pa_nil star_n) star_c)) pa_nil star_t) star_t)) (pa_cons pe_int (pa_cons pe_int pa_nil star_c) star_c) star_l)))) (pss_one (ps_expr (pe_hasX C_read hr (by omega) pass_t (pa_cons (pe_has C__law_lined hr (by omega) (pa_cons (pv 1) pa_nil star_n)) pa_nil star_k))))))))))))))))))))) (fun x => (pss_cons (ps_set (i := 2) sc_law_told.nd rfl (Or.inl rfl) pe_str)
    (pss_cons (ps_if (pt_val (pe_isexc T.z_isinstance T.m_NoRule (pv 3))) (pss_one (ps_set (i := 2) sc_law_told.nd rfl (Or.inl rfl) pe_str)) pss_nil)
    (pss_cons (ps_if (pt_val (pe_isexc T.z_isinstance T.m_NoCount (pv 3))) (pss_one (ps_set (i := 2) sc_law_told.nd rfl (Or.inl rfl) pe_str)) pss_nil)
    (pss_cons (ps_set (i := 4) sc_law_told.nd rfl (Or.inl rfl) (pe_lst (pa_cons (pe_isexc T.z_isinstance T.m_NoRule (pv 3)) (pa_cons (pe_isexc T.z_isinstance T.m_NoCount (pv 3)) (pa_cons (pe_isexc T.z_isinstance T.m_NoLine (pv 3)) pa_nil star_k) star_k) star_k)))
    (pss_one (ps_if (PW.pt (pw_or (pt_cmpR op_ne (pe_bm PySem.F.plainAttrs_list PySem.F.slot_list_count PySem.F.type_list_count mt_count (pv 4) (pa_cons pe_bl pa_nil star_c)) pe_int (nomark _)) (pw_or1 (pt_not (pt_val (pe_isexcT T.z_isinstance T.z_ValueError b_ValueError (pv 3))))))) (pss_one (ps_set (i := 2) sc_law_told.nd rfl (Or.inl rfl) pe_str)) pss_nil))))))) T.m_FairError)
    (pss_one (ps_ret (pv 2))))), ?_⟩
  refine fun pn => ?_
  by_cases hi5 : i = 5
  · subst hi5
    refine' by_fin (H := H) (fun fin => ?a1) ?b1
    case a1 => exact ⟨_, rfl, rfl, _, rfl, iteN (by decide +kernel) ⟨_, rfl, rfl, _, rfl, iteN (by decide +kernel) ⟨_, rfl, rfl, _, rfl, iteN (by decide +kernel) ⟨_, rfl, rfl, _, rfl, iteN (by decide +kernel) ⟨_, rfl, rfl, _, rfl, iteN (by decide +kernel) ⟨_, rfl, rfl, _, rfl, iteP (by decide +kernel) ⟨_, rfl, a, r, 3, 0, rfl, hR, hG, hd, ht, by decide, fun H1 s1 => fin H1 s1⟩⟩⟩⟩⟩⟩⟩
    case b1 =>
    intro H1 s1
    have q : ∀ H', Same H H' → Q (.str "no count") H' := q
    refine ⟨T.xmC, fun x σ' hx hl => ?_⟩
    obtain ⟨y1, y2, y3, y4, y5, rfl⟩ := five hl
    have s2 := s1.trans (same_new hx (XO x (.ref Ca)))
    have hX : (upd H1 x (XO x (.ref Ca))) x = some (XO x (.ref Ca)) := upd_same
    revert s2 hX
    generalize upd H1 x (XO x (.ref Ca)) = H2
    intro s2 hX
    refine ⟨_, rfl, x, Ca, false, rfl, hX, T.xcC, T.kCR, _, rfl, iteF ?_⟩
    refine ⟨_, rfl, x, Ca, true, rfl, hX, T.xcC, kit_same, _, rfl, iteT ?_⟩
    refine ⟨_, rfl, x, Ca, false, rfl, hX, T.xcC, T.kCR, _, rfl, x, Ca, true, rfl, hX, T.xcC, kit_same, _, rfl, x, Ca, false, rfl, hX, T.xcC, T.kCL, (by show 3 ≤ sizeLine; decide), fun kl hkl => ?_⟩
    have s3 := same_new hkl (.lst [.bl false, .bl true, .bl false])
    refine ⟨_, rfl, .inl ⟨rfl, _, SqL.of upd_same⟩, kl, _, _, rfl, rfl, SqL.of upd_same, rfl, rfl, rfl, _, rfl, iteN (by decide +kernel) ?_⟩
    refine ⟨_, rfl, x, Ca, true, rfl, s3 _ _ hX, T.xcC, T.kCV, _, rfl, iteF ?_⟩
    exact ⟨_, rfl, q _ (s2.trans s3)⟩
  · have q : ∀ H', Same H H' → Q (.str "done") H' := fun H' s' => by
      have := q H' s'
      rw [if_neg hi5] at this
      exact this
    have hi : i = 0 ∨ i = 1 ∨ i = 2 ∨ i = 3 ∨ i = 4 ∨ i = 6 ∨ i = 7 ∨ i = 8 := by omega
    rcases hi with rfl | rfl | rfl | rfl | rfl | rfl | rfl | rfl
    · exact ⟨_, rfl, rfl, _, rfl, iteP (by decide +kernel) ⟨_, rfl, a, r, 3, rfl, hR, hG, hd, ht, fun H1 s1 => ⟨_, rfl, q H1 s1⟩⟩⟩
    · exact ⟨_, rfl, rfl, _, rfl, iteN (by decide +kernel) ⟨_, rfl, rfl, _, rfl, iteP (by decide +kernel) ⟨_, rfl, a, r, rfl, hR, hG, hd, ht, fun v H1 s1 => ⟨_, rfl, q H1 s1⟩⟩⟩⟩
    · exact ⟨_, rfl, rfl, _, rfl, iteN (by decide +kernel) ⟨_, rfl, rfl, _, rfl, iteN (by decide +kernel) ⟨_, rfl, rfl, _, rfl, iteP (by decide +kernel) ⟨_, rfl, a, r, 3, rfl, hR, hG, hd, ht, fun v H1 s1 => ⟨_, rfl, q H1 s1⟩⟩⟩⟩⟩
    · exact ⟨_, rfl, rfl, _, rfl, iteN (by decide +kernel) ⟨_, rfl, rfl, _, rfl, iteN (by decide +kernel) ⟨_, rfl, rfl, _, rfl, iteN (by decide +kernel) ⟨_, rfl, rfl, _, rfl, iteP (by decide +kernel) ⟨_, rfl, a, r, 3, rfl, hR, hG, hd, ht, fun v H1 s1 => ⟨_, rfl, q H1 s1⟩⟩⟩⟩⟩⟩
    · exact ⟨_, rfl, rfl, _, rfl, iteN (by decide +kernel) ⟨_, rfl, rfl, _, rfl, iteN (by decide +kernel) ⟨_, rfl, rfl, _, rfl, iteN (by decide +kernel) ⟨_, rfl, rfl, _, rfl, iteN (by decide +kernel) ⟨_, rfl, rfl, _, rfl, iteP (by decide +kernel) ⟨_, rfl, a, r, 3, 2, rfl, by decide, hR, hG, hd, ht, fun v H1 s1 => ⟨_, rfl, q H1 s1⟩⟩⟩⟩⟩⟩⟩
    · exact ⟨_, rfl, rfl, _, rfl, iteN (by decide +kernel) ⟨_, rfl, rfl, _, rfl, iteN (by decide +kernel) ⟨_, rfl, rfl, _, rfl, iteN (by decide +kernel) ⟨_, rfl, rfl, _, rfl, iteN (by decide +kernel) ⟨_, rfl, rfl, _, rfl, iteN (by decide +kernel) ⟨_, rfl, rfl, _, rfl, iteN (by decide +kernel) ⟨_, rfl, rfl, _, rfl, iteP (by decide +kernel) ⟨_, rfl, a, r, rfl, hR, hG, hL, hz, hd, ht, fun H1 s1 => ⟨_, rfl, q H1 s1⟩⟩⟩⟩⟩⟩⟩⟩⟩
    · refine ⟨_, rfl, rfl, _, rfl, iteN (by decide +kernel) ⟨_, rfl, rfl, _, rfl, iteN (by decide +kernel) ⟨_, rfl, rfl, _, rfl, iteN (by decide +kernel) ⟨_, rfl, rfl, _, rfl, iteN (by decide +kernel) ⟨_, rfl, rfl, _, rfl, iteN (by decide +kernel) ⟨_, rfl, rfl, _, rfl, iteN (by decide +kernel) ⟨_, rfl, rfl, _, rfl, iteN (by decide +kernel) ⟨_, rfl, rfl, _, rfl, iteP (by decide +kernel) ⟨(by show 2 ≤ sizeLine; decide), fun t1 h1 => ⟨(by show 2 ≤ sizeLine; decide), fun t2 h2 => ⟨_, rfl, (by show 2 ≤ sizeLine; decide), fun t3 h3 => ⟨(by show 2 ≤ sizeLine; decide), fun L hL4 => ?_⟩⟩⟩⟩⟩⟩⟩⟩⟩⟩⟩⟩
      have k1 := same_new h1 (.tup [.str "date", .int 3])
      have k2 := same_new h2 (.tup [.str "a", .ref t1])
      have k3 := same_new h3 (.tup [.str "b", .ref a])
      have k4 := same_new hL4 (.lst [.ref t2, .ref t3])
      have kk := k1.trans (k2.trans (k3.trans k4))
      have two : Two2 _ n L t2 t3 a := ⟨"a", "b", t1, .date 3, upd_same, k4 _ _ (k3 _ _ upd_same), k4 _ _ (k3 _ _ (k2 _ _ upd_same)), .inl ⟨by decide, by decide⟩, (by show 0 < n; omega), (by show 72 ≤ 1000000; decide), k4 _ _ upd_same⟩
      exact ⟨L, t2, t3, a, r, 5, 4, rfl, by decide, two, hR.mono (.of kk), hG, hd, ht, fun v H5 s5 => ⟨_, rfl, q H5 (kk.trans s5)⟩⟩
    · exact ⟨_, rfl, rfl, _, rfl, iteN (by decide +kernel) ⟨_, rfl, rfl, _, rfl, iteN (by decide +kernel) ⟨_, rfl, rfl, _, rfl, iteN (by decide +kernel) ⟨_, rfl, rfl, _, rfl, iteN (by decide +kernel) ⟨_, rfl, rfl, _, rfl, iteN (by decide +kernel) ⟨_, rfl, rfl, _, rfl, iteN (by decide +kernel) ⟨_, rfl, rfl, _, rfl, iteN (by decide +kernel) ⟨_, rfl, rfl, _, rfl, iteN (by decide +kernel) ⟨_, rfl, a, r, rfl, hR, hL, hz, hd, fun H1 s1 => ⟨r, rfl, hG, hL, hz, fun p H2 s2 _ => ⟨_, rfl, q H2 (s1.trans s2)⟩⟩⟩⟩⟩⟩⟩⟩⟩⟩⟩
theorem sc_law : FnScope ["_law_script", "_law_rule", "_law_odd", "_law_far", "_law_bad", "_law_which"] ["_law_script"] (defScope sLaw) := ⟨rfl, rfl, rfl, by decide +kernel, rfl, by decide +kernel, by decide +kernel⟩
set_option maxHeartbeats 16000000 in
theorem ok_law {n k : Nat} (hn : 64 ≤ n) (hk : n ≤ k) {f : Addr} {fd : FuncData} (D : Fun K "law" "law" sLaw f fd) (T : Ltx K mg aF aW aK f1 f2 f3) (C__law_ruled : Has P w K mg base 3 "_law_ruled" ["_law_cells"] (spRuled2 K)) (C__law_at : Has P w K mg base 1 "_law_at" ["_law_script", "_law_k"] (spAt K))
    (C__law_spoilt : Has P w K mg base n "_law_spoilt" ["_law_rule", "_law_odd", "_law_seed"] (spSpoilt n)) (C_told_B : Has P w K mg base k "_law_told" ["_law_which", "_law_rule"] (spToldB n)) (C_told_G : Has P w K mg base k "_law_told" ["_law_which", "_law_rule"] (spToldG n)) : FnOk P w K mg base CX0 (k + 1) f fd ["_law_script"] (spLaw K) := by
  refine D.ok sc_law (fun vs H Q E h => ?_) (fun cdv Ar outer s H vs Q E hr h => ?_)
  · obtain ⟨a, ns, rfl, _⟩ := h
    rfl
  obtain ⟨a, ns, rfl, hS, h63, q⟩ := h
  refine ⟨_, (pss_cons (ps_set (i := 1) sc_law.nd rfl (Or.inl rfl) (pe_has C__law_ruled hr (by omega) (pa_cons (pe_slice sl_list (pv 0) (po_some pe_int) (po_some pe_int)) pa_nil star_s)))
    (pss_cons (ps_set (i := 2) sc_law.nd rfl (Or.inl rfl) (pe_lst (pa_cons (pe_tup (pa_cons pe_str (pa_cons pe_int (pa_cons pe_int pa_nil star_c) star_c) star_c)) (pa_cons (pe_tup (pa_cons pe_str (pa_cons pe_int (pa_cons pe_int pa_nil star_c) star_c) star_c)) (pa_cons (pe_tup (pa_cons pe_str (pa_cons (pe_un un_neg pe_int) (pa_cons pe_int pa_nil star_c) star_u) star_c)) (pa_cons (pe_tup (pa_cons pe_str (pa_cons (pe_op op_pow pe_int pe_int) (pa_cons pe_int pa_nil star_c) star_b) star_c)) pa_nil star_t) star_t) star_t) star_t)))
    (pss_cons (ps_set (i := 2) sc_law.nd rfl (Or.inl rfl) (pe_op op_cat (pv 2) (pe_lst (pa_cons (pe_tup (pa_cons pe_str (pa_cons pe_int pa_nil star_c) star_c)) (pa_cons (pe_tup (pa_cons pe_str (pa_cons pe_int pa_nil star_c) star_c)) (pa_cons (pe_tup (pa_cons pe_str (pa_cons (pe_un un_neg pe_int) pa_nil star_u) star_c)) (pa_cons (pe_tup (pa_cons pe_str (pa_cons (pe_op op_pow pe_int pe_int) pa_nil star_b) star_c)) pa_nil star_t) star_t) star_t) star_t))))
    (pss_cons (ps_set (i := 2) sc_law.nd rfl (Or.inl rfl) (pe_op op_cat (pv 2) (pe_lst (pa_cons (pe_tup (pa_cons pe_str (pa_cons pe_int (pa_cons pe_int pa_nil star_c) star_c) star_c)) (pa_cons (pe_tup (pa_cons pe_str (pa_cons pe_int (pa_cons pe_int pa_nil star_c) star_c) star_c)) (pa_cons (pe_tup (pa_cons pe_str (pa_cons (pe_un un_neg pe_int) (pa_cons pe_int pa_nil star_c) star_u) star_c)) (pa_cons (pe_tup (pa_cons pe_str (pa_cons pe_int (pa_cons (pe_un un_neg pe_int) pa_nil star_u) star_c) star_c)) (pa_cons (pe_tup (pa_cons pe_str (pa_cons pe_int (pa_cons pe_int pa_nil star_c) star_c) star_c)) pa_nil star_t) star_t) star_t) star_t) star_t))))
    (pss_cons (ps_set (i := 3) sc_law.nd rfl (Or.inl rfl) (pe_op op_add pe_int (pe_op op_mod (pe_op op_fdiv (pe_has C__law_at hr (by omega) (pa_cons (pv 0) (pa_cons pe_int pa_nil star_c) star_n)) pe_int) (pe_op op_pow pe_int pe_int))))
    (pss_cons (ps_set (i := 2) sc_law.nd rfl (Or.inl rfl) (pe_op op_cat (pv 2) (pe_lst (pa_cons (pe_tup (pa_cons pe_str (pa_cons (pe_op op_sub pe_int (pv 3)) (pa_cons pe_int pa_nil star_c) star_b) star_c)) (pa_cons (pe_tup (pa_cons pe_str (pa_cons (pe_op op_add pe_int (pv 3)) (pa_cons pe_int pa_nil star_c) star_b) star_c)) (pa_cons (pe_tup (pa_cons pe_str (pa_cons (pe_op op_add pe_int (pv 3)) pa_nil star_b) star_c)) pa_nil star_t) star_t) star_t))))
    (pss_cons (ps_set (i := 2) sc_law.nd rfl (Or.inl rfl) (pe_op op_cat (pv 2) (pe_lst (pa_cons (pe_tup (pa_cons pe_str (pa_cons (pe_op op_sub (pe_op op_sub pe_int pe_int) (pv 3)) pa_nil star_b) star_c)) (pa_cons (pe_tup (pa_cons pe_str (pa_cons (pe_ix ix_list (pe_lst (pa_cons (pv 3) (pa_cons (pe_op op_sub pe_int (pv 3)) pa_nil star_b) star_n)) (pe_op op_mod (pv 3) pe_int) (fun _ _ => rfl)) (pa_cons pe_int pa_nil star_c) star_s) star_c)) pa_nil star_t) star_t))))
    (pss_cons (ps_expr (pe_bm PySem.F.plainAttrs_list PySem.F.slot_list_append PySem.F.type_list_append mt_append (pv 2) (pa_cons (pe_tup (pa_cons pe_str (pa_cons pe_int (pa_cons (pe_ix ix_list (pe_lst (pa_cons (pe_op op_add (pv 3) pe_int) (pa_cons (pe_op op_sub pe_int (pv 3)) pa_nil star_b) star_b)) (pe_op op_mod (pv 3) pe_int) (fun _ _ => rfl)) pa_nil star_s) star_c) star_c)) pa_nil star_t)))
    (pss_cons (ps_set (i := 4) sc_law.nd rfl (Or.inl rfl) (pe_has C__law_spoilt hr (by omega) (pa_cons (pv 1) (pa_cons (pe_ix ix_list (pv 2) (pe_op op_mod (pe_has C__law_at hr (by omega) (pa_cons (pv 0) (pa_cons pe_int pa_nil star_c) star_n)) pe_int) (fun _ _ => rfl)) (pa_cons (pe_op op_mod (pe_has C__law_at hr (by omega) (pa_cons (pv 0) (pa_cons pe_int pa_nil star_c) star_n)) (pe_op op_pow pe_int pe_int)) pa_nil star_b) star_s) star_n)))
    (pss_cons (ps_for PassesOwn.never rfl (pi_range1 rfl T.z_range (pa_cons pe_int pa_nil star_c)) (pg_name (i := 5) sc_law.nd rfl (Or.inl rfl)) (pss_cons (ps_if (pt_cmpR op_ne (pe_has C_told_B hr (by omega) (pa_cons (pv 5) (pa_cons (pv 4) pa_nil star_n) star_n)) pe_str (nomark _)) (pss_one (ps_ret pe_bl)) pss_nil)
    (pss_one (ps_if (pt_cmpR op_ne (pe_has C_told_G hr (by omega) (pa_cons (pv 5) (pa_cons (pv 1) pa_nil star_n) star_n)) (pe_ix ix_list (pe_lst (pa_cons pe_str (pa_cons pe_str pa_nil star_c) star_c)) (pe_callTy call_int1 rfl T.z_int b_int (pa_cons (pe_cmpR op_eq (pv 5) pe_int (nomark _)) pa_nil star_m)) (fun _ _ => rfl)) (nomark _)) (pss_one (ps_ret pe_bl)) pss_nil))))
    (pss_one (ps_ret pe_bl)))))))))))), ?_⟩
  obtain ⟨ms, ec, hms⟩ := cut_map ns (some 2) (some 6)
  refine ⟨_, rfl, _, rfl, _, rfl, a, _, rfl, hS, fun sl hsl => ?_⟩
  rw [ec]
  have s0 := same_new hsl (.lst (ms.map V.int))
  refine ⟨sl, ms, rfl, SqL.of upd_same, by omega, fun p r H1 s1' hR hG hN hd hz ht => ?_⟩
  have s1 := s0.trans s1'
  have htl : turn r ≤ 1000000 := Nat.le_trans (Nat.le_of_dvd (by decide) ht) (by decide)
  refine' join_by (fun σ' H' => ∃ (l : Addr) (vs : List V), σ' = [some (.ref a), some (.ref p), some (.ref l), none, none, none] ∧ Lst H H' p l r vs ∧ vs.length = 4) (fun R => ?a1) ?b1
  case a1 =>
    refine ⟨(by show 3 ≤ sizeLine; decide), fun o1 h1 => ⟨(by show 3 ≤ sizeLine; decide), fun o2 h2 => ⟨_, rfl, (by show 3 ≤ sizeLine; decide), fun o3 h3 => ⟨_, _, rfl, rfl, ⟨by decide, by decide, by decide⟩, (by show 3 ≤ sizeLine; decide), fun o4 h4 => ⟨(by show 4 ≤ sizeLine; decide), fun l hl => ?_⟩⟩⟩⟩⟩
    exact R _ _ ⟨l, _, rfl, ⟨(((((s1.nw h1).nw h2).nw h3).nw h4).nw hl), hR.mono (.of ((((((Same.refl H1).nw h1).nw h2).nw h3).nw h4).nw hl)), upd_same, ((((((Odds.nil (H := H1)).e h1 (odd_e (by decide +kernel) ⟨by decide +kernel, by decide +kernel⟩ ⟨by decide +kernel, by decide +kernel⟩)).e h2 (odd_e (by decide +kernel) ⟨by decide +kernel, by decide +kernel⟩ ⟨by decide +kernel, by decide +kernel⟩)).e h3 (odd_e (by decide +kernel) ⟨by decide +kernel, by decide +kernel⟩ ⟨by decide +kernel, by decide +kernel⟩)).e h4 (odd_e (by decide +kernel) ⟨by decide +kernel, by decide +kernel⟩ ⟨by decide +kernel, by decide +kernel⟩)).mono (TupKeep.new hl _)), ((((s1.nw h1).nw h2).nw h3).nw h4).free hl⟩, rfl⟩
  clear hR s1 s1'
  rintro σ' HC ⟨l, vs, rfl, B, hv⟩
  refine' join_by (fun σ' H' => ∃ (l : Addr) (vs : List V), σ' = [some (.ref a), some (.ref p), some (.ref l), none, none, none] ∧ Lst H H' p l r vs ∧ vs.length = 8) (fun R => ?a2) ?b2
  case a2 =>
    refine ⟨_, rfl, (by show 2 ≤ sizeLine; decide), fun o1 h1 => ⟨(by show 2 ≤ sizeLine; decide), fun o2 h2 => ⟨_, rfl, (by show 2 ≤ sizeLine; decide), fun o3 h3 => ⟨_, _, rfl, rfl, ⟨by decide, by decide, by decide⟩, (by show 2 ≤ sizeLine; decide), fun o4 h4 => ⟨(by show 4 ≤ sizeLine; decide), fun l' hl' => ⟨l, l', _, _, rfl, rfl, ((((((Same.refl HC).nw h1).nw h2).nw h3).nw h4).nw hl') _ _ B.lst, upd_same, (by rw [hv]; show 8 ≤ sizeLine; decide), fun l2 hl2 => ?_⟩⟩⟩⟩⟩⟩
    exact R _ _ ⟨l2, _, rfl, ⟨((((((B.same.nw h1).nw h2).nw h3).nw h4).nw hl').nw hl2), B.rule.mono (.of (((((((Same.refl HC).nw h1).nw h2).nw h3).nw h4).nw hl').nw hl2)), upd_same, Odds.app (B.odds.mono (.of (((((((Same.refl HC).nw h1).nw h2).nw h3).nw h4).nw hl').nw hl2))) ((((((Odds.nil (H := HC)).d h1 (odd_d (by decide +kernel) ⟨by decide +kernel, by decide +kernel⟩)).d h2 (odd_d (by decide +kernel) ⟨by decide +kernel, by decide +kernel⟩)).d h3 (odd_d (by decide +kernel) ⟨by decide +kernel, by decide +kernel⟩)).d h4 (odd_d (by decide +kernel) ⟨by decide +kernel, by decide +kernel⟩)).mono (.of (((Same.refl _).nw hl').nw hl2))), (((((B.same.nw h1).nw h2).nw h3).nw h4).nw hl').free hl2⟩, by rw [List.length_append, hv]; rfl⟩
  clear hv B
  rintro σ' HC ⟨l, vs, rfl, B, hv⟩
  refine' join_by (fun σ' H' => ∃ (l : Addr) (vs : List V), σ' = [some (.ref a), some (.ref p), some (.ref l), none, none, none] ∧ Lst H H' p l r vs ∧ vs.length = 13) (fun R => ?a3) ?b3
  case a3 =>
    refine ⟨_, rfl, (by show 3 ≤ sizeLine; decide), fun o1 h1 => ⟨(by show 3 ≤ sizeLine; decide), fun o2 h2 => ⟨_, rfl, (by show 3 ≤ sizeLine; decide), fun o3 h3 => ⟨_, rfl, (by show 3 ≤ sizeLine; decide), fun o4 h4 => ⟨(by show 3 ≤ sizeLine; decide), fun o5 h5 => ⟨(by show 5 ≤ sizeLine; decide), fun l' hl' => ⟨l, l', _, _, rfl, rfl, (((((((Same.refl HC).nw h1).nw h2).nw h3).nw h4).nw h5).nw hl') _ _ B.lst, upd_same, (by rw [hv]; show 13 ≤ sizeLine; decide), fun l2 hl2 => ?_⟩⟩⟩⟩⟩⟩⟩
    exact R _ _ ⟨l2, _, rfl, ⟨(((((((B.same.nw h1).nw h2).nw h3).nw h4).nw h5).nw hl').nw hl2), B.rule.mono (.of ((((((((Same.refl HC).nw h1).nw h2).nw h3).nw h4).nw h5).nw hl').nw hl2)), upd_same, Odds.app (B.odds.mono (.of ((((((((Same.refl HC).nw h1).nw h2).nw h3).nw h4).nw h5).nw hl').nw hl2))) (((((((Odds.nil (H := HC)).n h1 (odd_n (by decide +kernel) ⟨by decide +kernel, by decide +kernel⟩ ⟨by decide +kernel, by decide +kernel⟩)).n h2 (odd_n (by decide +kernel) ⟨by decide +kernel, by decide +kernel⟩ ⟨by decide +kernel, by decide +kernel⟩)).n h3 (odd_n (by decide +kernel) ⟨by decide +kernel, by decide +kernel⟩ ⟨by decide +kernel, by decide +kernel⟩)).n h4 (odd_n (by decide +kernel) ⟨by decide +kernel, by decide +kernel⟩ ⟨by decide +kernel, by decide +kernel⟩)).n h5 (odd_n (by decide +kernel) ⟨by decide +kernel, by decide +kernel⟩ ⟨by decide +kernel, by decide +kernel⟩)).mono (.of (((Same.refl _).nw hl').nw hl2))), ((((((B.same.nw h1).nw h2).nw h3).nw h4).nw h5).nw hl').free hl2⟩, by rw [List.length_append, hv]; rfl⟩
  clear hv B
  rintro σ' HC ⟨l, vs, rfl, B, hv⟩
  have hf : 6 ≤ 6 + cellOf ns 0 / 19 % (10 : Int) ^ (40 : Int).toNat ∧ 6 + cellOf ns 0 / 19 % (10 : Int) ^ (40 : Int).toNat < 6 + 10 ^ 40 := by
    have b1 := Int.emod_nonneg (cellOf ns 0 / 19) (show (10 : Int) ^ (40 : Int).toNat ≠ 0 by decide +kernel)
    have b2 := Int.emod_lt_of_pos (cellOf ns 0 / 19) (show (0 : Int) < (10 : Int) ^ (40 : Int).toNat by decide +kernel)
    have e : (10 : Int) ^ (40 : Int).toNat = 10 ^ 40 := rfl
    omega
  refine' join_by (fun σ' H' => σ' = [some (.ref a), some (.ref p), some (.ref l), some (.int (6 + cellOf ns 0 / 19 % (10 : Int) ^ (40 : Int).toNat)), none, none] ∧ HC = H') (fun R => ?a9) ?b9
  case a9 =>
    exact ⟨_, rfl, a, ns, 0, rfl, B.same.seq hS, by decide, _, _, rfl, rfl, ⟨by decide, by decide⟩, _, _, rfl, rfl, ⟨by decide, by decide, by decide⟩, _, _, rfl, rfl, (by show (0 : Int) < (10 : Int) ^ (40 : Int).toNat; decide +kernel), _, _, rfl, rfl, R _ _ ⟨rfl, rfl⟩⟩
  rintro σ' H' ⟨rfl, rfl⟩
  revert hf
  generalize 6 + cellOf ns 0 / 19 % (10 : Int) ^ (40 : Int).toNat = fr
  intro hf
  refine' join_by (fun σ' H' => ∃ (l : Addr) (vs : List V), σ' = [some (.ref a), some (.ref p), some (.ref l), some (.int fr), none, none] ∧ Lst H H' p l r vs ∧ vs.length = 16) (fun R => ?a4) ?b4
  case a4 =>
    refine ⟨_, rfl, _, rfl, _, _, rfl, rfl, (by show 3 ≤ sizeLine; decide), fun o1 h1 => ⟨_, rfl, _, _, rfl, rfl, (by show 3 ≤ sizeLine; decide), fun o2 h2 => ⟨_, rfl, _, _, rfl, rfl, (by show 2 ≤ sizeLine; decide), fun o3 h3 => ⟨(by show 3 ≤ sizeLine; decide), fun l' hl' => ⟨l, l', _, _, rfl, rfl, (((((Same.refl HC).nw h1).nw h2).nw h3).nw hl') _ _ B.lst, upd_same, (by rw [hv]; show 16 ≤ sizeLine; decide), fun l2 hl2 => ?_⟩⟩⟩⟩⟩
    exact R _ _ ⟨l2, _, rfl, ⟨(((((B.same.nw h1).nw h2).nw h3).nw hl').nw hl2), B.rule.mono (.of ((((((Same.refl HC).nw h1).nw h2).nw h3).nw hl').nw hl2)), upd_same, Odds.app (B.odds.mono (.of ((((((Same.refl HC).nw h1).nw h2).nw h3).nw hl').nw hl2))) (((((Odds.nil (H := HC)).e h1 (odd_e (by omega) ⟨by omega, by omega⟩ ⟨by decide, by decide⟩)).e h2 (odd_e (by omega) ⟨by omega, by omega⟩ ⟨by decide, by decide⟩)).d h3 (odd_d (by omega) ⟨by omega, by omega⟩)).mono (.of (((Same.refl _).nw hl').nw hl2))), ((((B.same.nw h1).nw h2).nw h3).nw hl').free hl2⟩, by rw [List.length_append, hv]; rfl⟩
  clear hv B
  rintro σ' HC ⟨l, vs, rfl, B, hv⟩
  refine' join_by (fun σ' H' => ∃ (l : Addr) (vs : List V), σ' = [some (.ref a), some (.ref p), some (.ref l), some (.int fr), none, none] ∧ Lst H H' p l r vs ∧ vs.length = 18) (fun R => ?a5) ?b5
  case a5 =>
    obtain ⟨x, hx, hm⟩ := pickI (xs := [fr, 0 - fr]) (i := fr % 2) (by omega) (by show fr % 2 < 2; omega)
    have hm : x = fr ∨ x = 0 - fr := by simpa using hm
    refine ⟨_, rfl, _, _, rfl, rfl, _, rfl, _, _, rfl, rfl, (by show 2 ≤ sizeLine; decide), fun o1 h1 => ⟨_, rfl, _, rfl, _, _, rfl, rfl, (by show 2 ≤ sizeLine; decide), fun bl hbl => ⟨_, rfl, _, _, rfl, rfl, (by show (0 : Int) < 2; decide), bl, _, _, _, rfl, rfl, SqL.of upd_same, hx, (by show 3 ≤ sizeLine; decide), fun o2 h2 => ⟨(by show 2 ≤ sizeLine; decide), fun l' hl' => ⟨l, l', _, _, rfl, rfl, (((((Same.refl HC).nw h1).nw hbl).nw h2).nw hl') _ _ B.lst, upd_same, (by rw [hv]; show 18 ≤ sizeLine; decide), fun l2 hl2 => ?_⟩⟩⟩⟩⟩
    exact R _ _ ⟨l2, _, rfl, ⟨(((((B.same.nw h1).nw hbl).nw h2).nw hl').nw hl2), B.rule.mono (.of ((((((Same.refl HC).nw h1).nw hbl).nw h2).nw hl').nw hl2)), upd_same, Odds.app (B.odds.mono (.of ((((((Same.refl HC).nw h1).nw hbl).nw h2).nw hl').nw hl2))) (((((Odds.nil (H := HC)).d h1 (odd_d (by omega) ⟨by omega, by omega⟩)).mono (TupKeep.new hbl _)).n h2 (odd_n (by omega) ⟨by omega, by omega⟩ ⟨by decide, by decide⟩)).mono (.of (((Same.refl _).nw hl').nw hl2))), ((((B.same.nw h1).nw hbl).nw h2).nw hl').free hl2⟩, by rw [List.length_append, hv]; rfl⟩
  clear hv B
  rintro σ' HC ⟨l, vs, rfl, B, hv⟩
  refine' join_by (fun σ' H' => ∃ (l : Addr) (vs : List V), σ' = [some (.ref a), some (.ref p), some (.ref l), some (.int fr), none, none] ∧ Lst H H' p l r vs ∧ vs.length = 19) (fun R => ?a6) ?b6
  case a6 =>
    obtain ⟨x, hx, hm⟩ := pickI (xs := [fr + 3, 0 - fr]) (i := fr % 2) (by omega) (by show fr % 2 < 2; omega)
    have hm : x = fr + 3 ∨ x = 0 - fr := by simpa using hm
    refine ⟨_, rfl, .inl ⟨rfl, _, SqL.of B.lst⟩, _, rfl, _, _, rfl, rfl, _, rfl, _, _, rfl, rfl, (by show 2 ≤ sizeLine; decide), fun bl hbl => ⟨_, rfl, _, _, rfl, rfl, (by show (0 : Int) < 2; decide), bl, _, _, _, rfl, rfl, SqL.of upd_same, hx, (by show 3 ≤ sizeLine; decide), fun o1 h1 => ⟨l, _, _, rfl, rfl, (((Same.refl HC).nw hbl).nw h1) _ _ B.lst, (by rw [hv]; show 18 < sizeLine; decide), ?_⟩⟩⟩
    have lk := (((Same.refl HC).nw hbl).nw h1 (o := .tup [.str "nth", .int 2, .int x])) _ _ B.lst
    dsimp only
    refine R [some (.ref a), some (.ref p), some (.ref l), some (.int fr), none, none] _ ⟨l, vs ++ [.ref o1], rfl, ⟨((B.same.nw hbl).nw h1).upd_new B.fresh _, B.rule.mono ((TupKeep.of (((Same.refl HC).nw hbl).nw h1)).trans (TupKeep.lst lk _)), upd_same,
      Odds.app (B.odds.mono ((TupKeep.of (((Same.refl HC).nw hbl).nw h1)).trans (TupKeep.lst lk _))) (((Odds.nil (H := HC)).mono (TupKeep.new hbl _) |>.n h1 (odd_n (by omega) ⟨by decide, by decide⟩ ⟨by omega, by omega⟩)).mono (TupKeep.lst lk _)), B.fresh⟩, by rw [List.length_append, hv]; rfl⟩
  clear hv B
  rintro σ' HC ⟨l, vs, rfl, B, hv⟩
  have i0 := Int.emod_nonneg (cellOf ns 0) (show (19 : Int) ≠ 0 by decide)
  have i1 := Int.emod_lt_of_pos (cellOf ns 0) (show (0 : Int) < 19 by decide)
  obtain ⟨v, hat, hmem⟩ := pick (xs := vs) i0 (by rw [hv]; exact i1)
  obtain ⟨o, r0, rfl, hO, hodd⟩ := B.odds v hmem
  have hSC := B.same.seq hS
  refine ⟨_, rfl, _, rfl, _, rfl, a, ns, 0, rfl, hSC, by decide, _, _, rfl, rfl, (by show (0 : Int) < 19; decide), l, _, _, _, rfl, rfl, SqL.of B.lst, hat, _, rfl, a, ns, 1, rfl, hSC, by decide, _, _, rfl, rfl, ⟨by decide, by decide, by decide⟩, _, _, rfl, rfl, (by show (0 : Int) < (10 : Int) ^ (6 : Int).toNat; decide +kernel), ?_⟩
  refine ⟨p, o, r, r0, _, rfl, B.rule, hG, hN, htl, by omega, hO, hodd, fun pb rb H2 s2 hB S => ?_⟩
  have hL := low_of hG hN
  have hRr := B.rule.mono (.of s2)
  have s2H := B.same.trans s2
  clear hodd hO hmem hat
  have dp := S.dp
  have sz := S.sz
  refine ⟨_, rfl, by decide, by decide, for_range (lo := 0) (n := ((9 : Int)).toNat) (fun i σ H' => ∃ o5 : Option V, σ = [some (.ref a), some (.ref p), some (.ref l), some (.int fr), some (.ref pb), o5] ∧ Same H2 H') ⟨_, rfl, Same.refl _⟩ ?_ ?_⟩
  · rintro i σ H3 hi ⟨o5, rfl, s3⟩
    have hi : i < 9 := hi
    refine ⟨_, rfl, _, rfl, (0 + (i : Int)), pb, rb, rfl, by omega, by omega, hB.mono (.of s3), S.bad, S.tn, S.low, by omega, by omega, fun H4 s4 => ⟨rfl, _, rfl, iteNS rfl ?_⟩⟩
    refine ⟨_, rfl, _, rfl, (0 + (i : Int)), p, r, rfl, by omega, by omega, hRr.mono (.of (s3.trans s4)), hG, hL, by omega, by omega, htl, fun H5 s5 => ?_⟩
    refine ⟨(by show 2 ≤ sizeLine; decide), fun bl hbl => ⟨_, rfl, rfl, .inr ⟨_, rfl, bl, _, _, _, rfl, rfl, SqL.of upd_same, (show atI [V.str "done", .str "no count"] (if decide (V.int (0 + (i : Int)) = V.int 5) = true then 1 else 0) = some (.str (if 0 + (i : Int) = 5 then "no count" else "done")) from ?_), rfl, _, rfl, iteNS rfl ?_⟩⟩⟩
    · rw [decI]
      by_cases h5 : 0 + (i : Int) = 5
      · rw [if_pos (decide_eq_true h5), if_pos h5]
        rfl
      · rw [if_neg (by rw [decide_eq_false h5]; decide), if_neg h5]
        rfl
    · exact ⟨_, rfl, s3.trans (s4.trans (s5.trans (same_new hbl _)))⟩
  · rintro σ H3 ⟨o5, rfl, s3⟩
    exact q H3
end
end Lw
set_option Elab.async false
set_option linter.all false
set_option maxRecDepth 100000
namespace Lw
open PySem L2 L3 Fd
seal L2.PSs L2.PS L2.PE L2.PT L2.PW L2.PA L2.PG L2.PGs L2.PI L2.PC
theorem xget {K : PySem.W.Frag} : PySem.W.specialIn K (.builtin "object.__class__") "__get__" = some (some (.builtin "getset_descriptor.__get__")) := by kernel_rfl
theorem xtk {K : PySem.W.Frag} : PySem.W.takesIn K (.builtin "object.__class__") = some true := by kernel_rfl
theorem xm_of {K : PySem.W.Frag} {Ca Fa : Addr} {od : Option Addr} {cd : ClassData} {sl : Array (Option Value)} (l : K.lookup Fa = some ⟨.type "type", od, .cls cd, sl⟩) (b : PySem.W.subIn K (.ref Fa) (.type "BaseException") = some true) (c : PySem.W.subIn K (.ref Ca) (.ref Fa) = some true) : PySem.W.exmOne K (.ref Ca) (.ref Fa) = some true := by
  unfold PySem.W.exmOne
  rw [b, if_pos (by decide)]
  show (if ((PySem.W.clsIn K Fa).isSome && PySem.W.typeIn K (.ref Fa) == some (.type "type")) = true then PySem.W.subIn K (.ref Ca) (.ref Fa) else none) = some true
  have e1 : PySem.W.clsIn K Fa = some cd := by unfold PySem.W.clsIn; rw [l]
  have e2 : PySem.W.typeIn K (.ref Fa) = some (.type "type") := by show (K.lookup Fa).map (·.cls) = _; rw [l]; rfl
  rw [e1, e2, if_pos (by simp)]
  exact c
def absVs : List Value → Option (List V)
  | [] => some []
  | u :: us => match absV u, absVs us with
    | some v, some r => some (v :: r)
    | _, _ => none
theorem vals_abs : ∀ {us : List Value} {xs : List V}, absVs us = some xs → Vals xs us
  | [], _, h => by cases h; exact .nil
  | u :: us, xs, h => by
    unfold absVs at h
    split at h
    · rename_i v r h1 h2
      cases h
      exact .cons (rel_abs h1) (vals_abs h2)
    · cases h
theorem sqt_of {K : PySem.W.Frag} {a : Addr} {d : Option Addr} {its : Array Value} {n : Nat} {sl : Array (Option Value)} {xs : List V} (lk : K.lookup a = some ⟨.type "tuple", d, .seq its n, sl⟩) (rv : absVs its.toList = some xs) (hl : xs.length ≤ 100) : ∀ H, SqT K H a xs := fun H =>
  .inr ⟨_, its, n, lk, rfl, rfl, by have h := (vals_abs rv).length; have h2 : its.toList.length = its.size := Array.length_toList; rw [sizeLine_eq]; omega, vals_abs rv⟩
theorem kdict_of {K : PySem.W.Frag} {a : Addr} {es : Array DictEntry} {ep : Nat} {D : List (Str × V)} (hs : (a == sysModules) = false) (lk : K.lookup a = some ⟨.type "dict", none, .dict es ep, #[]⟩) (rw' : rowsOf es.toList = some D) : KDict K a D := ⟨hs, _, es, ep, lk, ⟨rfl, rfl, rfl⟩, rfl, rw'⟩
theorem kit_ref {K : PySem.W.Frag} {t C : Addr} {od : Option Addr} {cd : ClassData} {sl : Array (Option Value)} {b : Bool} (ne : (Value.ref t == Value.ref C) = false) (l : K.lookup C = some ⟨.type "type", od, .cls cd, sl⟩) (h : PySem.W.subIn K (.ref t) (.ref C) = some b) : PySem.W.kitOne K (.ref t) (.ref C) = some b := by
  unfold PySem.W.kitOne
  rw [if_neg (by rw [ne]; decide)]
  show (if ((PySem.W.clsIn K C).isSome && PySem.W.typeIn K (.ref C) == some (.type "type")) = true then PySem.W.subIn K (.ref t) (.ref C) else none) = some b
  have e1 : PySem.W.clsIn K C = some cd := by unfold PySem.W.clsIn; rw [l]
  have e2 : PySem.W.typeIn K (.ref C) = some (.type "type") := by show (K.lookup C).map (·.cls) = _; rw [l]; rfl
  rw [e1, e2, if_pos (by simp)]
  exact h
theorem kit_typ {K : PySem.W.Frag} {t : Addr} {T : String} {b : Bool} (hm : PySem.W.kitMeta T = true) (h : PySem.W.subIn K (.ref t) (.type T) = some b) : PySem.W.kitOne K (.ref t) (.type T) = some b := by
  unfold PySem.W.kitOne
  rw [if_neg (by simp)]
  show (if PySem.W.kitMeta T = true then PySem.W.subIn K (.ref t) (.type T) else none) = some b
  rw [if_pos hm]
  exact h
set_option maxHeartbeats 8000000 in
theorem all_mk {l : PySem.W.OpenLaw} {w : World} {K : PySem.W.Frag} {h : Heap} {mg : Str → Option Value} {fa : Addr} (X : K.In h) (G : h.Ns mainGlobals mg) (hfa : mg "law" = some (.ref fa)) {t1 t2 t3 t4 t5 t6 t7 t8 t9 : Tok} {aF aNoRule aNoCount aNoLine aE aD aN aB aI aU aM aP fP aFo aWo aKi f1 f2 f3 : Addr} {oFairError : Option Addr} {cFairError : ClassData} {sFairError : Array (Option Value)} {oNoRule : Option Addr} {cNoRule : ClassData} {sNoRule : Array (Option Value)} {oNoCount : Option Addr} {cNoCount : ClassData} {sNoCount : Array (Option Value)} {oNoLine : Option Addr} {cNoLine : ClassData} {sNoLine : Array (Option Value)} {esF esW esK : Array DictEntry} {epF epW epK n1 n2 n3 : Nat} {d1 d2 d3 : Option Addr} {it1 it2 it3 : Array Value} {l1 l2 l3 : Array (Option Value)}
    (z_len : PySem.W.nsIn K mainGlobals "len" = some none)
    (z_range : PySem.W.nsIn K mainGlobals "range" = some none)
    (z_int : PySem.W.nsIn K mainGlobals "int" = some none)
    (z_sum : PySem.W.nsIn K mainGlobals "sum" = some none)
    (z_isinstance : PySem.W.nsIn K mainGlobals "isinstance" = some none)
    (z_bool : PySem.W.nsIn K mainGlobals "bool" = some none)
    (z_tuple : PySem.W.nsIn K mainGlobals "tuple" = some none)
    (z_abs : PySem.W.nsIn K mainGlobals "abs" = some none)
    (z_zip : PySem.W.nsIn K mainGlobals "zip" = some none)
    (z_enumerate : PySem.W.nsIn K mainGlobals "enumerate" = some none)
    (z_str : PySem.W.nsIn K mainGlobals "str" = some none)
    (z_ValueError : PySem.W.nsIn K mainGlobals "ValueError" = some none)
    (nx_FairError : PySem.W.nsIn K mainGlobals "FairError" = some (some (.ref aF)))
    (nx_NoRule : PySem.W.nsIn K mainGlobals "NoRule" = some (some (.ref aNoRule)))
    (nx_NoCount : PySem.W.nsIn K mainGlobals "NoCount" = some (some (.ref aNoCount)))
    (nx_NoLine : PySem.W.nsIn K mainGlobals "NoLine" = some (some (.ref aNoLine)))
    (lk_FairError : K.lookup aF = some ⟨.type "type", oFairError, .cls cFairError, sFairError⟩)
    (bF : PySem.W.subIn K (.ref aF) (.type "BaseException") = some true)
    (lk_NoRule : K.lookup aNoRule = some ⟨.type "type", oNoRule, .cls cNoRule, sNoRule⟩)
    (sF_NoRule : PySem.W.subIn K (.ref aNoRule) (.ref aF) = some true)
    (ex_NoRule : PySem.W.excIn K aNoRule [.type "ValueError", .type "Exception", .type "BaseException", .type "object"] "ValueError.__new__" = true)
    (f1_NoRule : PySem.W.findIn K (.ref aNoRule) "__getattribute__" = some (some (.builtin "BaseException.__getattribute__")))
    (f2_NoRule : PySem.W.findIn K (.ref aNoRule) "__getattr__" = some none)
    (f3_NoRule : PySem.W.findIn K (.ref aNoRule) "__class__" = some (some (.builtin "object.__class__")))
    (m1_NoRule : PySem.W.subIn K (.ref aNoRule) (.type "object") = some true)
    (m2_NoRule : PySem.W.subIn K (.ref aNoRule) (.type "BaseException") = some true)
    (lk_NoCount : K.lookup aNoCount = some ⟨.type "type", oNoCount, .cls cNoCount, sNoCount⟩)
    (sF_NoCount : PySem.W.subIn K (.ref aNoCount) (.ref aF) = some true)
    (ex_NoCount : PySem.W.excIn K aNoCount [.type "ValueError", .type "Exception", .type "BaseException", .type "object"] "ValueError.__new__" = true)
    (f1_NoCount : PySem.W.findIn K (.ref aNoCount) "__getattribute__" = some (some (.builtin "BaseException.__getattribute__")))
    (f2_NoCount : PySem.W.findIn K (.ref aNoCount) "__getattr__" = some none)
    (f3_NoCount : PySem.W.findIn K (.ref aNoCount) "__class__" = some (some (.builtin "object.__class__")))
    (m1_NoCount : PySem.W.subIn K (.ref aNoCount) (.type "object") = some true)
    (m2_NoCount : PySem.W.subIn K (.ref aNoCount) (.type "BaseException") = some true)
    (lk_NoLine : K.lookup aNoLine = some ⟨.type "type", oNoLine, .cls cNoLine, sNoLine⟩)
    (sF_NoLine : PySem.W.subIn K (.ref aNoLine) (.ref aF) = some true)
    (ex_NoLine : PySem.W.excIn K aNoLine [.type "ValueError", .type "Exception", .type "BaseException", .type "object"] "ValueError.__new__" = true)
    (f1_NoLine : PySem.W.findIn K (.ref aNoLine) "__getattribute__" = some (some (.builtin "BaseException.__getattribute__")))
    (f2_NoLine : PySem.W.findIn K (.ref aNoLine) "__getattr__" = some none)
    (f3_NoLine : PySem.W.findIn K (.ref aNoLine) "__class__" = some (some (.builtin "object.__class__")))
    (m1_NoLine : PySem.W.subIn K (.ref aNoLine) (.type "object") = some true)
    (m2_NoLine : PySem.W.subIn K (.ref aNoLine) (.type "BaseException") = some true)
    (kx_RC : PySem.W.subIn K (.ref aNoRule) (.ref aNoCount) = some false)
    (nex_RC : (Value.ref aNoRule == Value.ref aNoCount) = false)
    (kx_RL : PySem.W.subIn K (.ref aNoRule) (.ref aNoLine) = some false)
    (nex_RL : (Value.ref aNoRule == Value.ref aNoLine) = false)
    (kx_CR : PySem.W.subIn K (.ref aNoCount) (.ref aNoRule) = some false)
    (nex_CR : (Value.ref aNoCount == Value.ref aNoRule) = false)
    (kx_CL : PySem.W.subIn K (.ref aNoCount) (.ref aNoLine) = some false)
    (nex_CL : (Value.ref aNoCount == Value.ref aNoLine) = false)
    (kx_RV : PySem.W.subIn K (.ref aNoRule) (.type "ValueError") = some true)
    (kx_CV : PySem.W.subIn K (.ref aNoCount) (.type "ValueError") = some true)
    (kE : ClsIn K "EveryPart" aE)
    (kD : ClsIn K "DatePart" aD)
    (kN : ClsIn K "NthPart" aN)
    (kB : ClsIn K "BothPart" aB)
    (kI : ClsIn K "EitherPart" aI)
    (kU : ClsIn K "ButPart" aU)
    (kM : ClsIn K "MovedPart" aM)
    (nP : PySem.W.nsIn K mainGlobals "PairPart" = some (some (.ref aP)))
    (d_greatest_divisor : DefIn K "greatest_divisor" sGd)
    (d_least_multiple : DefIn K "least_multiple" sLm)
    (d_part_of : DefIn K "part_of" sPart)
    (d_pair_of : DefIn K "pair_of" sPair)
    (iE : MethIn K aE "__init__" "EveryPart.__init__" sEveryI)
    (iD : MethIn K aD "__init__" "DatePart.__init__" sDateI)
    (iN : MethIn K aN "__init__" "NthPart.__init__" sNthI)
    (iB : MethIn K aB "__init__" "PairPart.__init__" sPairI)
    (iI : MethIn K aI "__init__" "PairPart.__init__" sPairI)
    (iU : MethIn K aU "__init__" "PairPart.__init__" sPairI)
    (iM : MethIn K aM "__init__" "MovedPart.__init__" sMovedI)
    (iP : MethIn K aP "__init__" "PairPart.__init__" sPairI)
    (rP1 : PySem.W.specialIn K (.ref aP) "__getattribute__" = some (some (.builtin "type.__getattribute__")))
    (rP2 : PySem.W.readsIn K aP (.type "type") = true)
    (rP4 : PySem.W.findIn K (.ref aP) "__init__" = some (some (.ref fP)))
    (rP3 : PySem.W.findCls K (.ref aP) (.type "type") "__init__" = some (.val (.ref fP)))
    (tE : PySem.W.findIn K (.ref aE) "turn" = some none)
    (tD : PySem.W.findIn K (.ref aD) "turn" = some none)
    (tN : PySem.W.findIn K (.ref aN) "turn" = some none)
    (tB : PySem.W.findIn K (.ref aB) "turn" = some none)
    (tI : PySem.W.findIn K (.ref aI) "turn" = some none)
    (tU : PySem.W.findIn K (.ref aU) "turn" = some none)
    (tM : PySem.W.findIn K (.ref aM) "turn" = some none)
    (sE : PySem.W.findIn K (.ref aE) "start" = some none)
    (dD : PySem.W.findIn K (.ref aD) "date" = some none)
    (wN : PySem.W.findIn K (.ref aN) "which" = some none)
    (yN : PySem.W.findIn K (.ref aN) "weekday" = some none)
    (pB : PySem.W.findIn K (.ref aB) "part" = some none)
    (pI : PySem.W.findIn K (.ref aI) "part" = some none)
    (pU : PySem.W.findIn K (.ref aU) "part" = some none)
    (pM : PySem.W.findIn K (.ref aM) "part" = some none)
    (oB : PySem.W.findIn K (.ref aB) "other" = some none)
    (oI : PySem.W.findIn K (.ref aI) "other" = some none)
    (oU : PySem.W.findIn K (.ref aU) "other" = some none)
    (oM : PySem.W.findIn K (.ref aM) "other" = some none)
    (nM : PySem.W.findIn K (.ref aM) "known" = some none)
    (g1 : PySem.W.nsIn K mainGlobals "MOST_DAYS" = some (some (.int 60 t1)))
    (g2 : PySem.W.nsIn K mainGlobals "MOST_WHICH" = some (some (.int 5 t2)))
    (g3 : PySem.W.nsIn K mainGlobals "ODD_MONTH" = some (some (.int 37 t3)))
    (g4 : PySem.W.nsIn K mainGlobals "TWO_MONTHS" = some (some (.int 72 t4)))
    (g5 : PySem.W.nsIn K mainGlobals "WEEKDAYS" = some (some (.int 9 t5)))
    (g6 : PySem.W.nsIn K mainGlobals "EVEN_MONTH" = some (some (.int 35 t6)))
    (d_date_of : DefIn K "date_of" sDate)
    (d_month_length : DefIn K "month_length" sMl)
    (d_weekday_of : DefIn K "weekday_of" sWd)
    (hE : MethIn K aE "has" "EveryPart.has" sHasE)
    (hD : MethIn K aD "has" "DatePart.has" sHasD)
    (hN : MethIn K aN "has" "NthPart.has" sHasN)
    (hB : MethIn K aB "has" "BothPart.has" sHasB)
    (hI : MethIn K aI "has" "EitherPart.has" sHasI)
    (hU : MethIn K aU "has" "ButPart.has" sHasU)
    (hM : MethIn K aM "has" "MovedPart.has" sHasM)
    (hR : MethIn K aM "is_reached" "MovedPart.is_reached" sReach)
    (mE : MethIn K aE "marks" "PlainPart.marks" sMarksP)
    (mD : MethIn K aD "marks" "PlainPart.marks" sMarksP)
    (mN : MethIn K aN "marks" "PlainPart.marks" sMarksP)
    (mB : MethIn K aB "marks" "PairPart.marks" sMarksQ)
    (mI : MethIn K aI "marks" "PairPart.marks" sMarksQ)
    (mU : MethIn K aU "marks" "PairPart.marks" sMarksQ)
    (mM : MethIn K aM "marks" "PairPart.marks" sMarksQ)
    (jB : MethIn K aB "joined" "BothPart.joined" sJoinB)
    (jI : MethIn K aI "joined" "EitherPart.joined" sJoinI)
    (jU : MethIn K aU "joined" "ButPart.joined" sJoinU)
    (jM : MethIn K aM "joined" "MovedPart.joined" sJoinM)
    (nx_FORMS : PySem.W.nsIn K mainGlobals "FORMS" = some (some (.ref aFo)))
    (nx_PAIR_WORDS : PySem.W.nsIn K mainGlobals "PAIR_WORDS" = some (some (.ref aWo)))
    (nx_PAIR_KINDS : PySem.W.nsIn K mainGlobals "PAIR_KINDS" = some (some (.ref aKi)))
    (lkF : K.lookup aFo = some ⟨.type "dict", none, .dict esF epF, #[]⟩)
    (rwF : rowsOf esF.toList = some ([("every", .ref f1), ("date", .ref f2), ("nth", .ref f3)] : List (Str × V)))
    (smF : (aFo == sysModules) = false)
    (lkW : K.lookup aWo = some ⟨.type "dict", none, .dict esW epW, #[]⟩)
    (rwW : rowsOf esW.toList = some ([("both", .str "and"), ("either", .str "or"), ("but", .str "but"), ("moved", .str "off")] : List (Str × V)))
    (smW : (aWo == sysModules) = false)
    (lkK : K.lookup aKi = some ⟨.type "dict", none, .dict esK epK, #[]⟩)
    (rwK : rowsOf esK.toList = some ([("and", .str "both"), ("or", .str "either"), ("but", .str "but"), ("off", .str "moved")] : List (Str × V)))
    (smK : (aKi == sysModules) = false)
    (lkt1 : K.lookup f1 = some ⟨.type "tuple", d1, .seq it1 n1, l1⟩)
    (rvt1 : absVs it1.toList = some [.str "every", .str "", .str "from", .str ""])
    (lkt2 : K.lookup f2 = some ⟨.type "tuple", d2, .seq it2 n2, l2⟩)
    (rvt2 : absVs it2.toList = some [.str "date", .str ""])
    (lkt3 : K.lookup f3 = some ⟨.type "tuple", d3, .seq it3 n3, l3⟩)
    (rvt3 : absVs it3.toList = some [.str "nth", .str "", .str "weekday", .str ""])
    (gN : PySem.W.nsIn K mainGlobals "NUMBER" = some (some (.str "" t7)))
    (gF : PySem.W.nsIn K mainGlobals "FIGURES" = some (some (.str "0123456789" t8)))
    (gP : PySem.W.nsIn K mainGlobals "PAIR_LENGTH" = some (some (.int 5 t9)))
    (ks_st : PySem.W.subIn K (.type "str") (.type "tuple") = some false)
    (ks_it : PySem.W.subIn K (.type "int") (.type "tuple") = some false)
    (ks_is : PySem.W.subIn K (.type "int") (.type "str") = some false)
    (ks_ib : PySem.W.subIn K (.type "int") (.type "bool") = some false)
    (d_has_day : DefIn K "has_day" sHasDay)
    (d_turn_of : DefIn K "turn_of" sTurn)
    (d_next_day : DefIn K "next_day" sNext)
    (d_day_ahead : DefIn K "day_ahead" sAhead)
    (d_how_many : DefIn K "how_many" sMany)
    (d_nth_day : DefIn K "nth_day" sNthDay)
    (d_days_up_to : DefIn K "days_up_to" sUpTo)
    (d_day_at : DefIn K "day_at" sDayAt)
    (d_shown : DefIn K "shown" sShown)
    (d_line_of : DefIn K "line_of" sLineOf)
    (d_plain_line : DefIn K "plain_line" sPlainLine)
    (d_read : DefIn K "read" sRead)
    (d_items_of : DefIn K "items_of" sItems)
    (d_plain_rule : DefIn K "plain_rule" sPlainRule)
    (d_number_of : DefIn K "number_of" sNumber)
    (d_rule_of : DefIn K "rule_of" sRuleOf)
    (d_pair_rule : DefIn K "pair_rule" sPairRule)
    (d_leaf : DefIn K "leaf" sLeaf)
    (d__law_draw : DefIn K "_law_draw" sDraw)
    (d__law_atom : DefIn K "_law_atom" sAtom)
    (d__law_ruled : DefIn K "_law_ruled" sRuled)
    (d__law_at : DefIn K "_law_at" sAt)
    (d__law_lined : DefIn K "_law_lined" sLawLined)
    (d__law_told : DefIn K "_law_told" sLawTold)
    (d__law_spoilt : DefIn K "_law_spoilt" sLawSpoilt)
    (d_law : DefIn K "law" sLaw)
    : ∃ fd : FuncData, (∀ (s : Shared) (v : Value), BindsTo s fd ⟨[v], []⟩ [("_law_script", v)]) ∧ ∀ base : Heap, K.In base → base.Ns mainGlobals mg → FnOk l.prog w K mg base CX0 147 fa fd ["_law_script"] (spLaw K) := by
  have T : Blt mg := ⟨PySem.W.mg_none_of X G z_len, PySem.W.mg_none_of X G z_range, PySem.W.mg_none_of X G z_int, PySem.W.mg_none_of X G z_sum, PySem.W.mg_none_of X G z_isinstance, PySem.W.mg_none_of X G z_bool, PySem.W.mg_none_of X G z_tuple, PySem.W.mg_none_of X G z_abs⟩
  have BM : BltM mg := ⟨PySem.W.mg_none_of X G z_len, PySem.W.mg_none_of X G z_range, PySem.W.mg_none_of X G z_zip, PySem.W.mg_none_of X G z_enumerate⟩
  have PT : Ptx K mg ⟨aE, aD, aN, aB, aI, aU, aM⟩ := ⟨kE, kD, kN, kB, kI, kU, kM, PySem.W.mg_of X G kE.at_, PySem.W.mg_of X G kD.at_, PySem.W.mg_of X G kN.at_, PySem.W.mg_of X G kB.at_, PySem.W.mg_of X G kI.at_, PySem.W.mg_of X G kU.at_, PySem.W.mg_of X G kM.at_, tE, tD, tN, tB, tI, tU, tM, sE, dD, wN, yN, pB, pI, pU, pM, oB, oI, oU, oM, nM, ⟨t1, PySem.W.mg_of X G g1⟩, ⟨t2, PySem.W.mg_of X G g2⟩, ⟨t3, PySem.W.mg_of X G g3⟩, ⟨t4, PySem.W.mg_of X G g4⟩, ⟨t5, PySem.W.mg_of X G g5⟩, PySem.W.mg_none_of X G z_abs⟩
  have MT : Mtx mg := ⟨⟨t4, PySem.W.mg_of X G g4⟩, ⟨t6, PySem.W.mg_of X G g6⟩, ⟨t3, PySem.W.mg_of X G g3⟩, ⟨t5, PySem.W.mg_of X G g5⟩⟩
  have PH : PtxH K ⟨aE, aD, aN, aB, aI, aU, aM⟩ := ⟨hE.mt fun _ _ _ _ _ _ us hl => match us, hl with | [_, _], _ => rfl, hD.mt fun _ _ _ _ _ _ us hl => match us, hl with | [_, _], _ => rfl, hN.mt fun _ _ _ _ _ _ us hl => match us, hl with | [_, _], _ => rfl, hB.mt fun _ _ _ _ _ _ us hl => match us, hl with | [_, _], _ => rfl, hI.mt fun _ _ _ _ _ _ us hl => match us, hl with | [_, _], _ => rfl, hU.mt fun _ _ _ _ _ _ us hl => match us, hl with | [_, _], _ => rfl, hM.mt fun _ _ _ _ _ _ us hl => match us, hl with | [_, _], _ => rfl, hR.mt fun _ _ _ _ _ _ us hl => match us, hl with | [_, _], _ => rfl⟩
  have PM : PtxM K ⟨aE, aD, aN, aB, aI, aU, aM⟩ := ⟨mE.mt fun _ _ _ _ _ _ us hl => match us, hl with | [_], _ => rfl, mD.mt fun _ _ _ _ _ _ us hl => match us, hl with | [_], _ => rfl, mN.mt fun _ _ _ _ _ _ us hl => match us, hl with | [_], _ => rfl, mB.mt fun _ _ _ _ _ _ us hl => match us, hl with | [_], _ => rfl, mI.mt fun _ _ _ _ _ _ us hl => match us, hl with | [_], _ => rfl, mU.mt fun _ _ _ _ _ _ us hl => match us, hl with | [_], _ => rfl, mM.mt fun _ _ _ _ _ _ us hl => match us, hl with | [_], _ => rfl, jB.mt fun _ _ _ _ _ _ us hl => match us, hl with | [_, _, _], _ => rfl, jI.mt fun _ _ _ _ _ _ us hl => match us, hl with | [_, _, _], _ => rfl, jU.mt fun _ _ _ _ _ _ us hl => match us, hl with | [_, _, _], _ => rfl, jM.mt fun _ _ _ _ _ _ us hl => match us, hl with | [_, _, _], _ => rfl, hE.mt fun _ _ _ _ _ _ us hl => match us, hl with | [_, _], _ => rfl, hD.mt fun _ _ _ _ _ _ us hl => match us, hl with | [_, _], _ => rfl, hN.mt fun _ _ _ _ _ _ us hl => match us, hl with | [_, _], _ => rfl⟩
  have LT : Ltx K mg aFo aWo aKi f1 f2 f3 := { T with z_str := PySem.W.mg_none_of X G z_str, z_zip := PySem.W.mg_none_of X G z_zip, m_FORMS := PySem.W.mg_of X G nx_FORMS, kF := kdict_of smF lkF rwF, t1 := sqt_of lkt1 rvt1 (by decide), t2 := sqt_of lkt2 rvt2 (by decide), t3 := sqt_of lkt3 rvt3 (by decide), m_PAIR_WORDS := PySem.W.mg_of X G nx_PAIR_WORDS, kW := kdict_of smW lkW rwW, m_PAIR_KINDS := PySem.W.mg_of X G nx_PAIR_KINDS, kK := kdict_of smK lkK rwK, g_NUMBER := ⟨t7, PySem.W.mg_of X G gN⟩, g_FIGURES := ⟨t8, PySem.W.mg_of X G gF⟩, g_PAIR_LENGTH := ⟨t9, PySem.W.mg_of X G gP⟩ }
  have KT : KitS K := ⟨ks_st, ks_it, ks_is, ks_ib⟩
  obtain ⟨fd, F, hb⟩ := d_law.law (a0 := "_law_script") X G hfa fun _ _ _ _ _ _ _ _ => .of_eq rfl
  refine ⟨fd, hb, fun base KB GB => ?_⟩
  have Cgd := ok_gd (P := l.prog) (w := w) (base := base) (d_greatest_divisor.df X G fun _ _ _ _ _ _ us hl => match us, hl with | [_, _], _ => rfl)
  have Clm := ok_lm (d_least_multiple.df X G fun _ _ _ _ _ _ us hl => match us, hl with | [_, _], _ => rfl) Cgd
  have b3 : ∀ q, BindOk "__init__" q sPairI ["self", "part", "other"] := fun q => fun _ _ _ _ _ _ us hl => match us, hl with | [_, _, _], _ => rfl
  have CE := ok_initE (P := l.prog) (w := w) (base := base) (iE.init kE fun _ _ _ _ _ _ us hl => match us, hl with | [_, _, _], _ => rfl) PT
  have CD := ok_initD (P := l.prog) (w := w) (base := base) (iD.init kD fun _ _ _ _ _ _ us hl => match us, hl with | [_, _], _ => rfl) PT
  have CN := ok_initN (P := l.prog) (w := w) (base := base) (iN.init kN fun _ _ _ _ _ _ us hl => match us, hl with | [_, _, _], _ => rfl) PT
  have pairC : ∀ (x : Str) (C : Addr), mg x = some (.ref C) → In K C "PairPart.__init__" sPairI ["self", "part", "other"] → HasC l.prog w K mg base 3 x C ["self", "part", "other"] (spInitP ⟨aE, aD, aN, aB, aI, aU, aM⟩) := fun x C m D => by
    obtain ⟨f, fd, F, b, M⟩ := D
    exact ⟨m, f, fd, M, ok_initP F PT Clm, b⟩
  have CB := pairC "BothPart" aB PT.mB (iB.init kB (b3 _))
  have CI := pairC "EitherPart" aI PT.mI (iI.init kI (b3 _))
  have CU := pairC "ButPart" aU PT.mU (iU.init kU (b3 _))
  have CP : HasK l.prog w K mg base 3 "PairPart" "__init__" ["self", "part", "other"] (spInitP ⟨aE, aD, aN, aB, aI, aU, aM⟩) := by
    obtain ⟨f, fd, F, b, M⟩ := iP.mt (b3 _)
    have e : f = fP := by
      have h := M.at_.symm.trans rP4
      injection h with h
      injection h with h
      injection h
    subst e
    exact ⟨aP, f, fd, PySem.W.mg_of X G nP, rP1, rP2, rP3, M.kp, ok_initP F PT Clm, b⟩
  have CM := ok_initM (iM.init kM fun _ _ _ _ _ _ us hl => match us, hl with | [_, _, _], _ => rfl) PT CP
  have Cpair := ok_pair (d_pair_of.df X G fun _ _ _ _ _ _ us hl => match us, hl with | [_, _, _], _ => rfl) PT CB CI CU CM
  have Cpart := all_part (d_part_of.df X G fun _ _ _ _ _ _ us hl => match us, hl with | [_], _ => rfl) PT CE CD CN Cpair 64
  have Cdate := ok_date (P := l.prog) (w := w) (base := base) (d_date_of.df X G fun _ _ _ _ _ _ us hl => match us, hl with | [_], _ => rfl) MT
  have Cml := ok_ml (P := l.prog) (w := w) (base := base) (d_month_length.df X G fun _ _ _ _ _ _ us hl => match us, hl with | [_], _ => rfl) MT
  have Cwd := ok_wd (P := l.prog) (w := w) (base := base) (d_weekday_of.df X G fun _ _ _ _ _ _ us hl => match us, hl with | [_], _ => rfl) MT
  have Cmarks := all_marks PT BM PM Cdate Cml Cwd 64
  have Chas := all_has PT PH Cdate Cml Cwd 64
  have TX : T02 K mg base aFo aWo aKi f1 f2 f3 aNoRule aNoCount aNoLine aF := { LT with m_FairError := PySem.W.mg_of X G nx_FairError, m_NoRule := PySem.W.mg_of X G nx_NoRule, m_NoCount := PySem.W.mg_of X G nx_NoCount, m_NoLine := PySem.W.mg_of X G nx_NoLine, z_ValueError := PySem.W.mg_none_of X G z_ValueError, o_NoCount := own_of KB (PySem.W.mg_of X G nx_NoCount) ex_NoCount, xmR := xm_of lk_FairError bF sF_NoRule, xmC := xm_of lk_FairError bF sF_NoCount, xcR := ⟨by unfold PySem.W.clsIn; rw [lk_NoRule]; rfl, f1_NoRule, f2_NoRule, f3_NoRule, xget, xtk, m1_NoRule, m2_NoRule⟩, xcC := ⟨by unfold PySem.W.clsIn; rw [lk_NoCount]; rfl, f1_NoCount, f2_NoCount, f3_NoCount, xget, xtk, m1_NoCount, m2_NoCount⟩, kRC := kit_ref nex_RC lk_NoCount kx_RC, kRL := kit_ref nex_RL lk_NoLine kx_RL, kCR := kit_ref nex_CR lk_NoRule kx_CR, kCL := kit_ref nex_CL lk_NoLine kx_CL, kRV := kit_typ (by decide +kernel) kx_RV, kCV := kit_typ (by decide +kernel) kx_CV }
  have RT : RTx K mg base ⟨aE, aD, aN, aB, aI, aU, aM⟩ aNoRule := { PT with o_NoRule := own_of KB (PySem.W.mg_of X G nx_NoRule) ex_NoRule }
  have XE := ok_initEX (P := l.prog) (w := w) (base := base) (iE.init kE fun _ _ _ _ _ _ us hl => match us, hl with | [_, _, _], _ => rfl) RT
  have XD := ok_initDX (P := l.prog) (w := w) (base := base) (iD.init kD fun _ _ _ _ _ _ us hl => match us, hl with | [_, _], _ => rfl) RT
  have XN := ok_initNX (P := l.prog) (w := w) (base := base) (iN.init kN fun _ _ _ _ _ _ us hl => match us, hl with | [_, _, _], _ => rfl) RT
  have CpX := all_partX (d_part_of.df X G fun _ _ _ _ _ _ us hl => match us, hl with | [_], _ => rfl) RT XE XD XN Cpair (all_part (d_part_of.df X G fun _ _ _ _ _ _ us hl => match us, hl with | [_], _ => rfl) PT CE CD CN Cpair) 64
  have CpU := ok_partU (k := 6) (by decide) (d_part_of.df X G fun _ _ _ _ _ _ us hl => match us, hl with | [_], _ => rfl) RT CE CD CN XE XD XN
  have Cup := ok_upTo (P := l.prog) (w := w) (base := base) (d_days_up_to.df X G fun _ _ _ _ _ _ us hl => match us, hl with | [_, _], _ => rfl) BM
  have Cda := ok_dayAt (P := l.prog) (w := w) (base := base) (d_day_at.df X G fun _ _ _ _ _ _ us hl => match us, hl with | [_, _], _ => rfl) BM
  have Cpl := ok_plainLine (P := l.prog) (w := w) (base := base) (d_plain_line.df X G fun _ _ _ _ _ _ us hl => match us, hl with | [_], _ => rfl) LT
  have Cli := all_line (d_line_of.df X G fun _ _ _ _ _ _ us hl => match us, hl with | [_], _ => rfl) LT Cpl 64
  have Csh := ok_shown (k := 140) (d_shown.df X G fun _ _ _ _ _ _ us hl => match us, hl with | [_], _ => rfl) (Cpart.mono (by decide)) (Cli.mono (by decide))
  have Cnu := ok_number (P := l.prog) (w := w) (base := base) (d_number_of.df X G fun _ _ _ _ _ _ us hl => match us, hl with | [_], _ => rfl) LT
  have Cpr := ok_plainRule (d_plain_rule.df X G fun _ _ _ _ _ _ us hl => match us, hl with | [_, _], _ => rfl) LT Cnu
  have Cit := ok_items (d_items_of.df X G fun _ _ _ _ _ _ us hl => match us, hl with | [_], _ => rfl) LT Cpr
  have Cpp := ok_pairRule (P := l.prog) (w := w) (base := base) (d_pair_rule.df X G fun _ _ _ _ _ _ us hl => match us, hl with | [_], _ => rfl) LT KT
  have Cru := ok_ruleOf (d_rule_of.df X G fun _ _ _ _ _ _ us hl => match us, hl with | [_], _ => rfl) LT Cpp
  have Cre := ok_read (n := 64) (k := 140) (by decide) (by decide) (d_read.df X G fun _ _ _ _ _ _ us hl => match us, hl with | [_], _ => rfl) LT KT Cit Cru (Cpart.mono (by decide))
  have Bha := ok_hasDayX (k := 140) (d_has_day.df X G fun _ _ _ _ _ _ us hl => match us, hl with | [_, _], _ => rfl) (CpX.mono (by decide)) (Chas.mono (by decide))
  have Btu := ok_turnX (k := 140) (d_turn_of.df X G fun _ _ _ _ _ _ us hl => match us, hl with | [_], _ => rfl) (CpX.mono (by decide))
  have Bnt := ok_nthDayX (k := 140) (d_nth_day.df X G fun _ _ _ _ _ _ us hl => match us, hl with | [_, _, _], _ => rfl) (CpX.mono (by decide))
  have Bne := ok_nextX (d_next_day.df X G fun _ _ _ _ _ _ us hl => match us, hl with | [_, _], _ => rfl) Bnt
  have Bah := ok_aheadX (k := 140) (d_day_ahead.df X G fun _ _ _ _ _ _ us hl => match us, hl with | [_, _], _ => rfl) (CpX.mono (by decide)) (Cmarks.mono (by decide))
  have Bma := ok_manyX (k := 140) (d_how_many.df X G fun _ _ _ _ _ _ us hl => match us, hl with | [_, _, _], _ => rfl) (CpX.mono (by decide)) (Cmarks.mono (by decide))
  have Bsh := ok_shownX (k := 140) (d_shown.df X G fun _ _ _ _ _ _ us hl => match us, hl with | [_], _ => rfl) (CpX.mono (by decide))
  have Ble := ok_leafX (k := 140) (d_leaf.df X G fun _ _ _ _ _ _ us hl => match us, hl with | [_, _, _], _ => rfl) (Cpart.mono (by decide)) (CpX.mono (by decide))
  have Bre := ok_readX (k := 140) (by decide) (d_read.df X G fun _ _ _ _ _ _ us hl => match us, hl with | [_], _ => rfl) LT KT Cit Cru (CpU.mono (by decide))
  have Gha := ok_has_day (k := 140) (d_has_day.df X G fun _ _ _ _ _ _ us hl => match us, hl with | [_, _], _ => rfl) (Cpart.mono (by decide)) (Chas.mono (by decide))
  have Gtu := ok_turnG (k := 140) (d_turn_of.df X G fun _ _ _ _ _ _ us hl => match us, hl with | [_], _ => rfl) PT (Cpart.mono (by decide))
  have Gnt := ok_nthDay (k := 140) (d_nth_day.df X G fun _ _ _ _ _ _ us hl => match us, hl with | [_, _, _], _ => rfl) (by decide) (Cpart.mono (by decide)) (Cmarks.mono (by decide)) Cup Cda
  have Gne := ok_nextG (d_next_day.df X G fun _ _ _ _ _ _ us hl => match us, hl with | [_, _], _ => rfl) Gnt
  have Gah := ok_aheadG (k := 140) (d_day_ahead.df X G fun _ _ _ _ _ _ us hl => match us, hl with | [_, _], _ => rfl) (by decide) (Cpart.mono (by decide)) (Cmarks.mono (by decide)) Cup Cda
  have Gma := ok_manyG (k := 140) (d_how_many.df X G fun _ _ _ _ _ _ us hl => match us, hl with | [_, _, _], _ => rfl) (Cpart.mono (by decide)) (Cmarks.mono (by decide))
  have Gnc := ok_nthC (k := 140) (d_nth_day.df X G fun _ _ _ _ _ _ us hl => match us, hl with | [_, _, _], _ => rfl) TX (Cpart.mono (by decide))
  have Gle := ok_leafG (k := 140) (d_leaf.df X G fun _ _ _ _ _ _ us hl => match us, hl with | [_, _, _], _ => rfl) (Cpart.mono (by decide))
  have Cdraw := ok_draw (P := l.prog) (w := w) (base := base) (d__law_draw.df X G fun _ _ _ _ _ _ us hl => match us, hl with | [_, _, _], _ => rfl)
  have Catom := ok_atom (d__law_atom.df X G fun _ _ _ _ _ _ us hl => match us, hl with | [_, _], _ => rfl) T Cdraw
  have Cruled := ok_ruled (d__law_ruled.df X G fun _ _ _ _ _ _ us hl => match us, hl with | [_], _ => rfl) T Catom
  have Cat := ok_at (P := l.prog) (w := w) (base := base) (d__law_at.df X G fun _ _ _ _ _ _ us hl => match us, hl with | [_, _], _ => rfl) T
  have Cln := all_lined (P := l.prog) (w := w) (base := base) (d__law_lined.df X G fun _ _ _ _ _ _ us hl => match us, hl with | [_], _ => rfl) LT 64
  have Csp := all_spoilt (P := l.prog) (w := w) (base := base) (d__law_spoilt.df X G fun _ _ _ _ _ _ us hl => match us, hl with | [_, _, _], _ => rfl) 64
  have CtB := ok_toldB (n := 64) (k := 145) (by decide) (by decide) (d__law_told.df X G fun _ _ _ _ _ _ us hl => match us, hl with | [_, _], _ => rfl) TX (Bha.mono (by decide)) (Btu.mono (by decide)) (Bne.mono (by decide)) (Bah.mono (by decide)) (Bma.mono (by decide)) (Bnt.mono (by decide)) (Bsh.mono (by decide)) (Ble.mono (by decide)) (Bre.mono (by decide)) Cln
  have CtG := ok_toldG (n := 64) (k := 145) (by decide) (by decide) (d__law_told.df X G fun _ _ _ _ _ _ us hl => match us, hl with | [_, _], _ => rfl) TX (Gha.x.mono (by decide)) (Gtu.x.mono (by decide)) (Gne.x.mono (by decide)) (Gah.x.mono (by decide)) (Gma.x.mono (by decide)) (Gnc.mono (by decide)) (Csh.x.mono (by decide)) (Gle.x.mono (by decide)) (Cre.x.mono (by decide)) Cln
  exact ok_law (n := 64) (k := 146) (by decide) (by decide) F LT Cruled Cat Csp CtB CtG
end Lw
def PySem.W.Fast.tw4521926179997010442 : Nat := 0
def PySem.W.Fast.tw16876459360725729102 : Nat := 0
def PySem.W.Fast.tw11532480318247385154 : Nat := 0
def PySem.W.Fast.tw2752272061022549073 : Nat := 0
def PySem.W.Fast.tw8781949602076066098 : Nat := 0
def PySem.W.Fast.tw17333479821617101393 : Nat := 0
def PySem.W.Fast.tw7697638954594092665 : Nat := 0
def PySem.W.Fast.tw12698786133936564349 : Nat := 0
def PySem.W.Fast.tw10290222868353177896 : Nat := 0
def PySem.W.Fast.tw7523596991269233615 : Nat := 0
def PySem.W.Fast.tw6333654016659533737 : Nat := 0
def PySem.W.Fast.tw8250066387506893756 : Nat := 0
def PySem.W.Fast.tw4549248085780954581 : Nat := 0
def PySem.W.Fast.tw13706459377199570984 : Nat := 0
def PySem.W.Fast.tw6245218515709938125 : Nat := 0
def PySem.W.Fast.tw18362321761650877826 : Nat := 0
def PySem.W.Fast.tw10631377589955181231 : Nat := 0
def PySem.W.Fast.tw9865377049011266602 : Nat := 0
def PySem.W.Fast.tw10790433471978418921 : Nat := 0
def PySem.W.Fast.tw17638134557660878731 : Nat := 0
open PySem PySem.W PyProof.Rows
local macro_rules | `(tactic| walk_at "own def") => `(tactic| (refine' L3.DefIn.put ?a ?l ?c ?k; (case a => k_is); (case l => k_is); (case c => k_is); (case k => k_is)))
local macro_rules | `(tactic| walk_at "own meth") => `(tactic| (refine' L3.MethIn.put ?a ?i ?l ?c ?k; (case a => k_is); (case i => k_is); (case l => k_is); (case c => k_is); (case k => k_is)))
local macro_rules | `(tactic| walk_at "own cls") => `(tactic| (refine' L3.ClsIn.mk ?a ?b ?c ?d ?e ?f ?g; (case a => k_is); (case b => k_is); (case c => k_is); (case d => k_is); (case e => k_is); (case f => k_is); (case g => k_is)))
set_option maxRecDepth 100000 in
set_option maxHeartbeats 0 in
theorem PySem.Challenge.cw_fairdays_k02_refused_holds : PySem.Challenge.rw_fairdays_k02_refused.Holds := by
  w_on; o_law; k_head; (case hw => w_witness2)
  k_fill
  refine L3.law_walk (l := PySem.Challenge.rw_fairdays_k02_refused) (a0 := "_law_script") 147 (by decide) rfl rfl (fun w h Y => PySem.W.kIn_of Y) ?F
  case F =>
    intro w mg fa h KX G hmg
    refine' Lw.all_mk KX G hmg ?q_z_len ?q_z_range ?q_z_int ?q_z_sum ?q_z_isinstance ?q_z_bool ?q_z_tuple ?q_z_abs ?q_z_zip ?q_z_enumerate ?q_z_str ?q_z_ValueError ?q_nx_FairError ?q_nx_NoRule ?q_nx_NoCount ?q_nx_NoLine ?q_lk_FairError ?q_bF ?q_lk_NoRule ?q_sF_NoRule ?q_ex_NoRule ?q_f1_NoRule ?q_f2_NoRule ?q_f3_NoRule ?q_m1_NoRule ?q_m2_NoRule ?q_lk_NoCount ?q_sF_NoCount ?q_ex_NoCount ?q_f1_NoCount ?q_f2_NoCount ?q_f3_NoCount ?q_m1_NoCount ?q_m2_NoCount ?q_lk_NoLine ?q_sF_NoLine ?q_ex_NoLine ?q_f1_NoLine ?q_f2_NoLine ?q_f3_NoLine ?q_m1_NoLine ?q_m2_NoLine ?q_kx_RC ?q_nex_RC ?q_kx_RL ?q_nex_RL ?q_kx_CR ?q_nex_CR ?q_kx_CL ?q_nex_CL ?q_kx_RV ?q_kx_CV ?q_kE ?q_kD ?q_kN ?q_kB ?q_kI ?q_kU ?q_kM ?q_nP ?q_d_greatest_divisor ?q_d_least_multiple ?q_d_part_of ?q_d_pair_of ?q_iE ?q_iD ?q_iN ?q_iB ?q_iI ?q_iU ?q_iM ?q_iP ?q_rP1 ?q_rP2 ?q_rP4 ?q_rP3 ?q_tE ?q_tD ?q_tN ?q_tB ?q_tI ?q_tU ?q_tM ?q_sE ?q_dD ?q_wN ?q_yN ?q_pB ?q_pI ?q_pU ?q_pM ?q_oB ?q_oI ?q_oU ?q_oM ?q_nM ?q_g1 ?q_g2 ?q_g3 ?q_g4 ?q_g5 ?q_g6 ?q_d_date_of ?q_d_month_length ?q_d_weekday_of ?q_hE ?q_hD ?q_hN ?q_hB ?q_hI ?q_hU ?q_hM ?q_hR ?q_mE ?q_mD ?q_mN ?q_mB ?q_mI ?q_mU ?q_mM ?q_jB ?q_jI ?q_jU ?q_jM ?q_nx_FORMS ?q_nx_PAIR_WORDS ?q_nx_PAIR_KINDS ?q_lkF ?q_rwF ?q_smF ?q_lkW ?q_rwW ?q_smW ?q_lkK ?q_rwK ?q_smK ?q_lkt1 ?q_rvt1 ?q_lkt2 ?q_rvt2 ?q_lkt3 ?q_rvt3 ?q_gN ?q_gF ?q_gP ?q_ks_st ?q_ks_it ?q_ks_is ?q_ks_ib ?q_d_has_day ?q_d_turn_of ?q_d_next_day ?q_d_day_ahead ?q_d_how_many ?q_d_nth_day ?q_d_days_up_to ?q_d_day_at ?q_d_shown ?q_d_line_of ?q_d_plain_line ?q_d_read ?q_d_items_of ?q_d_plain_rule ?q_d_number_of ?q_d_rule_of ?q_d_pair_rule ?q_d_leaf ?q_d__law_draw ?q_d__law_atom ?q_d__law_ruled ?q_d__law_at ?q_d__law_lined ?q_d__law_told ?q_d__law_spoilt ?q_d_law
    (case q_kE => walk_at "own cls")
    (case q_kD => walk_at "own cls")
    (case q_kN => walk_at "own cls")
    (case q_kB => walk_at "own cls")
    (case q_kI => walk_at "own cls")
    (case q_kU => walk_at "own cls")
    (case q_kM => walk_at "own cls")
    (case q_nx_FairError => k_is)
    (case q_nx_NoRule => k_is)
    (case q_nx_NoCount => k_is)
    (case q_nx_NoLine => k_is)
    (case q_nP => k_is)
    (case q_nx_FORMS => k_is)
    (case q_nx_PAIR_WORDS => k_is)
    (case q_nx_PAIR_KINDS => k_is)
    (case q_z_len => k_is)
    (case q_z_range => k_is)
    (case q_z_int => k_is)
    (case q_z_sum => k_is)
    (case q_z_isinstance => k_is)
    (case q_z_bool => k_is)
    (case q_z_tuple => k_is)
    (case q_z_abs => k_is)
    (case q_z_zip => k_is)
    (case q_z_enumerate => k_is)
    (case q_z_str => k_is)
    (case q_z_ValueError => k_is)
    (case q_lk_FairError => k_is)
    (case q_bF => k_is)
    (case q_lk_NoRule => k_is)
    (case q_sF_NoRule => k_is)
    (case q_ex_NoRule => k_exc)
    (case q_f1_NoRule => k_is)
    (case q_f2_NoRule => k_is)
    (case q_f3_NoRule => k_is)
    (case q_m1_NoRule => k_is)
    (case q_m2_NoRule => k_is)
    (case q_lk_NoCount => k_is)
    (case q_sF_NoCount => k_is)
    (case q_ex_NoCount => k_exc)
    (case q_f1_NoCount => k_is)
    (case q_f2_NoCount => k_is)
    (case q_f3_NoCount => k_is)
    (case q_m1_NoCount => k_is)
    (case q_m2_NoCount => k_is)
    (case q_lk_NoLine => k_is)
    (case q_sF_NoLine => k_is)
    (case q_ex_NoLine => k_exc)
    (case q_f1_NoLine => k_is)
    (case q_f2_NoLine => k_is)
    (case q_f3_NoLine => k_is)
    (case q_m1_NoLine => k_is)
    (case q_m2_NoLine => k_is)
    (case q_kx_RC => k_is)
    (case q_nex_RC => rfl)
    (case q_kx_RL => k_is)
    (case q_nex_RL => rfl)
    (case q_kx_CR => k_is)
    (case q_nex_CR => rfl)
    (case q_kx_CL => k_is)
    (case q_nex_CL => rfl)
    (case q_kx_RV => k_is)
    (case q_kx_CV => k_is)
    (case q_d_greatest_divisor => walk_at "own def")
    (case q_d_least_multiple => walk_at "own def")
    (case q_d_part_of => walk_at "own def")
    (case q_d_pair_of => walk_at "own def")
    (case q_iE => walk_at "own meth")
    (case q_iD => walk_at "own meth")
    (case q_iN => walk_at "own meth")
    (case q_iB => walk_at "own meth")
    (case q_iI => walk_at "own meth")
    (case q_iU => walk_at "own meth")
    (case q_iM => walk_at "own meth")
    (case q_iP => walk_at "own meth")
    (case q_rP1 => k_is)
    (case q_rP2 => k_is)
    (case q_rP4 => k_is)
    (case q_rP3 => k_is)
    (case q_tE => k_is)
    (case q_tD => k_is)
    (case q_tN => k_is)
    (case q_tB => k_is)
    (case q_tI => k_is)
    (case q_tU => k_is)
    (case q_tM => k_is)
    (case q_sE => k_is)
    (case q_dD => k_is)
    (case q_wN => k_is)
    (case q_yN => k_is)
    (case q_pB => k_is)
    (case q_pI => k_is)
    (case q_pU => k_is)
    (case q_pM => k_is)
    (case q_oB => k_is)
    (case q_oI => k_is)
    (case q_oU => k_is)
    (case q_oM => k_is)
    (case q_nM => k_is)
    (case q_g1 => k_is)
    (case q_g2 => k_is)
    (case q_g3 => k_is)
    (case q_g4 => k_is)
    (case q_g5 => k_is)
    (case q_g6 => k_is)
    (case q_d_date_of => walk_at "own def")
    (case q_d_month_length => walk_at "own def")
    (case q_d_weekday_of => walk_at "own def")
    (case q_hE => walk_at "own meth")
    (case q_hD => walk_at "own meth")
    (case q_hN => walk_at "own meth")
    (case q_hB => walk_at "own meth")
    (case q_hI => walk_at "own meth")
    (case q_hU => walk_at "own meth")
    (case q_hM => walk_at "own meth")
    (case q_hR => walk_at "own meth")
    (case q_mE => walk_at "own meth")
    (case q_mD => walk_at "own meth")
    (case q_mN => walk_at "own meth")
    (case q_mB => walk_at "own meth")
    (case q_mI => walk_at "own meth")
    (case q_mU => walk_at "own meth")
    (case q_mM => walk_at "own meth")
    (case q_jB => walk_at "own meth")
    (case q_jI => walk_at "own meth")
    (case q_jU => walk_at "own meth")
    (case q_jM => walk_at "own meth")
    (case q_lkF => k_is)
    (case q_rwF => rfl)
    (case q_smF => rfl)
    (case q_lkW => k_is)
    (case q_rwW => rfl)
    (case q_smW => rfl)
    (case q_lkK => k_is)
    (case q_rwK => rfl)
    (case q_smK => rfl)
    (case q_lkt1 => k_is)
    (case q_rvt1 => rfl)
    (case q_lkt2 => k_is)
    (case q_rvt2 => rfl)
    (case q_lkt3 => k_is)
    (case q_rvt3 => rfl)
    (case q_gN => k_is)
    (case q_gF => k_is)
    (case q_gP => k_is)
    (case q_ks_st => k_is)
    (case q_ks_it => k_is)
    (case q_ks_is => k_is)
    (case q_ks_ib => k_is)
    (case q_d_has_day => walk_at "own def")
    (case q_d_turn_of => walk_at "own def")
    (case q_d_next_day => walk_at "own def")
    (case q_d_day_ahead => walk_at "own def")
    (case q_d_how_many => walk_at "own def")
    (case q_d_nth_day => walk_at "own def")
    (case q_d_days_up_to => walk_at "own def")
    (case q_d_day_at => walk_at "own def")
    (case q_d_shown => walk_at "own def")
    (case q_d_line_of => walk_at "own def")
    (case q_d_plain_line => walk_at "own def")
    (case q_d_read => walk_at "own def")
    (case q_d_items_of => walk_at "own def")
    (case q_d_plain_rule => walk_at "own def")
    (case q_d_number_of => walk_at "own def")
    (case q_d_rule_of => walk_at "own def")
    (case q_d_pair_rule => walk_at "own def")
    (case q_d_leaf => walk_at "own def")
    (case q_d__law_draw => walk_at "own def")
    (case q_d__law_atom => walk_at "own def")
    (case q_d__law_ruled => walk_at "own def")
    (case q_d__law_at => walk_at "own def")
    (case q_d__law_lined => walk_at "own def")
    (case q_d__law_told => walk_at "own def")
    (case q_d__law_spoilt => walk_at "own def")
    (case q_d_law => walk_at "own def")
#print axioms PySem.Challenge.cw_fairdays_k02_refused_holds
