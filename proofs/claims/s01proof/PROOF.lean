import PyProof.Rows.All
import Wide.All
import OpenK.AllK
import Wide.FinOn
import PyProof.EqAt
import PyProof.EqKinds
import PyProof.TupleCall
import KE.BitLaws
import Open.SpecLaws
import KE.OsHead
import KE.OsGo
import PySem.Challenge.RW_clocksroom_s01_answers
set_option Elab.async false
set_option linter.all false
set_option maxRecDepth 100000
namespace L2
open PySem PySem.Spec PyProof.Rows
abbrev Key := Sum Int Str
def keyIs : Key → Value → Bool
  | .inl k, v => Value.isInt k v
  | .inr x, v => Value.isStrOf x v
def keyH (w : World) : Key → Int
  | .inl k => hashInt k
  | .inr x => hashStr w x
theorem keyIs_shape : ∀ {k : Key} {v : Value}, keyIs k v = true → (∃ i t, k = Sum.inl i ∧ v = Value.int i t) ∨ (∃ x t, k = Sum.inr x ∧ v = Value.str x t)
  | .inl i, v, h => by
    obtain ⟨t, e⟩ := Value.isInt_shape (k := i) (v := v) h
    exact .inl ⟨i, t, rfl, e⟩
  | .inr x, v, h => by
    obtain ⟨t, e⟩ := Value.isStrOf_shape (x := x) (v := v) h
    exact .inr ⟨x, t, rfl, e⟩
theorem keyIs_int (i : Int) (t : Tok) : keyIs (.inl i) (.int i t) = true := by simp [keyIs, Value.isInt]
theorem keyIs_str (x : Str) (t : Tok) : keyIs (.inr x) (.str x t) = true := by simp [keyIs, Value.isStrOf]
theorem key_ll (a b : Int) : decide ((Sum.inl a : Key) = Sum.inl b) = (a == b) := by
  by_cases e : a = b
  · subst e; simp
  · have h : ¬ (Sum.inl a : Key) = Sum.inl b := fun q => e (Sum.inl.inj q)
    rw [decide_eq_false h]
    exact (beq_eq_false_iff_ne.mpr e).symm
theorem key_rr (a b : Str) : decide ((Sum.inr a : Key) = Sum.inr b) = decide (a = b) := by
  by_cases e : a = b
  · subst e; simp
  · have h : ¬ (Sum.inr a : Key) = Sum.inr b := fun q => e (Sum.inr.inj q)
    rw [decide_eq_false h, decide_eq_false e]
theorem key_lr (a : Int) (b : Str) : decide ((Sum.inl a : Key) = Sum.inr b) = false := decide_eq_false (fun q => nomatch q)
theorem key_rl (a : Str) (b : Int) : decide ((Sum.inr a : Key) = Sum.inl b) = false := decide_eq_false (fun q => nomatch q)
def mixKind (prog : Program) (w : World) : PySem.KeyKind prog w Key where
  is := keyIs
  hash := keyH w
  inj := fun v a b ha hb => by
    rcases keyIs_shape ha with ⟨i, t, rfl, rfl⟩ | ⟨x, t, rfl, rfl⟩
    · rcases keyIs_shape hb with ⟨j, u, rfl, e⟩ | ⟨y, u, rfl, e⟩
      · injection e with e1 _; rw [e1]
      · exact nomatch e
    · rcases keyIs_shape hb with ⟨j, u, rfl, e⟩ | ⟨y, u, rfl, e⟩
      · exact nomatch e
      · injection e with e1 _; rw [e1]
  byValue := fun k v h => by
    rcases keyIs_shape h with ⟨i, t, rfl, rfl⟩ | ⟨x, t, rfl, rfl⟩ <;> rfl
  pyHash := fun hv h => by
    rcases keyIs_shape hv with ⟨i, t, rfl, rfl⟩ | ⟨x, t, rfl, rfl⟩
    · exact wpAny_pyHash_int h
    · exact wpAny_pyHash_str h
  eqBool := fun hu hv h => by
    rcases keyIs_shape hu with ⟨i, t, rfl, rfl⟩ | ⟨x, t, rfl, rfl⟩
    · rcases keyIs_shape hv with ⟨j, u, rfl, rfl⟩ | ⟨y, u, rfl, rfl⟩
      · rw [key_ll] at h; exact wpAny_eqBool_int h
      · rw [key_lr] at h; exact SeqAt.EqAt.int_str i t y u _ _ _ _ h
    · rcases keyIs_shape hv with ⟨j, u, rfl, rfl⟩ | ⟨y, u, rfl, rfl⟩
      · rw [key_rl] at h; exact SeqAt.EqAt.str_int x t j u _ _ _ _ h
      · rw [key_rr] at h; exact wpAny_eqBool_str h
  «strs» := fun k x t v h => by
    rcases keyIs_shape h with ⟨i, u, rfl, e⟩ | ⟨y, u, rfl, e⟩
    · exact nomatch e
    · injection e with e1 _
      subst e1
      cases v <;> rfl
theorem mixKind_int (prog : Program) (w : World) (i : Int) (t : Tok) : (mixKind prog w).is (.inl i) (.int i t) = true := keyIs_int i t
theorem mixKind_str (prog : Program) (w : World) (x : Str) (t : Tok) : (mixKind prog w).is (.inr x) (.str x t) = true := keyIs_str x t
end L2
namespace L2
open PySem PySem.Spec PyProof.Rows
inductive V where
  | non | bl (b : Bool) | int (i : Int) | str (x : Str) | byt (b : Array UInt8) | flt (b : UInt64) | ref (a : Addr) | ty (n : String)
  deriving DecidableEq
def RelV : V → Value → Prop
  | .non, u => u = Value.none
  | .bl b, u => u = Value.bool b
  | .int i, u => ∃ t, u = Value.int i t
  | .str x, u => ∃ t, u = Value.str x t
  | .byt b, u => ∃ t, u = Value.bytes b t
  | .flt b, u => ∃ t, u = Value.float b t
  | .ref a, u => u = Value.ref a
  | .ty n, u => u = Value.type n
abbrev Vals : List V → List Value → Prop := Paired RelV
theorem Vals.length {xs : List V} {us : List Value} (r : Vals xs us) : xs.length = us.length := Paired.length r
theorem Vals.get : ∀ {xs : List V} {us : List Value} {i : Nat} {x : V}, Vals xs us → xs[i]? = some x → ∃ u, us[i]? = some u ∧ RelV x u
  | _, _, _, _, .nil, e => by simp at e
  | _, _, 0, _, .cons r _, e => by simp at e; subst e; exact ⟨_, rfl, r⟩
  | _, _, i + 1, x, .cons _ t, e => by
    obtain ⟨u, h1, h2⟩ := Vals.get (i := i) (x := x) t (by simpa using e)
    exact ⟨u, by simpa using h1, h2⟩
theorem Vals.set {x : V} {u : Value} (r : RelV x u) : ∀ {xs : List V} {us : List Value} (i : Nat), Vals xs us → Vals (xs.set i x) (us.set i u)
  | _, _, _, .nil => .nil
  | _, _, 0, .cons _ t => .cons r t
  | _, _, i + 1, .cons q t => .cons q (Vals.set r i t)
theorem Vals.append : ∀ {xs ys : List V} {us ws : List Value}, Vals xs us → Vals ys ws → Vals (xs ++ ys) (us ++ ws)
  | _, _, _, _, .nil, s => s
  | _, _, _, _, .cons r t, s => .cons r (Vals.append t s)
theorem Vals.take : ∀ {xs : List V} {us : List Value} (n : Nat), Vals xs us → Vals (xs.take n) (us.take n)
  | _, _, 0, _ => .nil
  | _, _, _ + 1, .nil => .nil
  | _, _, n + 1, .cons r t => .cons r (Vals.take n t)
theorem Vals.drop : ∀ {xs : List V} {us : List Value} (n : Nat), Vals xs us → Vals (xs.drop n) (us.drop n)
  | _, _, 0, r => r
  | _, _, _ + 1, .nil => .nil
  | _, _, n + 1, .cons _ t => Vals.drop n t
theorem Vals.none_of : ∀ {xs : List V} {us : List Value} {i : Nat}, Vals xs us → xs[i]? = none → us[i]? = none := fun {xs us i} r e => by
  have h1 := r.length
  have h2 : xs.length ≤ i := List.getElem?_eq_none_iff.mp e
  exact List.getElem?_eq_none_iff.mpr (by omega)
def RelO : Option V → Option Value → Prop
  | some v, some u => RelV v u
  | none, none => True
  | _, _ => False
def KV {κ : Type} : List (κ × V) → List (κ × Value) → Prop := Paired fun (p : κ × V) (q : κ × Value) => p.1 = q.1 ∧ RelV p.2 q.2
def kV : Key → V
  | .inl i => .int i
  | .inr x => .str x
inductive HO where
  | lst (xs : List V)
  | tup (xs : List V)
  | dK (kvs : List (Key × V)) | dT (kvs : List (List Key × V))
  | set (S : Int → Bool) (n : Nat)
  | ins (C dx : Addr) (fs : List (Str × V))
  | own (x : Addr)
  | xd (fs : List (Str × V))
  | met (f x : Addr)
  | rng (lo hi : Int)
  | frz (o : Obj) (u : HO)
  | tbl (ps : Array Value)
  | ext (φ : Heap → Prop)
abbrev Hp := Addr → Option HO
def upd (H : Hp) (a : Addr) (o : HO) : Hp := fun b => if b = a then some o else H b
theorem upd_same {H : Hp} {a : Addr} {o : HO} : upd H a o a = some o := by unfold upd; rw [if_pos rfl]
theorem upd_ne {H : Hp} {a b : Addr} {o : HO} (h : b ≠ a) : upd H a o b = H b := by unfold upd; rw [if_neg h]
theorem upd_upd {H : Hp} {a : Addr} {o u : HO} : upd (upd H a o) a u = upd H a u := by
  funext b; unfold upd; split <;> rfl
theorem ne_of {H : Hp} {a b : Addr} {o u : HO} (h : H a = some o) (h' : H b = some u) (d : o ≠ u) : a ≠ b := by
  intro e; subst e; rw [h] at h'; exact d (Option.some.inj h')
theorem ne_of_none {H : Hp} {a b : Addr} {o : HO} (h : H a = some o) (h' : H b = none) : a ≠ b := by
  intro e; subst e; rw [h] at h'; cases h'
section
variable (P : Program) (w : World)
def ObjOk (H : Hp) (h : Heap) (a : Addr) : HO → Prop
  | .lst xs => xs.length ≤ sizeLine ∧ ∃ (its : List Value) (n : Nat), Vals xs its ∧ h.get? a = some { cls := .type "list", data := .seq its.toArray n }
  | .tup xs => xs.length ≤ sizeLine ∧ ∃ its : List Value, Vals xs its ∧ IsTup h a its.toArray
  | .dK kvs => kvs.length ≤ sizeLine ∧ (a == sysModules) = false ∧ ∃ vs, KV kvs vs ∧ h.DictOf (mixKind P w) a vs
  | .dT kvs => kvs.length ≤ sizeLine ∧ (a == sysModules) = false ∧ ∃ xs : List (List Key × Addr × Value),
      Paired (fun (p : List Key × V) (q : List Key × Addr × Value) => p.1 = q.1 ∧ H q.2.1 = some (.tup (p.1.map kV)) ∧ RelV p.2 q.2.2) kvs xs ∧
      ∃ o es ep, h.get? a = some o ∧ o.ExactDict ∧ o.data = .dict es ep ∧ es.toList = xs.map (entryOfKey (tupleKind (mixKind P w))) ∧ (xs.map (·.1)).Nodup
  | .set S n => h.SetOf (intKind P w) a S n
  | .ins C dx fs => H dx = some (.own a) ∧ fs.length ≤ 1000 ∧ dx ≠ a ∧ h.get? a = some (PySem.W.instObj C dx) ∧
      ∃ mA, h.Ns1 dx mA ∧ (∀ f, RelO (fs.lookup f) (mA f)) ∧ PySem.Within mA (fs.map (·.1))
  | .own _ => ∃ o, h.get? a = some o
  | .xd fs => ∃ mA, h.Ns1 a mA ∧ ∀ f, RelO (fs.lookup f) (mA f)
  | .rng lo hi => ∃ t u v, h.get? a = some { cls := .type "range", data := .fields #[.int lo t, .int hi u, .int 1 v] }
  | .frz o u => h.get? a = some o ∧ ObjOk H h a u
  | .tbl ps => h.get? a = some { cls := .none, data := .fields ps }
  | .met f x => h.get? a = some (PySem.W.methodObj (.ref f) (.ref x))
  | .ext φ => φ h ∧ (∃ o, h.get? a = some o) ∧ ∀ h1 h2 : Heap, φ h1 → (∀ o, h1.get? a = some o → h2.get? a = some o) → φ h2
def HOk (H : Hp) (h : Heap) : Prop := ∀ a o, H a = some o → ObjOk P w H h a o
end
section
variable {P : Program} {w : World} {H H' : Hp} {h h' : Heap} {a : Addr} {o : HO}
theorem ObjOk.lt (x : ObjOk P w H h a o) : a < h.objs.size := by
  cases o with
  | lst xs => obtain ⟨_, _, _, _, e⟩ := x; exact Heap.lt_size e
  | tup xs => obtain ⟨_, _, _, p⟩ := x; exact p.lt
  | dK kvs => obtain ⟨_, _, _, _, o, _, _, e, _⟩ := x; exact Heap.lt_size e
  | dT kvs => obtain ⟨_, _, _, _, o, _, _, e, _⟩ := x; exact Heap.lt_size e
  | set S n => obtain ⟨o, _, _, _, e, _⟩ := x; exact Heap.lt_size e
  | ins C dx fs => obtain ⟨_, _, _, e, _⟩ := x; exact Heap.lt_size e
  | own y => obtain ⟨_, e⟩ := x; exact Heap.lt_size e
  | xd fs => obtain ⟨_, ⟨_, _, _, e, _⟩, _⟩ := x; exact Heap.lt_size e
  | rng lo hi => obtain ⟨_, _, _, e⟩ := x; exact Heap.lt_size e
  | frz ob u => obtain ⟨e, _⟩ := x; exact Heap.lt_size e
  | tbl ps => exact Heap.lt_size (show h.get? a = some _ from x)
  | met f y => exact Heap.lt_size (show h.get? a = some _ from x)
  | ext φ => obtain ⟨_, ⟨_, e⟩, _⟩ := x; exact Heap.lt_size e
theorem Paired.mapP {α β : Type} {F G : α → β → Prop} : ∀ {l₁ : List α} {l₂ : List β}, Paired F l₁ l₂ → (∀ a b, F a b → G a b) → Paired G l₁ l₂
  | _, _, .nil, _ => .nil
  | _, _, .cons r t, f => .cons (f _ _ r) (Paired.mapP t f)
theorem ObjOk.stay (x : ObjOk P w H h a o) (k : ∀ b u, (b = a ∨ H b = some (.own a)) → h.get? b = some u → h'.get? b = some u)
    (ho : ∀ b, H b = some (.own a) → H' b = some (.own a)) (ht : ∀ b xs, H b = some (.tup xs) → H' b = some (.tup xs)) : ObjOk P w H' h' a o := by
  induction o with
  | lst xs => obtain ⟨z, its, n, r, e⟩ := x; exact ⟨z, its, n, r, k _ _ (.inl rfl) e⟩
  | tup xs => obtain ⟨z, its, r, ob, e, c⟩ := x; exact ⟨z, its, r, ob, k _ _ (.inl rfl) e, c⟩
  | dK kvs => obtain ⟨z, y, vs, r, ob, es, ep, e, c⟩ := x; exact ⟨z, y, vs, r, ob, es, ep, k _ _ (.inl rfl) e, c⟩
  | dT kvs =>
    obtain ⟨z, y, xs, r, ob, es, ep, e, c⟩ := x
    exact ⟨z, y, xs, Paired.mapP r fun p q z => ⟨z.1, ht _ _ z.2.1, z.2.2⟩, ob, es, ep, k _ _ (.inl rfl) e, c⟩
  | set S n => obtain ⟨ob, es, ep, t, e, c⟩ := x; exact ⟨ob, es, ep, t, k _ _ (.inl rfl) e, c⟩
  | ins C dx fs =>
    obtain ⟨d, z, ne, e, mA, ⟨od, es, ep, e2, c⟩, r⟩ := x
    exact ⟨ho _ d, z, ne, k _ _ (.inl rfl) e, mA, ⟨od, es, ep, k _ _ (.inr d) e2, c⟩, r⟩
  | own y => obtain ⟨ob, e⟩ := x; exact ⟨ob, k _ _ (.inl rfl) e⟩
  | xd fs => obtain ⟨mA, ⟨od, es, ep, e, c⟩, r⟩ := x; exact ⟨mA, ⟨od, es, ep, k _ _ (.inl rfl) e, c⟩, r⟩
  | rng lo hi => obtain ⟨t, u, v, e⟩ := x; exact ⟨t, u, v, k _ _ (.inl rfl) e⟩
  | frz ob u ih => obtain ⟨e, q⟩ := x; exact ⟨k _ _ (.inl rfl) e, ih q⟩
  | tbl ps =>
    have e : h.get? a = some { cls := .none, data := .fields ps } := x
    show h'.get? a = some { cls := .none, data := .fields ps }
    exact k a _ (.inl rfl) e
  | met f y =>
    have e : h.get? a = some (PySem.W.methodObj (.ref f) (.ref y)) := x
    show h'.get? a = some (PySem.W.methodObj (.ref f) (.ref y))
    exact k a _ (.inl rfl) e
  | ext φ => obtain ⟨p, ⟨o, e⟩, st⟩ := x; exact ⟨st _ _ p fun o q => k _ _ (.inl rfl) q, ⟨o, k _ _ (.inl rfl) e⟩, st⟩
theorem HOk.lt (x : HOk P w H h) (e : H a = some o) : a < h.objs.size := (x a o e).lt
theorem HOk.fresh (x : HOk P w H h) (e : h.objs.size ≤ a) : H a = none := by
  cases q : H a with
  | none => rfl
  | some u => exact absurd (Nat.lt_of_lt_of_le (x.lt q) e) (Nat.lt_irrefl _)
theorem HOk.kept (x : HOk P w H h) (k : ∀ b u, h.get? b = some u → h'.get? b = some u) : HOk P w H h' := fun a o e =>
  (x a o e).stay (fun b u _ q => k b u q) (fun _ q => q) fun _ _ q => q
theorem HOk.laid (x : HOk P w H h) (k : ∀ b u, h.get? b = some u → h'.get? b = some u) (hp : h.objs.size ≤ a) (new : ObjOk P w (upd H a o) h' a o) : HOk P w (upd H a o) h' := fun b u e => by
  have hn := x.fresh hp
  by_cases hb : b = a
  · subst hb; rw [upd_same] at e; cases e; exact new
  · rw [upd_ne hb] at e
    exact (x b u e).stay (fun c v _ q => k c v q) (fun c q => by rw [upd_ne (ne_of_none q hn)]; exact q) fun c xs q => by rw [upd_ne (ne_of_none q hn)]; exact q
end
def Rd (H : Hp) (a : Addr) (u : HO) : Prop := H a = some u ∨ ∃ o, H a = some (.frz o u)
theorem Rd.of {H : Hp} {a : Addr} {u : HO} (h : H a = some u) : Rd H a u := .inl h
theorem Rd.ok {P : Program} {w : World} {H : Hp} {h : Heap} {a : Addr} {u : HO} (r : Rd H a u) (x : HOk P w H h) : ObjOk P w H h a u := by
  rcases r with r | ⟨o, r⟩
  · exact x a u r
  · obtain ⟨_, q⟩ := x a _ r
    exact q
def Mut : Option HO → Prop
  | some (.lst _) => True
  | some (.dK _) => True
  | some (.dT _) => True
  | some (.set _ _) => True
  | some (.ins _ _ _) => True
  | some (.ext _) => True
  | _ => False
section
variable {P : Program} {w : World} {H : Hp} {h h' : Heap} {x e : Addr} {o' : HO}
theorem HOk.write (ok : HOk P w H h) (mu : Mut (H x)) (he : e = x ∨ H e = some (.own x)) (k : ∀ b u, b ≠ e → h.get? b = some u → h'.get? b = some u) (heo : ∃ u, h'.get? e = some u)
    (new : ObjOk P w (upd H x o') h' x o') : HOk P w (upd H x o') h' := fun b u q => by
  have nown : ∀ c y, H c = some (.own y) → c ≠ x := fun c y r z => by subst z; rw [r] at mu; exact mu
  have ntup : ∀ c xs, H c = some (.tup xs) → c ≠ x := fun c xs r z => by subst z; rw [r] at mu; exact mu
  by_cases hb : b = x
  · subst hb; rw [upd_same] at q; cases q; exact new
  · rw [upd_ne hb] at q
    by_cases hbe : b = e
    · have q' : H b = some (.own x) := by
        rcases he with z | z
        · exact absurd (hbe.trans z) hb
        · rw [hbe]; exact z
      rw [q] at q'; cases q'
      obtain ⟨v, hv⟩ := heo
      exact ⟨v, by rw [hbe]; exact hv⟩
    · refine (ok b u q).stay (fun c v hc r => k c v ?_ r) (fun c r => by rw [upd_ne (nown c b r)]; exact r) fun c xs r => by rw [upd_ne (ntup c xs r)]; exact r
      rcases hc with rfl | hc
      · exact hbe
      · rintro rfl
        rcases he with z | z
        · exact nown c b hc z
        · rw [hc] at z; cases z; exact hb rfl
end
structure Un (fs ex : List Addr) (H H' : Hp) (h h' : Heap) : Prop where
  keep : ∀ b o, h.get? b = some o → H b = none → b ∉ fs → b ∉ ex → h'.get? b = some o
  slot : ∀ b o, h.get? b = some o → H b = none → b ∈ fs → b ∉ ex → ∃ sl, h'.get? b = some { o with slots := sl }
  free : ∀ b o, h.get? b = some o → H b = none → b ∉ ex → H' b = none
  there : ∀ b o, h.get? b = some o → b ∉ ex → ∃ o', h'.get? b = some o'
  tups : ∀ b xs, H b = some (.tup xs) → H' b = some (.tup xs)
  frzs : ∀ b o u, H b = some (.frz o u) → H' b = some (.frz o u)
  tbls : ∀ b ps, H b = some (.tbl ps) → ∃ more, H' b = some (.tbl (ps ++ more))
section
variable {fs fs' ex ex' : List Addr} {H H1 H2 : Hp} {h h1 h2 h' : Heap} {a x e : Addr} {o : HO}
theorem Un.any (u : Un fs ex H H1 h h1) {b : Addr} {ob : Obj} (q : h.get? b = some ob) (n : H b = none) (hx : b ∉ ex) : ∃ sl, h1.get? b = some { ob with slots := sl } := by
  by_cases hb : b ∈ fs
  · exact u.slot b ob q n hb hx
  · exact ⟨ob.slots, u.keep b ob q n hb hx⟩
theorem Un.trans (a : Un fs ex H H1 h h1) (b : Un fs ex H1 H2 h1 h2) : Un fs ex H H2 h h2 where
  keep := fun c ob q n hc hx => b.keep c ob (a.keep c ob q n hc hx) (a.free c ob q n hx) hc hx
  slot := fun c ob q n hc hx => by
    obtain ⟨sl, e1⟩ := a.slot c ob q n hc hx
    obtain ⟨sl', e2⟩ := b.slot c _ e1 (a.free c ob q n hx) hc hx
    exact ⟨sl', e2⟩
  free := fun c ob q n hx => by
    obtain ⟨o', e1⟩ := a.there c ob q hx
    exact b.free c o' e1 (a.free c ob q n hx) hx
  there := fun c ob q hx => by
    obtain ⟨o', e1⟩ := a.there c ob q hx
    exact b.there c o' e1 hx
  tups := fun c xs q => b.tups c xs (a.tups c xs q)
  frzs := fun c ob xs q => b.frzs c ob xs (a.frzs c ob xs q)
  tbls := fun c ps q => by
    obtain ⟨m1, e1⟩ := a.tbls c ps q
    obtain ⟨m2, e2⟩ := b.tbls c _ e1
    exact ⟨m1 ++ m2, by rw [e2, Array.append_assoc]⟩
theorem Un.kept (k : ∀ b u, h.get? b = some u → h'.get? b = some u) : Un fs ex H H h h' :=
  ⟨fun b ob q _ _ _ => k b ob q, fun b ob q _ _ _ => ⟨ob.slots, k b ob q⟩, fun _ _ _ n _ => n, fun b ob q _ => ⟨ob, k b ob q⟩, fun _ _ q => q, fun _ _ _ q => q, fun _ ps q => ⟨#[], by rw [q]; simp⟩⟩
theorem Un.refl : Un fs ex H H h h := Un.kept fun _ _ q => q
theorem Un.laid (k : ∀ b u, h.get? b = some u → h'.get? b = some u) (hp : h.objs.size ≤ a) (hn : H a = none) : Un fs ex H (upd H a o) h h' where
  keep := fun b u q _ _ _ => k b u q
  slot := fun b u q _ _ _ => ⟨u.slots, k b u q⟩
  free := fun b u q n _ => by rw [upd_ne (Nat.ne_of_lt (Nat.lt_of_lt_of_le (Heap.lt_size q) hp))]; exact n
  there := fun b u q _ => ⟨u, k b u q⟩
  tups := fun b xs q => by rw [upd_ne (ne_of_none q hn)]; exact q
  frzs := fun b u xs q => by rw [upd_ne (ne_of_none q hn)]; exact q
  tbls := fun b ps q => ⟨#[], by rw [upd_ne (ne_of_none q hn), q]; simp⟩
theorem Un.write (mu : Mut (H x)) (he : e = x ∨ H e = some (.own x)) (k : ∀ b u, b ≠ e → h.get? b = some u → h'.get? b = some u) (heo : ∃ u, h'.get? e = some u) : Un fs ex H (upd H x o) h h' := by
  have hx : ∀ b, H b = none → b ≠ x := fun b n z => by subst z; rw [n] at mu; exact mu
  have hb : ∀ b, H b = none → b ≠ e := fun b n z => by
    subst z
    rcases he with r | r
    · exact hx b n r
    · rw [n] at r; cases r
  have hm : ∀ b u, H b = some u → ¬ Mut (some u) → b ≠ x := fun b u q nm z => by subst z; rw [q] at mu; exact nm mu
  refine ⟨fun b u q n _ _ => k b u (hb b n) q, fun b u q n _ _ => ⟨u.slots, k b u (hb b n) q⟩, fun b u q n _ => by rw [upd_ne (hx b n)]; exact n, fun b u q _ => ?_,
    fun b xs q => by rw [upd_ne (hm b _ q fun z => z)]; exact q, fun b u xs q => by rw [upd_ne (hm b _ q fun z => z)]; exact q, fun b ps q => ⟨#[], by rw [upd_ne (hm b _ q fun z => z), q]; simp⟩⟩
  by_cases hbe : b = e
  · subst hbe; exact heo
  · exact ⟨u, k b u hbe q⟩
theorem Un.mono (u : Un fs ex H H1 h h1) (hs : ∀ b ∈ fs, b ∈ fs') (hx : ∀ b ∈ ex, b ∈ ex') : Un fs' ex' H H1 h h1 :=
  ⟨fun b ob q n hb he => u.keep b ob q n (fun z => hb (hs b z)) fun z => he (hx b z), fun _ _ q n _ he => u.any q n fun z => he (hx _ z), fun b ob q n he => u.free b ob q n fun z => he (hx b z), fun b ob q he => u.there b ob q fun z => he (hx b z), u.tups, u.frzs, u.tbls⟩
end
def trk (h : Heap) (H : Hp) : List Addr := (List.range h.objs.size).filter fun a => (H a).isSome
def hidT (h : Heap) (H : Hp) : Heap := PySem.W.hideAll h (trk h H)
theorem hidT_size (h : Heap) (H : Hp) : (hidT h H).objs.size = h.objs.size := PySem.W.hideAll_size _ _
theorem hidT_get {h : Heap} {H : Hp} {b : Addr} {o : Obj} (e : h.get? b = some o) (n : H b = none) : (hidT h H).get? b = some o :=
  PySem.W.hideAll_get _ e fun hm => by
    have q : (H b).isSome = true := (List.mem_filter.mp hm).2
    rw [n] at q; simp at q
theorem of_hidT {h : Heap} {H : Hp} {b : Addr} {o : Obj} (e : (hidT h H).get? b = some o) : h.get? b = some o ∧ H b = none := by
  have e' : h.get? b = some o := PySem.W.of_hideAll (trk h H) e
  refine ⟨e', ?_⟩
  cases q : H b with
  | none => rfl
  | some x =>
    have hm : b ∈ trk h H := List.mem_filter.mpr ⟨List.mem_range.mpr (Heap.lt_size e'), by simp [q]⟩
    have z : (hidT h H).get? b = none := PySem.W.hideAll_none (trk h H) hm
    rw [z] at e; cases e
def allNews (g h : Heap) (L : Addr) : List (Addr × Obj) := (List.range h.objs.size).filterMap fun a => if a = L ∨ (g.get? a).isSome = true then none else (h.get? a).map fun o => (a, o)
def rest (g h : Heap) (L d : Addr) : List (Addr × Obj) := (allNews g h L).filter fun p => decide (p.1 ≠ d)
end L2
namespace L2
open PySem PySem.Spec PyProof.Rows
structure Mod (K : PySem.W.Frag) (mg : Str → Option Value) (base : Heap) : Prop where
  kin : K.In base
  glob : base.Ns mainGlobals mg
  blt : ∃ mb, base.Ns builtinsNs mb ∧ ∀ x : Str, x ≠ "__name__" → mb x = bootBuiltins x
  nolimit : base.NoLimit
structure Cx where
  prog : Program
  w : World
  K : PySem.W.Frag
  mg : Str → Option Value
  base : Heap
  A : Around
  N : List Str
  s_0 : Shared
  H_0 : Hp
  env : Env
  outer : List Env
  stack : List Env
  ex : List Addr
  fn : Str → Bool
  calm : Bool
  pn : List (Addr × Obj)
  xe : Value → Shared → Prop
def frs (l : List Env) : List Addr := l.filterMap (·.frame)
abbrev Cx.fs (X : Cx) : List Addr := frs X.outer
def Vis (sc : Scope) (x : Str) : Prop := sc.names.lookup x = some .local ∨ sc.names.lookup x = some .cell ∨ sc.names.lookup x = some .free
def Loc (sc : Scope) (x : Str) : Prop := sc.names.lookup x = some .local ∨ sc.names.lookup x = some .cell
def Look (env : Env) (h : Heap) (m : Str → Option Value) (x : Str) (u : Value) : Prop :=
  (env.kindOf x = some .local ∧ m x = some u) ∨ ((env.kindOf x = some .cell ∨ env.kindOf x = some .free) ∧ ∃ c, env.cells.lookup x = some c ∧ h.IsCell c (some u))
structure Cx.Ok (X : Cx) : Prop where
  mod : Mod X.K X.mg X.base
  kind : X.env.scope.kind = .function
  glob : X.env.globals = mainGlobals
  blt : X.env.builtins = builtinsNs
  above : X.s_0.heap.objs.size ≤ X.env.locals
  inj : ∀ x y c, X.env.cells.lookup x = some c → X.env.cells.lookup y = some c → x = y
  has : ∀ x, (X.env.kindOf x = some .cell ∨ X.env.kindOf x = some .free) → ∃ c, X.env.cells.lookup x = some c
  cab : ∀ x c, X.fn x = true → X.env.cells.lookup x = some c → X.s_0.heap.objs.size ≤ c
  hd : X.calm = true → X.A.handled = none
  frames : X.A.frames = some X.stack
  stk : X.stack = X.outer ∨ (X.stack = X.env :: X.outer ∧ X.env.frame = some X.env.locals)
  exf : ∀ b ∈ X.ex, b ≠ X.env.locals ∧ ∀ x c, X.env.cells.lookup x = some c → c ≠ b
  bs : ∀ b o, X.base.get? b = some o → X.s_0.heap.get? b = some o ∧ X.H_0 b = none
  bsz : X.base.objs.size ≤ X.s_0.heap.objs.size
  noex : ∀ b o, X.base.get? b = some o → b ∉ X.ex
  exfs : ∀ b ∈ X.ex, b ∉ X.fs
  funs : X.s_0.heap.FunFrames X.base X.outer
  frf : ∀ b ∈ X.fs, X.H_0 b = none
structure Inv (X : Cx) (pins : List (Addr × Obj)) (σ : List (Option V)) (H : Hp) (s : Shared) : Prop where
  ok : X.Ok
  os : s.os = X.s_0.os
  bare : AllBare s.gens
  base : Un X.fs X.ex X.H_0 H X.s_0.heap s.heap
  loc : ∃ m, s.heap.Ns X.env.locals m ∧ ∀ (i : Nat) (x : Str) (v : V), X.N[i]? = some x → σ[i]? = some (some v) → Vis X.env.scope x → ∃ u, RelV v u ∧ Look X.env s.heap m x u
  cell : ∀ x c, X.env.cells.lookup x = some c → ∃ v, s.heap.IsCell c v
  free : H X.env.locals = none
  freeC : ∀ x c, X.env.cells.lookup x = some c → H c = none
  pin : ∀ p ∈ X.pn ++ pins, s.heap.get? p.1 = some p.2 ∧ H p.1 = none ∧ p.1 ≠ X.env.locals ∧ p.1 ∉ X.fs ∧ ∀ v, p.2.data ≠ .cell v
  hok : HOk X.prog X.w H s.heap
  len : σ.length = X.N.length
section
variable {X : Cx} {pins : List (Addr × Obj)} {σ : List (Option V)} {H H' : Hp} {s : Shared} {h' : Heap}
theorem Cx.Ok.nofr (ok : X.Ok) {b : Addr} {o : Obj} (e : X.base.get? b = some o) : b ∉ X.fs := fun hb => by
  have := (ok.funs.mem hb).1
  rw [e] at this; cases this
theorem Inv.bs (I : Inv X pins σ H s) : ∀ b o, X.base.get? b = some o → s.heap.get? b = some o ∧ H b = none := fun b o e =>
  ⟨I.base.keep b o (I.ok.bs b o e).1 (I.ok.bs b o e).2 (I.ok.nofr e) (I.ok.noex b o e), I.base.free b o (I.ok.bs b o e).1 (I.ok.bs b o e).2 (I.ok.noex b o e)⟩
theorem Inv.bk (I : Inv X pins σ H s) : ∀ b o, X.base.get? b = some o → s.heap.get? b = some o := fun b o e => (I.bs b o e).1
theorem Inv.mod (I : Inv X pins σ H s) : Mod X.K X.mg X.base := I.ok.mod
theorem Inv.kIn (I : Inv X pins σ H s) : X.K.In s.heap := I.ok.mod.kin.keeps I.bk
theorem Inv.nolimit (I : Inv X pins σ H s) : s.heap.NoLimit := I.ok.mod.nolimit.keeps I.bk
theorem Inv.lt (I : Inv X pins σ H s) : X.env.locals < s.heap.objs.size := let ⟨_, hn, _⟩ := I.loc; hn.lt
theorem Inv.sz (I : Inv X pins σ H s) : X.s_0.heap.objs.size ≤ s.heap.objs.size := Nat.le_trans I.ok.above (Nat.le_of_lt I.lt)
theorem Inv.nofs (I : Inv X pins σ H s) {a : Addr} (h : s.heap.objs.size ≤ a) : a ∉ X.fs := fun hb => by
  obtain ⟨_, o, ho, _⟩ := I.ok.funs.mem hb
  exact absurd (Nat.lt_of_lt_of_le (Heap.lt_size ho) (Nat.le_trans I.sz h)) (Nat.lt_irrefl _)
theorem Inv.cne (I : Inv X pins σ H s) : ∀ x c, X.env.cells.lookup x = some c → c ≠ X.env.locals := fun x c e z => by
  obtain ⟨v, o, ho, hd⟩ := I.cell x c e
  obtain ⟨m, ⟨o', es, ep, ho', hd', _⟩, _⟩ := I.loc
  rw [z, ho'] at ho; cases ho; rw [hd'] at hd; cases hd
theorem Inv.funs (I : Inv X pins σ H s) : s.heap.FunFrames X.base X.outer := by
  have all : ∀ (l : List Env), (∀ b ∈ frs l, b ∈ X.fs) → X.s_0.heap.FunFrames X.base l → s.heap.FunFrames X.base l := by
    intro l
    induction l with
    | nil => intro _ _; trivial
    | cons env r ih =>
      intro hs hl
      obtain ⟨hk, ⟨L, o, hf, hn, ho, hd⟩, hr⟩ := hl
      have hL : L ∈ X.fs := hs L (by unfold frs; rw [List.filterMap_cons, hf]; exact List.mem_cons_self)
      obtain ⟨sl, e⟩ := I.base.slot L o ho (I.ok.frf L hL) hL fun z => I.ok.exfs L z hL
      exact ⟨hk, ⟨L, _, hf, hn, e, hd⟩, ih (fun b hb => hs b (by unfold frs; rw [List.filterMap_cons, hf]; exact List.mem_cons_of_mem _ hb)) hr⟩
  exact all X.outer (fun _ hb => hb) I.ok.funs
theorem Inv.stack (I : Inv X pins σ H s) : s.heap.FunFrames X.base X.stack := by
  rcases I.ok.stk with e | ⟨e, hf⟩
  · rw [e]; exact I.funs
  · rw [e]
    obtain ⟨m, hn, _⟩ := I.loc
    refine .cons (by rw [I.ok.kind]; decide) hf hn ?_ I.funs
    exact Heap.get?_none_of_le (Nat.le_trans I.ok.bsz I.ok.above)
theorem Inv.stkSub (I : Inv X pins σ H s) : ∀ b ∈ frs X.stack, b ∈ X.env.locals :: X.fs := fun b hb => by
  rcases I.ok.stk with e | ⟨e, hf⟩
  · rw [e] at hb; exact List.mem_cons_of_mem _ hb
  · rw [e] at hb
    unfold frs at hb
    rw [List.filterMap_cons, hf] at hb
    exact hb
theorem Inv.stkFree (I : Inv X pins σ H s) : ∀ b ∈ frs X.stack, H b = none := fun b hb => by
  rcases List.mem_cons.mp (I.stkSub b hb) with e | hb
  · rw [e]; exact I.free
  · obtain ⟨_, o, ho, _⟩ := I.ok.funs.mem hb
    exact I.base.free b o ho (I.ok.frf b hb) fun z => I.ok.exfs b z hb
theorem Inv.step {g' : Array GenState} {t' : Nat} {d' : Drawn} {ch : List Addr} (I : Inv X pins σ H s)
    (hch : ∀ b ∈ ch, (b ∈ X.ex ∨ X.s_0.heap.objs.size ≤ b) ∧ b ≠ X.env.locals ∧ (∀ x c, X.env.cells.lookup x = some c → c ≠ b) ∧ ∀ p ∈ X.pn ++ pins, p.1 ≠ b)
    (keep : ∀ b o, b ≠ X.env.locals → b ∉ X.fs → b ∉ ch → s.heap.get? b = some o → H b = none → h'.get? b = some o)
    (slot : ∀ b o, b ≠ X.env.locals → b ∈ X.fs → b ∉ ch → s.heap.get? b = some o → H b = none → ∃ sl, h'.get? b = some { o with slots := sl }) (free : ∀ b o, b ∉ ch → s.heap.get? b = some o → H b = none → H' b = none)
    (there : ∀ b o, b ∉ ch → s.heap.get? b = some o → ∃ o', h'.get? b = some o')
    (tups : ∀ b xs, H b = some (.tup xs) → H' b = some (.tup xs)) (frzs : ∀ b o u, H b = some (.frz o u) → H' b = some (.frz o u)) (tbls : ∀ b ps, H b = some (.tbl ps) → ∃ more, H' b = some (.tbl (ps ++ more)))
    (ns : ∀ m, s.heap.Ns X.env.locals m → h'.Ns X.env.locals m) (hok : HOk X.prog X.w H' h') (hg : AllBare g') :
    Inv X pins σ H' { s with heap := h', gens := g', drawn := d', toks := t' } := by
  have neL : ∀ b o, X.s_0.heap.get? b = some o → b ≠ X.env.locals := fun b o e => Nat.ne_of_lt (Nat.lt_of_lt_of_le (Heap.lt_size e) I.ok.above)
  have neC : ∀ b o, X.s_0.heap.get? b = some o → b ∉ X.ex → b ∉ ch := fun b o e hx hb => by
    rcases (hch b hb).1 with z | z
    · exact hx z
    · exact absurd (Nat.lt_of_lt_of_le (Heap.lt_size e) z) (Nat.lt_irrefl _)
  have cellK : ∀ x c, X.env.cells.lookup x = some c → ∀ v, s.heap.IsCell c v → h'.IsCell c v := fun x c e v ⟨o, ho, hd⟩ => by
    have nch : c ∉ ch := fun z => (hch c z).2.2.1 x c e rfl
    by_cases hc : c ∈ X.fs
    · obtain ⟨sl, q⟩ := slot c o (I.cne x c e) hc nch ho (I.freeC x c e)
      exact ⟨_, q, hd⟩
    · exact ⟨o, keep c o (I.cne x c e) hc nch ho (I.freeC x c e), hd⟩
  refine ⟨I.ok, I.os, hg, ⟨fun b o e n hb hx => ?_, fun b o e n hb hx => ?_, fun b o e n hx => ?_, fun b o e hx => ?_, fun b xs e => tups b xs (I.base.tups b xs e), fun b o xs e => frzs b o xs (I.base.frzs b o xs e), fun b ps e => ?_⟩, ?_, fun x c e => ?_, ?_, fun x c e => ?_, fun p hp => ?_, hok, I.len⟩
  · exact keep b o (neL b o e) hb (neC b o e hx) (I.base.keep b o e n hb hx) (I.base.free b o e n hx)
  · obtain ⟨sl, e1⟩ := I.base.slot b o e n hb hx
    obtain ⟨sl', e2⟩ := slot b _ (neL b o e) hb (neC b o e hx) e1 (I.base.free b o e n hx)
    exact ⟨sl', e2⟩
  · obtain ⟨o', e1⟩ := I.base.there b o e hx
    exact free b o' (neC b o e hx) e1 (I.base.free b o e n hx)
  · obtain ⟨o', e1⟩ := I.base.there b o e hx
    exact there b o' (neC b o e hx) e1
  · obtain ⟨m1, e1⟩ := I.base.tbls b ps e
    obtain ⟨m2, e2⟩ := tbls b _ e1
    exact ⟨m1 ++ m2, by rw [e2, Array.append_assoc]⟩
  · obtain ⟨m, hn, hl⟩ := I.loc
    refine ⟨m, ns m hn, fun i x v e1 e2 e3 => ?_⟩
    obtain ⟨u, r, l⟩ := hl i x v e1 e2 e3
    refine ⟨u, r, ?_⟩
    rcases l with l | ⟨k, c, e, z⟩
    · exact .inl l
    · exact .inr ⟨k, c, e, cellK x c e _ z⟩
  · obtain ⟨v, z⟩ := I.cell x c e
    exact ⟨v, cellK x c e v z⟩
  · obtain ⟨m, ⟨o, _, _, ho, _⟩, _⟩ := I.loc
    exact free _ o (fun z => (hch _ z).2.1 rfl) ho I.free
  · obtain ⟨v, o, ho, hd⟩ := I.cell x c e
    exact free c o (fun z => (hch c z).2.2.1 x c e rfl) ho (I.freeC x c e)
  · obtain ⟨e, n, ne, nf, d⟩ := I.pin p hp
    have nch : p.1 ∉ ch := fun z => (hch p.1 z).2.2.2 p hp rfl
    exact ⟨keep p.1 p.2 ne nf nch e n, free p.1 p.2 nch e n, ne, nf, d⟩
theorem Inv.un {t' : Nat} (I : Inv X pins σ H s) (u : Un X.fs [] H H' s.heap h') (hok : HOk X.prog X.w H' h') : Inv X pins σ H' { s with heap := h', toks := t' } := by
  obtain ⟨m, ⟨o, es, ep, ho, r⟩, _⟩ := id I.loc
  obtain ⟨sl, hL⟩ := u.any ho I.free (by simp)
  exact I.step (g' := s.gens) (d' := s.drawn) (ch := []) (fun _ z => nomatch z) (fun b o _ hb _ e n => u.keep b o e n hb (by simp)) (fun b o _ hb _ e n => u.slot b o e n hb (by simp)) (fun b o _ e n => u.free b o e n (by simp)) (fun b o _ e => u.there b o e (by simp)) u.tups u.frzs u.tbls (fun m' hm => by
    obtain ⟨o', es', ep', ho', r'⟩ := hm
    rw [ho] at ho'; cases ho'
    exact ⟨_, es', ep', hL, r'⟩) hok I.bare
theorem Inv.call {g' : Array GenState} {t' : Nat} {d' : Drawn} {ch : List Addr} (I : Inv X pins σ H s) (u : Un (frs X.stack) ch H H' s.heap h') (hok : HOk X.prog X.w H' h') (hg : AllBare g')
    (hch : ∀ b ∈ ch, (b ∈ X.ex ∨ X.s_0.heap.objs.size ≤ b) ∧ b ≠ X.env.locals ∧ (∀ x c, X.env.cells.lookup x = some c → c ≠ b) ∧ ∀ p ∈ X.pn ++ pins, p.1 ≠ b) :
    Inv X pins σ H' { s with heap := h', gens := g', drawn := d', toks := t' } := by
  obtain ⟨m, ⟨o, es, ep, ho, r⟩, _⟩ := id I.loc
  obtain ⟨sl, hL⟩ := u.any ho I.free fun z => (hch _ z).2.1 rfl
  exact I.step (ch := ch) hch (fun b o hL hb hc e n => u.keep b o e n (fun z => (List.mem_cons.mp (I.stkSub b z)).elim hL hb) hc) (fun b o _ _ hc e n => u.any e n hc) (fun b o hc e n => u.free b o e n hc) (fun b o hc e => u.there b o e hc) u.tups u.frzs u.tbls (fun m' hm => by
    obtain ⟨o', es', ep', ho', r'⟩ := hm
    rw [ho] at ho'; cases ho'
    exact ⟨_, es', ep', hL, r'⟩) hok hg
theorem Inv.turned {t' : Nat} {it : Addr} (I : Inv X pins σ H s) (k : ∀ b o, b ≠ it → s.heap.get? b = some o → h'.get? b = some o) (hn : H it = none) (hL : it ≠ X.env.locals)
    (h1 : it ∈ X.ex ∨ X.s_0.heap.objs.size ≤ it) (h2 : ∀ x c, X.env.cells.lookup x = some c → c ≠ it) (h3 : ∀ p ∈ X.pn ++ pins, p.1 ≠ it) : Inv X pins σ H { s with heap := h', toks := t' } := by
  have nit : ∀ b u, H b = some u → b ≠ it := fun b u e z => by rw [z, hn] at e; cases e
  refine I.step (g' := s.gens) (d' := s.drawn) (ch := [it]) (fun b hb => ?_) (fun b o _ _ hc e _ => k b o (fun z => hc (by simp [z])) e) (fun b o _ _ hc e _ => ⟨o.slots, k b o (fun z => hc (by simp [z])) e⟩) (fun _ _ _ _ n => n)
    (fun b o hc e => ⟨o, k b o (fun z => hc (by simp [z])) e⟩) (fun _ _ e => e) (fun _ _ _ e => e) (fun b ps e => ⟨#[], by rw [e]; simp⟩) (fun m hm => ?_) (fun b u e => ?_) I.bare
  · have e : b = it := by simpa using hb
    subst e
    exact ⟨h1, hL, h2, h3⟩
  · obtain ⟨o, es, ep, ho, r⟩ := hm
    exact ⟨o, es, ep, k _ o (Ne.symm hL) ho, r⟩
  · refine (I.hok b u e).stay (fun c v hc q => k c v ?_ q) (fun _ q => q) fun _ _ q => q
    rcases hc with z | z
    · rw [z]; exact nit b u e
    · exact nit c _ z
theorem Inv.tok (I : Inv X pins σ H s) (t : Nat) : Inv X pins σ H { s with toks := t } := I.un (h' := s.heap) (t' := t) Un.refl I.hok
theorem Inv.kept {t' : Nat} (I : Inv X pins σ H s) (k : ∀ b u, s.heap.get? b = some u → h'.get? b = some u) : Inv X pins σ H { s with heap := h', toks := t' } := I.un (Un.kept k) (I.hok.kept k)
theorem Inv.laid {a : Addr} {o : HO} {t' : Nat} (I : Inv X pins σ H s) (k : ∀ b u, s.heap.get? b = some u → h'.get? b = some u) (hp : s.heap.objs.size ≤ a) (new : ObjOk X.prog X.w (upd H a o) h' a o) :
    Inv X pins σ (upd H a o) { s with heap := h', toks := t' } := I.un (Un.laid k hp (I.hok.fresh hp)) (I.hok.laid k hp new)
theorem Inv.write {x e : Addr} {o : HO} {t' : Nat} (I : Inv X pins σ H s) (mu : Mut (H x)) (he : e = x ∨ H e = some (.own x)) (k : ∀ b u, b ≠ e → s.heap.get? b = some u → h'.get? b = some u) (heo : ∃ u, h'.get? e = some u)
    (new : ObjOk X.prog X.w (upd H x o) h' x o) : Inv X pins σ (upd H x o) { s with heap := h', toks := t' } := I.un (Un.write mu he k heo) (I.hok.write mu he k heo new)
theorem Inv.weak {σ' : List (Option V)} (I : Inv X pins σ H s) (hl : σ'.length = σ.length) (w : ∀ (i : Nat) v, σ'[i]? = some (some v) → σ[i]? = some (some v)) : Inv X pins σ' H s :=
  ⟨I.ok, I.os, I.bare, I.base, let ⟨m, hn, hl'⟩ := I.loc; ⟨m, hn, fun i x v e1 e2 e3 => hl' i x v e1 (w i v e2) e3⟩, I.cell, I.free, I.freeC, I.pin, I.hok, hl.trans I.len⟩
theorem Inv.pins_of {pins' : List (Addr × Obj)} (I : Inv X pins σ H s) (h : ∀ p ∈ pins', s.heap.get? p.1 = some p.2 ∧ H p.1 = none ∧ p.1 ≠ X.env.locals ∧ p.1 ∉ X.fs ∧ ∀ v, p.2.data ≠ .cell v) : Inv X pins' σ H s :=
  ⟨I.ok, I.os, I.bare, I.base, I.loc, I.cell, I.free, I.freeC, fun p hp => (List.mem_append.mp hp).elim (fun z => I.pin p (List.mem_append_left _ z)) (h p), I.hok, I.len⟩
theorem nodup_ix {N : List Str} (hN : N.Nodup) {i j : Nat} {x : Str} (a : N[i]? = some x) (b : N[j]? = some x) : i = j := by
  obtain ⟨h1, e1⟩ := List.getElem?_eq_some_iff.mp a
  obtain ⟨h2, e2⟩ := List.getElem?_eq_some_iff.mp b
  exact (List.getElem_inj hN).mp (e1.trans e2.symm)
theorem store_ok2 {M : Model} {A : Around} {E : Value → Shared → Prop} {i : Nat} {x : Str} {v : V} {u : Value} {Q : Unit → Shared → Prop} (I : Inv X pins σ H s) (hN : X.N.Nodup) (hi : X.N[i]? = some x) (hx : Loc X.env.scope x) (r : RelV v u)
    (h : ∀ s', Inv X pins (σ.set i (some v)) H s' → (∃ a, Heap.SameBut a s.heap s'.heap ∧ (a = X.env.locals ∨ X.env.cells.lookup x = some a)) → Q () s') (hf : X.fn x = true ∨ X.env.scope.names.lookup x = some .local := by first | exact .inl rfl | exact .inr rfl | assumption) : wpAny M A (storeName X.env x u) Q E s := by
  obtain ⟨m, hn, hl⟩ := id I.loc
  have hcls : (X.env.scope.kind == .class || (X.env.scope.kind == .module && X.env.locals != X.env.globals)) = false := by rw [I.ok.kind]; rfl
  have hiσ : i < σ.length := by rw [I.len]; exact (List.getElem?_eq_some_iff.mp hi).1
  have cne := I.cne
  have tracked : ∀ {a : Addr} {h' : Heap}, (∃ o, s.heap.get? a = some o ∧ H a = none) → Heap.SameBut a s.heap h' → HOk X.prog X.w H h' := fun {a h'} ha hs b ob e => by
    obtain ⟨_, _, hfree⟩ := ha
    refine (I.hok b ob e).stay (fun c w' hc q => (hs.2 c ?_).trans q) (fun _ q => q) fun _ _ q => q
    rintro rfl
    rcases hc with rfl | hc
    · rw [hfree] at e; cases e
    · rw [hfree] at hc; cases hc
  rcases hx with hk | hk
  · refine wpAny_storeName_local hk hn (fun h' hn' hs => ?_) hcls
    obtain ⟨oL, _, _, hoL, _⟩ := id hn
    refine h _ ⟨I.ok, I.os, I.bare, ⟨fun b o e n hb hx => ?_, fun b o e n hb hx => ?_, I.base.free, fun b o e hx => ?_, I.base.tups, I.base.frzs, I.base.tbls⟩, ⟨_, hn', fun j y v' e1 e2 e3 => ?_⟩, fun y c e => ?_, I.free, I.freeC, fun p hp => ?_, tracked ⟨oL, hoL, I.free⟩ hs, by simpa using I.len⟩ ⟨_, hs, .inl rfl⟩
    · exact (hs.2 b (Nat.ne_of_lt (Nat.lt_of_lt_of_le (Heap.lt_size e) I.ok.above))).trans (I.base.keep b o e n hb hx)
    · obtain ⟨sl, e1⟩ := I.base.slot b o e n hb hx
      exact ⟨sl, (hs.2 b (Nat.ne_of_lt (Nat.lt_of_lt_of_le (Heap.lt_size e) I.ok.above))).trans e1⟩
    · obtain ⟨o', e1⟩ := I.base.there b o e hx
      exact ⟨o', (hs.2 b (Nat.ne_of_lt (Nat.lt_of_lt_of_le (Heap.lt_size e) I.ok.above))).trans e1⟩
    · by_cases hj : j = i
      · subst hj
        rw [hi] at e1; cases e1
        rw [List.getElem?_set_self hiσ] at e2
        cases e2
        exact ⟨u, r, .inl ⟨hk, by simp⟩⟩
      · rw [List.getElem?_set_ne (Ne.symm hj)] at e2
        obtain ⟨u', r', q⟩ := hl j y v' e1 e2 e3
        refine ⟨u', r', ?_⟩
        rcases q with ⟨k, e⟩ | ⟨k, c, e, z⟩
        · refine .inl ⟨k, ?_⟩
          have : y ≠ x := fun e => hj (nodup_ix hN e1 (e ▸ hi))
          simp [this, e]
        · exact .inr ⟨k, c, e, z.sameBut hs (cne y c e)⟩
    · obtain ⟨w', z⟩ := I.cell y c e
      exact ⟨w', z.sameBut hs (cne y c e)⟩
    · obtain ⟨e, n, ne, nf, d⟩ := I.pin p hp
      exact ⟨(hs.2 p.1 ne).trans e, n, ne, nf, d⟩
  · have hfn : X.fn x = true := by
      rcases hf with z | z
      · exact z
      · rw [z] at hk; cases hk
    obtain ⟨c, hc⟩ := I.ok.has x (.inl hk)
    obtain ⟨w', z⟩ := I.cell x c hc
    refine wpAny_storeName_cell I.ok.kind hk hc z (fun h' hc' hs => ?_)
    obtain ⟨oc, hoc, hocd⟩ := id z
    refine h { s with heap := h' } ⟨I.ok, I.os, I.bare, ⟨fun b o e n hb hx => ?_, fun b o e n hb hx => ?_, I.base.free, fun b o e hx => ?_, I.base.tups, I.base.frzs, I.base.tbls⟩, ⟨m, hn.sameBut hs (Ne.symm (cne x c hc)), fun j y v' e1 e2 e3 => ?_⟩, fun y c' e => ?_, I.free, I.freeC, fun p hp => ?_, tracked ⟨oc, hoc, I.freeC x c hc⟩ hs, by simpa using I.len⟩ ⟨c, hs, .inr hc⟩
    · exact (hs.2 b (Nat.ne_of_lt (Nat.lt_of_lt_of_le (Heap.lt_size e) (I.ok.cab x c hfn hc)))).trans (I.base.keep b o e n hb hx)
    · obtain ⟨sl, e1⟩ := I.base.slot b o e n hb hx
      exact ⟨sl, (hs.2 b (Nat.ne_of_lt (Nat.lt_of_lt_of_le (Heap.lt_size e) (I.ok.cab x c hfn hc)))).trans e1⟩
    · obtain ⟨o', e1⟩ := I.base.there b o e hx
      exact ⟨o', (hs.2 b (Nat.ne_of_lt (Nat.lt_of_lt_of_le (Heap.lt_size e) (I.ok.cab x c hfn hc)))).trans e1⟩
    · by_cases hj : j = i
      · subst hj
        rw [hi] at e1; cases e1
        rw [List.getElem?_set_self hiσ] at e2
        cases e2
        exact ⟨u, r, .inr ⟨.inl hk, c, hc, hc'⟩⟩
      · rw [List.getElem?_set_ne (Ne.symm hj)] at e2
        obtain ⟨u', r', q⟩ := hl j y v' e1 e2 e3
        refine ⟨u', r', ?_⟩
        rcases q with q | ⟨k, c', e, z'⟩
        · exact .inl q
        · refine .inr ⟨k, c', e, z'.sameBut hs ?_⟩
          rintro rfl
          exact hj (nodup_ix hN e1 (I.ok.inj _ _ _ e hc ▸ hi))
    · by_cases hcc : c' = c
      · subst hcc; exact ⟨_, hc'⟩
      · obtain ⟨w2, z2⟩ := I.cell y c' e
        exact ⟨w2, z2.sameBut hs hcc⟩
    · obtain ⟨e, n, ne, nf, d⟩ := I.pin p hp
      refine ⟨(hs.2 p.1 ?_).trans e, n, ne, nf, d⟩
      intro q
      rw [q, hoc] at e
      have q' : oc = p.2 := Option.some.inj e
      exact d w' (by rw [← q']; exact hocd)
theorem store_ok {M : Model} {A : Around} {E : Value → Shared → Prop} {i : Nat} {x : Str} {v : V} {u : Value} {Q : Unit → Shared → Prop} (I : Inv X pins σ H s) (hN : X.N.Nodup) (hi : X.N[i]? = some x) (hx : Loc X.env.scope x) (r : RelV v u)
    (h : ∀ s', Inv X pins (σ.set i (some v)) H s' → Q () s') (hf : X.fn x = true ∨ X.env.scope.names.lookup x = some .local := by first | exact .inl rfl | exact .inr rfl | assumption) : wpAny M A (storeName X.env x u) Q E s :=
  store_ok2 I hN hi hx r (fun s' I' _ => h s' I') hf
theorem Inv.call' {s' : Shared} {ch : List Addr} (I : Inv X pins σ H s) (ho : s'.os = s.os) (u : Un (frs X.stack) ch H H' s.heap s'.heap) (hok : HOk X.prog X.w H' s'.heap) (hg : AllBare s'.gens)
    (hch : ∀ b ∈ ch, (b ∈ X.ex ∨ X.s_0.heap.objs.size ≤ b) ∧ b ≠ X.env.locals ∧ (∀ x c, X.env.cells.lookup x = some c → c ≠ b) ∧ ∀ p ∈ X.pn ++ pins, p.1 ≠ b) : Inv X pins σ H' s' := by
  obtain ⟨h', g', d', t', o'⟩ := s'
  have e : o' = s.os := ho
  subst e
  exact I.call (g' := g') (t' := t') (d' := d') u hok hg hch
end
abbrev XK := Value → Option Addr → Hp → Prop
abbrev St := List (Option V)
abbrev VK := V → Hp → Prop
abbrev TE := St → Hp → VK → Prop
abbrev TT := St → Hp → (Bool → Hp → Prop) → Prop
abbrev TA := St → Hp → (List V → Hp → Prop) → Prop
structure Ends where
  nx : St → Hp → Prop
  rt : VK
  bk : St → Hp → Prop := fun _ _ => False
  ct : St → Hp → Prop := fun _ _ => False
abbrev TS := Ends → St → Hp → Prop
def EP (X : Cx) (pins : List (Addr × Obj)) (σ : St) (Q : VK) (u : Value) (s' : Shared) : Prop := ∃ v H', Inv X pins σ H' s' ∧ RelV v u ∧ Q v H'
def TP (X : Cx) (pins : List (Addr × Obj)) (σ : St) (Q : Bool → Hp → Prop) (b : Bool) (s' : Shared) : Prop := ∃ H', Inv X pins σ H' s' ∧ Q b H'
def AP (X : Cx) (pins : List (Addr × Obj)) (σ : St) (Q : List V → Hp → Prop) (us : List Value) (s' : Shared) : Prop := ∃ vs H', Inv X pins σ H' s' ∧ Vals vs us ∧ Q vs H'
def SP (X : Cx) (pins : List (Addr × Obj)) (D : Ends) (f : Flow) (s' : Shared) : Prop :=
  match f with
  | .next => ∃ σ' H', Inv X pins σ' H' s' ∧ D.nx σ' H'
  | .brk => ∃ σ' H', Inv X pins σ' H' s' ∧ D.bk σ' H'
  | .cont => ∃ σ' H', Inv X pins σ' H' s' ∧ D.ct σ' H'
  | .ret u => ∃ v σ' H', Inv X pins σ' H' s' ∧ RelV v u ∧ D.rt v H'
def PE (X : Cx) (e : Expr) (t : TE) : Prop :=
  ∀ (pins : List (Addr × Obj)) (s : Shared) (σ : St) (H : Hp) (Q : VK), Inv X pins σ H s → t σ H Q → wpAny (model X.prog X.w) X.A (eval e X.env) (EP X pins σ Q) X.xe s
def PT (X : Cx) (e : Expr) (t : TT) : Prop :=
  ∀ (pins : List (Addr × Obj)) (s : Shared) (σ : St) (H : Hp) (Q : Bool → Hp → Prop), Inv X pins σ H s → t σ H Q → wpAny (model X.prog X.w) X.A (isTrue e X.env (eval e X.env)) (TP X pins σ Q) X.xe s
def PW (X : Cx) (e : Expr) (t : TT) : Prop :=
  ∀ (whole : Sem Value) (pins : List (Addr × Obj)) (s : Shared) (σ : St) (H : Hp) (Q : Bool → Hp → Prop), Inv X pins σ H s → t σ H Q → wpAny (model X.prog X.w) X.A (isTrue e X.env whole) (TP X pins σ Q) X.xe s
theorem PW.pt {X : Cx} {e : Expr} {t : TT} (h : PW X e t) : PT X e t := h _
def PA (X : Cx) (es : List Expr) (t : TA) : Prop :=
  ∀ (pos : Pos) (pins : List (Addr × Obj)) (s : Shared) (σ : St) (H : Hp) (Q : List V → Hp → Prop), Inv X pins σ H s → t σ H Q → wpAny (model X.prog X.w) X.A (spliced (backTo pos (starEach es X.env))) (AP X pins σ Q) X.xe s
def PS (X : Cx) (st : Stmt) (t : TS) : Prop :=
  ∀ (pins : List (Addr × Obj)) (s : Shared) (σ : St) (H : Hp) (D : Ends), Inv X pins σ H s → t D σ H → wpAny (model X.prog X.w) X.A (exec st X.env) (SP X pins D) X.xe s
def PSs (X : Cx) (st : List Stmt) (t : TS) : Prop :=
  ∀ (pins : List (Addr × Obj)) (s : Shared) (σ : St) (H : Hp) (D : Ends), Inv X pins σ H s → t D σ H → wpAny (model X.prog X.w) X.A (execs st X.env) (SP X pins D) X.xe s
theorem thn {α : Type} {t : Sem α} {Q Q' : α → Shared → Prop} {M : Model} {A : Around} {E : Value → Shared → Prop} {s : Shared} (h : wpAny M A t Q E s) (hQ : ∀ a s, Q a s → Q' a s) : wpAny M A t Q' E s := wpAny_mono h hQ fun _ _ x => x
end L2
namespace L2
open PySem PySem.Spec PyProof.Rows
section
variable {X : Cx}
theorem bin {a b : Expr} {ta tb : TE} (ha : PE X a ta) (hb : PE X b tb) {pins : List (Addr × Obj)} {s : Shared} {σ : St} {H : Hp} {R : V → V → Hp → Prop} (I : Inv X pins σ H s) (h : ta σ H fun x H1 => tb σ H1 fun y H2 => R x y H2)
    {α : Type} {Q : α → Shared → Prop} {f : Value → Value → Sem α}
    (hf : ∀ v u s2 x y H2, Inv X pins σ H2 s2 → RelV x v → RelV y u → R x y H2 → wpAny (model X.prog X.w) X.A (f v u) Q X.xe s2) :
    wpAny (model X.prog X.w) X.A (eval a X.env) (fun v s₁ => wpAny (model X.prog X.w) X.A (eval b X.env) (fun u s₂ => wpAny (model X.prog X.w) X.A (f v u) Q X.xe s₂) X.xe s₁) X.xe s := by
  refine thn (ha pins s σ H _ I h) fun v s1 ⟨x, H1, I1, r1, q1⟩ => ?_
  refine thn (hb pins s1 σ H1 _ I1 q1) fun u s2 ⟨y, H2, I2, r2, q2⟩ => ?_
  exact hf v u s2 x y H2 I2 r1 r2 q2
def tVar (i : Nat) : TE := fun σ H Q => ∃ v, σ[i]? = some (some v) ∧ Q v H
def tC (v : V) : TE := fun _ H Q => Q v H
theorem pe_var {i : Nat} {x : Str} {pos : Pos} (hN : X.N[i]? = some x) (hv : Vis X.env.scope x) (hd : (x == ("__debug__" : Str)) = false := by decide) (hcd : (x == ("__classdict__" : Str)) = false := by decide) : PE X (.Name x pos) (tVar i) := by
  intro pins s σ H Q I h
  obtain ⟨v, e, h⟩ := h
  obtain ⟨m, hn, hl⟩ := I.loc
  obtain ⟨u, r, l⟩ := hl i x v hN e hv
  have fin : EP X pins σ Q u s := ⟨v, H, I, r, h⟩
  rcases l with ⟨hk, hm⟩ | ⟨hk, c, hc, hcell⟩
  · exact wpAny_Name (wpAny_loadName_local I.ok.kind hk hn hm fin) hd
  · rcases hk with hk | hk
    · exact wpAny_Name (wpAny_loadName_cell I.ok.kind hk hc hcell fin) hd
    · exact wpAny_Name (wpAny_loadName_free I.ok.kind hk hc hcell fin hcd) hd
theorem pe_int {i j pos} : PE X (.Constant (.int i) j pos) (tC (.int i)) := fun _ _ _ H _ I h => wpAny_Constant_int ⟨.int i, H, I.tok _, ⟨_, rfl⟩, h⟩
theorem pe_bl {b j pos} : PE X (.Constant (.bool b) j pos) (tC (.bl b)) := fun _ _ _ H _ I h => Constant_bool ⟨.bl b, H, I, rfl, h⟩
theorem pe_non {j pos} : PE X (.Constant .none j pos) (tC .non) := fun _ _ _ H _ I h => Constant_none ⟨.non, H, I, rfl, h⟩
def Gl (X : Cx) (x : Str) : Prop := X.env.kindOf x = some .globalImplicit
theorem ld_glob {E : Value → Shared → Prop} {pins : List (Addr × Obj)} {s : Shared} {σ : St} {H : Hp} {x : Str} {u : Value} {pos : Pos} {Q : Value → Shared → Prop} (I : Inv X pins σ H s) (hg : Gl X x) (hm : X.mg x = some u) (h : Q u s)
    (hd : (x == ("__debug__" : Str)) = false := by decide) : wpAny (model X.prog X.w) X.A (eval (.Name x pos) X.env) Q E s :=
  Calls.Name_function_global I.ok.kind hg (Calls.loadGlobal_global (by rw [I.ok.glob]; exact I.mod.glob.keeps I.bk) hm h) hd
theorem ld_blt {E : Value → Shared → Prop} {pins : List (Addr × Obj)} {s : Shared} {σ : St} {H : Hp} {x : Str} {u : Value} {pos : Pos} {Q : Value → Shared → Prop} (I : Inv X pins σ H s) (hg : Gl X x) (hm : X.mg x = none) (hv : bootBuiltins x = some u) (h : Q u s)
    (hn : x ≠ "__name__" := by decide) (hd : (x == ("__debug__" : Str)) = false := by decide) : wpAny (model X.prog X.w) X.A (eval (.Name x pos) X.env) Q E s := by
  obtain ⟨mb, h1, h2⟩ := I.mod.blt
  exact Calls.Name_function_global I.ok.kind hg (Calls.loadGlobal_builtin (by rw [I.ok.glob]; exact I.mod.glob.keeps I.bk) hm (by rw [I.ok.blt]; exact h1.keeps I.bk) ((h2 x hn).trans hv) h) hd
theorem pe_glob {x : Str} {v : V} {u : Value} {pos : Pos} (hg : Gl X x) (hm : X.mg x = some u) (r : RelV v u) (hd : (x == ("__debug__" : Str)) = false := by decide) : PE X (.Name x pos) (tC v) :=
  fun _ _ _ H _ I h => ld_glob I hg hm ⟨v, H, I, r, h⟩ hd
def t2I (ta tb : TE) (k : Int → Int → Hp → Prop) : St → Hp → Prop := fun σ H => ta σ H fun x H1 => tb σ H1 fun y H2 => ∃ i j, x = .int i ∧ y = .int j ∧ k i j H2
variable {a b : Expr} {ta tb : TE} {pos : Pos}
def PC (X : Cx) (op : CmpOp) (a b : Expr) (t : TE) : Prop :=
  ∀ (pins : List (Addr × Obj)) (s : Shared) (σ : St) (H : Hp) (Q : VK), Inv X pins σ H s → t σ H Q →
    wpAny (model X.prog X.w) X.A (eval a X.env) (fun v s₁ => wpAny (model X.prog X.w) X.A (eval b X.env) (fun u s₂ => wpAny (model X.prog X.w) X.A (compareOp op v u) (EP X pins σ Q) X.xe s₂) X.xe s₁) X.xe s
theorem nobehind (b : Expr) {op : CmpOp} (h : op ≠ .In) (h2 : op ≠ .NotIn) : behindInMarks op b = false := by
  have e1 : (op == CmpOp.In) = false := by cases op <;> first | rfl | exact absurd rfl h
  have e2 : (op == CmpOp.NotIn) = false := by cases op <;> first | rfl | exact absurd rfl h2
  cases b <;> simp [behindInMarks, e1, e2]
def tCmp (p : Int → Int → Bool) (ta tb : TE) : TE := fun σ H Q => t2I ta tb (fun i j H2 => Q (.bl (p i j)) H2) σ H
abbrev tLt : TE → TE → TE := tCmp fun i j => decide (i < j)
abbrev tGt : TE → TE → TE := tCmp fun i j => decide (j < i)
abbrev tGe : TE → TE → TE := tCmp fun i j => decide (j ≤ i)
abbrev tEqI : TE → TE → TE := tCmp fun i j => decide (i = j)
abbrev tNeI : TE → TE → TE := tCmp fun i j => !decide (i = j)
theorem pc_int {op : CmpOp} {p : Int → Int → Bool} (ha : PE X a ta) (hb : PE X b tb)
    (rule : ∀ (i j : Int) (t u : Tok) (Q : Value → Shared → Prop) (s : Shared), Q (.bool (p i j)) s → wpAny (model X.prog X.w) X.A (compareOp op (.int i t) (.int j u)) Q X.xe s) : PC X op a b (tCmp p ta tb) := by
  intro pins s σ H Q I h
  refine bin ha hb I h fun v u s2 x y H2 I2 rx ry q => ?_
  obtain ⟨i, j, rfl, rfl, q⟩ := q
  obtain ⟨t, rfl⟩ := rx
  obtain ⟨t', rfl⟩ := ry
  exact rule i j t t' _ s2 ⟨.bl _, H2, I2, rfl, q⟩
theorem pc_lt (ha : PE X a ta) (hb : PE X b tb) : PC X .Lt a b (tLt ta tb) := pc_int ha hb fun _ _ _ _ _ _ h => lt_int h
theorem pc_gt (ha : PE X a ta) (hb : PE X b tb) : PC X .Gt a b (tGt ta tb) := pc_int ha hb fun _ _ _ _ _ _ h => gt_int h
theorem pc_ge (ha : PE X a ta) (hb : PE X b tb) : PC X .GtE a b (tGe ta tb) := pc_int ha hb fun _ _ _ _ _ _ h => ge_int h
theorem pc_eqI (ha : PE X a ta) (hb : PE X b tb) : PC X .Eq a b (tEqI ta tb) := pc_int ha hb fun _ _ _ _ _ _ h => eq_int (by rw [Bool.beq_eq_decide_eq]; exact h)
theorem pc_neI (ha : PE X a ta) (hb : PE X b tb) : PC X .NotEq a b (tNeI ta tb) := pc_int ha hb fun _ _ _ _ _ _ h => ne_int (by rw [bne, Bool.beq_eq_decide_eq]; exact h)
def tIsN (ta : TE) : TE := fun σ H Q => ta σ H fun x H1 => Q (.bl (decide (x = .non))) H1
def tNotN (ta : TE) : TE := fun σ H Q => ta σ H fun x H1 => Q (.bl (!decide (x = .non))) H1
theorem RelV.none_iff {x : V} {v : Value} (r : RelV x v) : (v == Value.none) = decide (x = .non) := by
  cases x with
  | non => cases r; rfl
  | bl _ => cases r; rfl
  | int _ => obtain ⟨t, rfl⟩ := r; rfl
  | str _ => obtain ⟨t, rfl⟩ := r; rfl
  | byt _ => obtain ⟨t, rfl⟩ := r; rfl
  | flt _ => obtain ⟨t, rfl⟩ := r; rfl
  | ref _ => cases r; rfl
  | ty _ => cases r; rfl
theorem pc_isN {j pos'} (ha : PE X a ta) : PC X .Is a (.Constant .none j pos') (tIsN ta) := by
  intro pins s σ H Q I h
  refine thn (ha pins s σ H _ I h) fun v s1 ⟨x, H1, I1, r1, q1⟩ => ?_
  exact Constant_none (is_none_gen ⟨.bl _, H1, I1, by rw [r1.none_iff]; rfl, q1⟩)
theorem pc_notN {j pos'} (ha : PE X a ta) : PC X .IsNot a (.Constant .none j pos') (tNotN ta) := by
  intro pins s σ H Q I h
  refine thn (ha pins s σ H _ I h) fun v s1 ⟨x, H1, I1, r1, q1⟩ => ?_
  exact Constant_none (isnot_none_gen ⟨.bl _, H1, I1, by rw [r1.none_iff]; rfl, q1⟩)
def tB (t : TE) : TT := fun σ H Q => t σ H fun x H1 => ∃ c, x = .bl c ∧ Q c H1
theorem pe_cmp {op : CmpOp} {t : TE} (h : PC X op a b t) (h1 : behindInMarks op b = false := by first | exact nobehind _ (by decide) (by decide) | rfl) : PE X (.Compare a [op] [b] pos) t := fun pins s σ H Q I hw => wpAny_Compare1 (h pins s σ H Q I hw) h1
theorem pt_cmp {op : CmpOp} {t : TE} (h : PC X op a b t) (h1 : behindInMarks op b = false := by first | exact nobehind _ (by decide) (by decide) | rfl) : PT X (.Compare a [op] [b] pos) (tB t) := by
  intro pins s σ H Q I hw
  refine wpAny_isTrue_Compare1 (thn (h pins s σ H _ I hw) fun v s1 h1 => thn h1 fun u s2 h2 => thn h2 fun c s3 ⟨x, H1, I1, r1, q1⟩ => ?_) h1
  obtain ⟨d, rfl, q⟩ := q1
  cases r1
  exact wpAny_truthy_bool ⟨H1, I1, q⟩
theorem pt_val {e : Expr} {t : TE} (h : PE X e t) (he : ∀ whole, isTrue e X.env whole = (do let v ← whole; standAt e.pos; holding [v] (truthy v)) := by intro _; rfl) : PT X e (tB t) := by
  intro pins s σ H Q I hw
  refine isTrue_plain (thn (h pins s σ H _ I hw) fun v s1 ⟨x, H1, I1, r1, q1⟩ => ?_) (he _)
  obtain ⟨d, rfl, q⟩ := q1
  cases r1
  exact wpAny_truthy_bool ⟨H1, I1, q⟩
variable {tA tB' : TT} {rest : List Expr}
def tAnd (t u : TT) : TT := fun σ H Q => t σ H fun c H1 => if c = true then u σ H1 Q else Q false H1
def tOr (t u : TT) : TT := fun σ H Q => t σ H fun c H1 => if c = true then Q true H1 else u σ H1 Q
def tNot (t : TT) : TT := fun σ H Q => t σ H fun c H1 => Q (!c) H1
theorem pw_and1 (ha : PT X a tA) : PW X (.BoolOp .And [a] pos) tA := by
  intro wh pins s σ H Q I h
  refine isTrue_and (thn (ha pins s σ H Q I h) fun c s1 e => ?_)
  cases c with
  | true => exact isTrue_and_nil e
  | false => exact e
theorem pw_or1 (ha : PT X a tA) : PW X (.BoolOp .Or [a] pos) tA := by
  intro wh pins s σ H Q I h
  refine isTrue_or (thn (ha pins s σ H Q I h) fun c s1 e => ?_)
  cases c with
  | false => exact isTrue_or_nil e
  | true => exact e
theorem pw_and (ha : PT X a tA) (hb : PW X (.BoolOp .And (b :: rest) pos) tB') : PW X (.BoolOp .And (a :: b :: rest) pos) (tAnd tA tB') := by
  intro wh pins s σ H Q I h
  refine isTrue_and (thn (ha pins s σ H _ I h) fun c s1 ⟨H1, I1, q1⟩ => ?_)
  cases c with
  | true => exact hb wh pins s1 σ H1 Q I1 q1
  | false => exact ⟨H1, I1, q1⟩
theorem pw_or (ha : PT X a tA) (hb : PW X (.BoolOp .Or (b :: rest) pos) tB') : PW X (.BoolOp .Or (a :: b :: rest) pos) (tOr tA tB') := by
  intro wh pins s σ H Q I h
  refine isTrue_or (thn (ha pins s σ H _ I h) fun c s1 ⟨H1, I1, q1⟩ => ?_)
  cases c with
  | true => exact ⟨H1, I1, q1⟩
  | false => exact hb wh pins s1 σ H1 Q I1 q1
theorem pt_not (ha : PT X a tA) : PT X (.UnaryOp .Not a pos) (tNot tA) := by
  intro pins s σ H Q I h
  exact isTrue_not (ha pins s σ H (fun c H1 => Q (!c) H1) I h)
def tAndV (ta tb : TE) : TE := fun σ H Q => ta σ H fun x H1 => ∃ c, x = .bl c ∧ if c = true then tb σ H1 Q else Q (.bl false) H1
def tOrV (ta tb : TE) : TE := fun σ H Q => ta σ H fun x H1 => ∃ c, x = .bl c ∧ if c = true then Q (.bl true) H1 else tb σ H1 Q
theorem pe_one {op} {t : TE} (h : PE X a t) : PE X (.BoolOp op [a] pos) t := fun pins s σ H Q I hw => BoolOp_one (h pins s σ H Q I hw)
theorem pe_and (ha : PE X a ta) (hb : PE X (.BoolOp .And (b :: rest) pos) tb) : PE X (.BoolOp .And (a :: b :: rest) pos) (tAndV ta tb) := by
  intro pins s σ H Q I h
  refine BoolOp_and (thn (ha pins s σ H _ I h) fun v s1 ⟨x, H1, I1, r1, q1⟩ => ?_)
  obtain ⟨c, rfl, q1⟩ := q1
  cases r1
  refine wpAny_truthy_bool ?_
  cases c with
  | true => exact hb pins s1 σ H1 Q I1 q1
  | false => exact ⟨.bl false, H1, I1, rfl, q1⟩
theorem pe_or (ha : PE X a ta) (hb : PE X (.BoolOp .Or (b :: rest) pos) tb) : PE X (.BoolOp .Or (a :: b :: rest) pos) (tOrV ta tb) := by
  intro pins s σ H Q I h
  refine BoolOp_or (thn (ha pins s σ H _ I h) fun v s1 ⟨x, H1, I1, r1, q1⟩ => ?_)
  obtain ⟨c, rfl, q1⟩ := q1
  cases r1
  refine wpAny_truthy_bool ?_
  cases c with
  | false => exact hb pins s1 σ H1 Q I1 q1
  | true => exact ⟨.bl true, H1, I1, rfl, q1⟩
end
end L2
namespace L2
open PySem PySem.Spec PyProof.Rows
def SqL (K : PySem.W.Frag) (H : Hp) (a : Addr) (xs : List V) : Prop :=
  Rd H a (.lst xs) ∨
    ∃ (o : Obj) (its : Array Value) (n : Nat), K.lookup a = some o ∧ o.cls = .type "list" ∧ o.dict = none ∧ o.data = .seq its n ∧ its.size ≤ sizeLine ∧ Vals xs its.toList
def SqT (K : PySem.W.Frag) (H : Hp) (a : Addr) (xs : List V) : Prop :=
  Rd H a (.tup xs) ∨
    ∃ (o : Obj) (its : Array Value) (n : Nat), K.lookup a = some o ∧ o.cls = .type "tuple" ∧ o.data = .seq its n ∧ its.size ≤ sizeLine ∧ Vals xs its.toList
def absV : Value → Option V
  | .none => some .non
  | .bool b => some (.bl b)
  | .int i _ => some (.int i)
  | .str x _ => some (.str x)
  | .bytes b _ => some (.byt b)
  | .float b _ => some (.flt b)
  | .ref a => some (.ref a)
  | .type n => some (.ty n)
  | _ => none
theorem RelV.abs {x : V} {u : Value} (r : RelV x u) : absV u = some x := by
  cases x with
  | non => cases r; rfl
  | bl _ => cases r; rfl
  | int _ => obtain ⟨t, rfl⟩ := r; rfl
  | str _ => obtain ⟨t, rfl⟩ := r; rfl
  | byt _ => obtain ⟨t, rfl⟩ := r; rfl
  | flt _ => obtain ⟨t, rfl⟩ := r; rfl
  | ref _ => cases r; rfl
  | ty _ => cases r; rfl
theorem RelV.inj {x y : V} {u : Value} (r : RelV x u) (q : RelV y u) : x = y := Option.some.inj (r.abs.symm.trans q.abs)
theorem Vals.inj : ∀ {xs ys : List V} {us : List Value}, Vals xs us → Vals ys us → xs = ys
  | _, _, _, .nil, .nil => rfl
  | _, _, _, .cons r t, .cons r' t' => by rw [r.inj r', Vals.inj t t']
section
variable {X : Cx} {pins : List (Addr × Obj)} {σ : St} {H : Hp} {s : Shared} {a : Addr} {xs ys : List V}
theorem SqL.of {K : PySem.W.Frag} (h : H a = some (.lst xs)) : SqL K H a xs := .inl (.inl h)
theorem SqT.of {K : PySem.W.Frag} (h : H a = some (.tup xs)) : SqT K H a xs := .inl (.inl h)
theorem Inv.list (I : Inv X pins σ H s) (h : SqL X.K H a xs) : ∃ its : List Value, Vals xs its ∧ PlainL s.heap a its.toArray ∧ xs.length ≤ sizeLine := by
  rcases h with h | ⟨o, its, n, hk, hc, hd, hs, hz, r⟩
  · obtain ⟨z, its, n, r, e⟩ := h.ok I.hok
    exact ⟨its, r, ⟨_, n, e, rfl, rfl, rfl⟩, z⟩
  · refine ⟨its.toList, r, ⟨o, n, I.kIn a o hk, hc, hd, by simpa using hs⟩, ?_⟩
    have e := r.length
    simp only [Array.length_toList] at e
    omega
theorem Inv.tuple (I : Inv X pins σ H s) (h : SqT X.K H a xs) : ∃ its : List Value, Vals xs its ∧ IsTup s.heap a its.toArray ∧ xs.length ≤ sizeLine := by
  rcases h with h | ⟨o, its, n, hk, hc, hs, hz, r⟩
  · obtain ⟨z, its, r, p⟩ := h.ok I.hok
    exact ⟨its, r, p, z⟩
  · refine ⟨its.toList, r, ⟨o, I.kIn a o hk, hc, n, by simpa using hs⟩, ?_⟩
    have e := r.length
    simp only [Array.length_toList] at e
    omega
theorem Inv.list_inj (I : Inv X pins σ H s) (h : SqL X.K H a xs) (h' : SqL X.K H a ys) : xs = ys := by
  obtain ⟨its, r, ⟨o, n, e, _, _, d⟩, _⟩ := I.list h
  obtain ⟨its', r', ⟨o', n', e', _, _, d'⟩, _⟩ := I.list h'
  rw [e] at e'; cases e'
  rw [d] at d'
  injection d' with d1 _
  have : its = its' := by simpa using congrArg Array.toList d1
  subst this
  exact r.inj r'
end
abbrev Cx.wish (X : Cx) (E : Value → Shared → Prop) : Cx := { X with xe := E }
abbrev Cx.nox (X : Cx) : Cx := X.wish fun _ _ => False
theorem Cx.Ok.wish {X : Cx} (ok : X.Ok) (E : Value → Shared → Prop) : (X.wish E).Ok :=
  ⟨ok.mod, ok.kind, ok.glob, ok.blt, ok.above, ok.inj, ok.has, ok.cab, ok.hd, ok.frames, ok.stk, ok.exf, ok.bs, ok.bsz, ok.noex, ok.exfs, ok.funs, ok.frf⟩
theorem Cx.Ok.unwish {X : Cx} {E : Value → Shared → Prop} (ok : (X.wish E).Ok) : X.Ok :=
  ⟨ok.mod, ok.kind, ok.glob, ok.blt, ok.above, ok.inj, ok.has, ok.cab, ok.hd, ok.frames, ok.stk, ok.exf, ok.bs, ok.bsz, ok.noex, ok.exfs, ok.funs, ok.frf⟩
section
variable {X : Cx} {pins : List (Addr × Obj)} {σ : St} {H : Hp} {s : Shared} {E : Value → Shared → Prop}
theorem Inv.wish (I : Inv X pins σ H s) (E : Value → Shared → Prop) : Inv (X.wish E) pins σ H s := ⟨I.ok.wish E, I.os, I.bare, I.base, I.loc, I.cell, I.free, I.freeC, I.pin, I.hok, I.len⟩
theorem Inv.unwish (I : Inv (X.wish E) pins σ H s) : Inv X pins σ H s := ⟨I.ok.unwish, I.os, I.bare, I.base, I.loc, I.cell, I.free, I.freeC, I.pin, I.hok, I.len⟩
theorem SP.unwish {D : Ends} {f : Flow} {s' : Shared} (h : SP (X.wish E) pins D f s') : SP X pins D f s' := by
  cases f with
  | next => obtain ⟨σ', H', I, q⟩ := h; exact ⟨σ', H', I.unwish, q⟩
  | brk => obtain ⟨σ', H', I, q⟩ := h; exact ⟨σ', H', I.unwish, q⟩
  | cont => obtain ⟨σ', H', I, q⟩ := h; exact ⟨σ', H', I.unwish, q⟩
  | ret u => obtain ⟨v, σ', H', I, r, q⟩ := h; exact ⟨v, σ', H', I.unwish, r, q⟩
theorem PE.nox {e : Expr} {t : TE} (h : PE X.nox e t) : PE X e t := fun pins s σ H Q I hw =>
  wpAny_mono (h pins s σ H Q (I.wish _) hw) (fun _ _ ⟨v, H', I', r, q⟩ => ⟨v, H', I'.unwish, r, q⟩) fun _ _ z => False.elim z
theorem PT.nox {e : Expr} {t : TT} (h : PT X.nox e t) : PT X e t := fun pins s σ H Q I hw =>
  wpAny_mono (h pins s σ H Q (I.wish _) hw) (fun _ _ ⟨H', I', q⟩ => ⟨H', I'.unwish, q⟩) fun _ _ z => False.elim z
theorem PSs.nox {st : List Stmt} {t : TS} (h : PSs X.nox st t) : PSs X st t := fun pins s σ H D I hw =>
  wpAny_mono (h pins s σ H D (I.wish _) hw) (fun _ _ q => q.unwish) fun _ _ z => False.elim z
end
section
variable {X : Cx} {st : Stmt} {rest : List Stmt} {t u : TS} {e : Expr} {te : TE} {pos : Pos}
def tNext : TS := fun D σ H => D.nx σ H
def tSeq (t u : TS) : TS := fun D σ H => t { D with nx := u D } σ H
theorem pss_nil : PSs X [] tNext := fun _ _ σ H _ I h => wpAny_execs_nil ⟨σ, H, I, h⟩
theorem pss_cons (h1 : PS X st t) (h2 : PSs X rest u) : PSs X (st :: rest) (tSeq t u) := by
  intro pins s σ H D I h
  refine wpAny_execs_cons (thn (h1 pins s σ H { D with nx := u D } I h) fun f s1 q => ?_)
  cases f with
  | next =>
    obtain ⟨σ', H', I', q⟩ := q
    exact h2 pins s1 σ' H' D I' q
  | ret v => exact q
  | brk => exact q
  | cont => exact q
theorem pss_one (h1 : PS X st t) : PSs X [st] t := by
  intro pins s σ H D I h
  refine wpAny_execs_cons (thn (h1 pins s σ H D I h) fun f s1 q => ?_)
  cases f with
  | next => exact wpAny_execs_nil q
  | ret v => exact q
  | brk => exact q
  | cont => exact q
theorem Inv.quiet {pins : List (Addr × Obj)} {σ : St} {H : Hp} {s : Shared} (I : Inv X pins σ H s) : interactive X.env = false := by simp [interactive, I.ok.kind]
def tDrop (te : TE) : TS := fun D σ H => te σ H fun _ H1 => D.nx σ H1
theorem ps_expr (he : PE X e te) (hs : swapsWith e none pos.line X.env = pure false := by rfl) : PS X (.Expr e pos) (tDrop te) := by
  intro pins s σ H D I h
  exact wpAny_Expr_any (thn (he pins s σ H _ I h) fun v s1 ⟨x, H1, I1, r1, q1⟩ => ⟨σ, H1, I1, q1⟩) I.quiet hs
def tRet (te : TE) : TS := fun D σ H => te σ H D.rt
theorem ps_ret (he : PE X e te) : PS X (.Return (some e) pos) (tRet te) := by
  intro pins s σ H D I h
  exact wpAny_Return_some (thn (he pins s σ H _ I h) fun v s1 ⟨x, H1, I1, r1, q1⟩ => ⟨x, σ, H1, I1, r1, q1⟩)
def tIfS (c : TT) (t u : TS) : TS := fun D σ H => c σ H fun b H1 => if b = true then t D σ H1 else u D σ H1
theorem ps_if {c : Expr} {a b : List Stmt} {tc : TT} (hc : PT X c tc) (ha : PSs X a t) (hb : PSs X b u) : PS X (.If c a b pos) (tIfS tc t u) := by
  intro pins s σ H D I h
  refine wpAny_If (thn (hc pins s σ H _ I h) fun d s1 ⟨H1, I1, q1⟩ => ?_)
  cases d with
  | true => exact ha pins s1 σ H1 D I1 q1
  | false => exact hb pins s1 σ H1 D I1 q1
end
abbrev TG := V → St → Hp → (St → Hp → Prop) → Prop
abbrev TGs := List V → St → Hp → (St → Hp → Prop) → Prop
def PG (X : Cx) (target : Expr) (t : TG) : Prop :=
  ∀ (pins : List (Addr × Obj)) (s : Shared) (σ : St) (H : Hp) (v : V) (u : Value) (Q : St → Hp → Prop), Inv X pins σ H s → RelV v u → t v σ H Q →
    wpAny (model X.prog X.w) X.A (assign target X.env u) (fun _ s' => ∃ σ' H', Inv X pins σ' H' s' ∧ Q σ' H') X.xe s
def PGs (X : Cx) (ts : List Expr) (t : TGs) : Prop :=
  ∀ (pins : List (Addr × Obj)) (s : Shared) (σ : St) (H : Hp) (vs : List V) (us : List Value) (Q : St → Hp → Prop), Inv X pins σ H s → Vals vs us → t vs σ H Q →
    wpAny (model X.prog X.w) X.A (assignInOrder ((assignEach ts X.env).map (·.2)) us) (fun _ s' => ∃ σ' H', Inv X pins σ' H' s' ∧ Q σ' H') X.xe s
abbrev TSet := V → V → V → Hp → (Hp → Prop) → Prop
def PSet (X : Cx) (t : TSet) : Prop :=
  ∀ (pins : List (Addr × Obj)) (s : Shared) (σ : St) (H : Hp) (o i v : V) (ov iv u : Value) (Q : Hp → Prop), Inv X pins σ H s → RelV o ov → RelV i iv → RelV v u → t o i v H Q →
    wpAny (model X.prog X.w) X.A (setItem ov iv u) (fun _ s' => ∃ H', Inv X pins σ H' s' ∧ Q H') X.xe s
section
variable {X : Cx} {pos : Pos}
def gName (i : Nat) : TG := fun v σ H Q => Q (σ.set i (some v)) H
theorem pg_name {i : Nat} {x : Str} (hN : X.N.Nodup) (hi : X.N[i]? = some x) (hx : Loc X.env.scope x) (hf : X.fn x = true ∨ X.env.scope.names.lookup x = some .local := by first | exact .inl rfl | exact .inr rfl | assumption) : PG X (.Name x pos) (gName i) := by
  intro pins s σ H v u Q I r h
  exact wpAny_assign_Name (store_ok I hN hi hx r (fun s' I' => ⟨_, H, I', h⟩) hf)
def gNil : TGs := fun vs σ H Q => vs = [] ∧ Q σ H
def gCons (t : TG) (u : TGs) : TGs := fun vs σ H Q => ∃ v r, vs = v :: r ∧ t v σ H fun σ' H' => u r σ' H' Q
theorem pgs_nil : PGs X [] gNil := by
  intro pins s σ H vs us Q I r h
  obtain ⟨e, h⟩ := h
  subst e
  cases r
  exact assignInOrder_nil ⟨σ, H, I, h⟩
theorem pgs_cons {e : Expr} {es : List Expr} {t : TG} {u : TGs} (h1 : PG X e t) (h2 : PGs X es u)
    (hs : (assignEach (e :: es) X.env).map (·.2) = assign e X.env :: (assignEach es X.env).map (·.2) := by rfl) : PGs X (e :: es) (gCons t u) := by
  intro pins s σ H vs us Q I r h
  obtain ⟨v, vr, e1, h⟩ := h
  subst e1
  cases r with
  | cons r rr =>
    rw [hs]
    refine assignInOrder_cons (thn (h1 pins s σ H _ _ _ I r h) fun _ s1 ⟨σ1, H1, I1, q1⟩ => ?_)
    exact h2 pins s1 σ1 H1 _ _ Q I1 rr q1
def gTup (K : PySem.W.Frag) (n : Nat) (t : TGs) : TG := fun v σ H Q => ∃ a xs, v = .ref a ∧ SqT K H a xs ∧ xs.length = n ∧ t xs σ H Q
theorem pg_tup {es : List Expr} {k : Nat} {t : TGs} {n : Nat} (hc : X.calm = true) (h : PGs X es t)
    (hn : (assignEach es X.env).length = n := by rfl) (hst : (assignEach es X.env).findIdx? (·.1) = none := by rfl) : PG X (.Tuple es k pos) (gTup X.K n t) := by
  intro pins s σ H v u Q I r hw
  obtain ⟨a, xs, e1, hq, hl, hw⟩ := hw
  subst e1
  cases r
  obtain ⟨its, rv, ht, hz⟩ := I.tuple hq
  refine assign_Tuple_tuple (I.ok.hd hc) ht (by simp [hn, ← hl, rv.length]) hst fun h' hx => ?_
  have I1 : Inv X pins σ H { s with heap := h' } := I.kept (t' := s.toks) fun b o e => hx b o (Nat.ne_of_lt (Heap.lt_size e)) e
  exact h pins _ σ H xs _ Q I1 (by simpa using rv) hw
def gSub (to ti : TE) (t : TSet) : TG := fun v σ H Q => to σ H fun o H1 => ti σ H1 fun i H2 => t o i v H2 fun H3 => Q σ H3
theorem pg_sub {o i : Expr} {to ti : TE} {t : TSet} (ho : PE X o to) (hi : PE X i ti) (hs : PSet X t)
    (ha : ∀ v, assign (.Subscript o i pos) X.env v = (do
      let ov ← holding [v] (eval o X.env)
      let iv ← holding [v, ov] (eval i X.env)
      standAt pos
      holding [v, ov, iv] (setItem ov iv v)
      release [v, ov, iv] []) := by intro _; rfl) : PG X (.Subscript o i pos) (gSub to ti t) := by
  intro pins s σ H v u Q I r h
  rw [ha]
  refine wpAny_bind (wpAny_holding (thn (ho pins s σ H _ I h) fun ov s1 ⟨x, H1, I1, r1, q1⟩ => ?_))
  refine wpAny_bind (wpAny_holding (thn (hi pins s1 σ H1 _ I1 q1) fun iv s2 ⟨y, H2, I2, r2, q2⟩ => ?_))
  refine wpAny_bind (wpAny_standAt (wpAny_bind (wpAny_holding (thn (hs pins s2 σ H2 x y v ov iv u _ I2 r1 r2 r q2) fun _ s3 ⟨H3, I3, q3⟩ => ?_))))
  exact wpAny_release ⟨σ, H3, I3, q3⟩
def tAsg (te : TE) (g : TG) : TS := fun D σ H => te σ H fun x H1 => g x σ H1 D.nx
theorem ps_asg {tg e : Expr} {te : TE} {g : TG} (he : PE X e te) (hg : PG X tg g) (hs : swapsWithSole [tg] e pos.line X.env = pure false := by rfl) (hw : swappedStores [tg] e X.env = pure none := by rfl)
    (h1 : (assignEach [tg] X.env).map (·.2) = [assign tg X.env] := by rfl) : PS X (.Assign [tg] e pos) (tAsg te g) := by
  intro pins s σ H D I h
  refine wpAny_Assign_stores (thn (he pins s σ H _ I h) fun v s1 ⟨x, H1, I1, r1, q1⟩ => ?_) hs hw
  rw [h1]
  exact thn (hg pins s1 σ H1 x v _ I1 r1 q1) fun _ s2 q => q
theorem ps_set {i : Nat} {x : Str} {e : Expr} {te : TE} {pos' : Pos} (hN : X.N.Nodup) (hi : X.N[i]? = some x) (hx : Loc X.env.scope x) (he : PE X e te) (hs : swapsWith e (some (.Name x pos')) pos.line X.env = pure false := by rfl) (hf : X.fn x = true ∨ X.env.scope.names.lookup x = some .local := by first | exact .inl rfl | exact .inr rfl | assumption) :
    PS X (.Assign [.Name x pos'] e pos) (tAsg te (gName i)) := by
  intro pins s σ H D I h
  refine wpAny_Assign_Name (thn (he pins s σ H _ I h) fun v s1 ⟨y, H1, I1, r1, q1⟩ => ?_) hs
  exact store_ok I1 hN hi hx r1 (fun s2 I2 => ⟨_, H1, I2, q1⟩) hf
end
section
variable {X : Cx} {pos : Pos}
def tWhile (c : TT) (tb : TS) : TS := fun D σ H => ∃ W : Nat → St → Hp → Prop, (∃ m, W m σ H) ∧ ∀ m σ H, W m σ H →
  c σ H fun b H1 => if b = true then ∃ N : St → Hp → Prop, (∀ σ' H', N σ' H' → ∃ m', m' < m ∧ W m' σ' H') ∧ tb { D with nx := N, ct := N, bk := D.nx } σ H1 else D.nx σ H1
theorem ps_while {c : Expr} {body : List Stmt} {tc : TT} {tb : TS} (hp : PassesOwn (model X.prog X.w) X.A X.env X.xe) (hc : PT X c tc) (hb : PSs X body tb) : PS X (.While c body [] pos) (tWhile tc tb) := by
  intro pins s σ H D I h
  obtain ⟨W, ⟨m0, w0⟩, turn⟩ := h
  refine wpAny_While (codeAny_whileLoop (fun n s' => ∃ σ' H', Inv X pins σ' H' s' ∧ W n σ' H') ?_ m0 ⟨σ, H, I, w0⟩)
  rintro n s1 ⟨σ1, H1, I1, w1⟩
  refine wpAny_passesOwn hp (thn (hc pins s1 σ1 H1 _ I1 (turn n σ1 H1 w1)) fun b s2 ⟨H2, I2, q2⟩ => ?_)
  cases b with
  | true =>
    obtain ⟨N, hN, q2⟩ := q2
    rw [if_pos rfl]
    refine wpAny_passesOwn hp (thn (hb pins s2 σ1 H2 _ I2 q2) fun f s3 q3 => ?_)
    cases f with
    | next =>
      obtain ⟨σ3, H3, I3, n3⟩ := q3
      obtain ⟨m', hm, w3⟩ := hN σ3 H3 n3
      exact ⟨m', hm, σ3, H3, I3, w3⟩
    | cont =>
      obtain ⟨σ3, H3, I3, n3⟩ := q3
      obtain ⟨m', hm, w3⟩ := hN σ3 H3 n3
      exact ⟨m', hm, σ3, H3, I3, w3⟩
    | brk => exact q3
    | ret v => exact q3
  | false =>
    rw [if_neg Bool.false_ne_true]
    exact wpAny_execs_nil ⟨σ1, H2, I2, q2⟩
end
structure It where
  go : Nat → Hp → Prop
  yld : Nat → Hp → V → Hp → Prop
  stop : Nat → Hp → Prop
def FpOk (X : Cx) (pins : List (Addr × Obj)) (H : Hp) (b : Addr) : Prop :=
  H b = none ∧ b ≠ X.env.locals ∧ b ∉ X.fs ∧ (b ∈ X.ex ∨ X.s_0.heap.objs.size ≤ b) ∧ (∀ x c, X.env.cells.lookup x = some c → c ≠ b) ∧ ∀ p ∈ X.pn ++ pins, p.1 ≠ b
theorem Inv.fpOk {X : Cx} {pins : List (Addr × Obj)} {σ : St} {H H' : Hp} {s : Shared} {b : Addr} (I : Inv X pins σ H s) (hb : s.heap.objs.size ≤ b) (hn : H' b = none) : FpOk X pins H' b := by
  refine ⟨hn, Nat.ne_of_gt (Nat.lt_of_lt_of_le I.lt hb), I.nofs hb, .inr (Nat.le_trans I.sz hb), fun x c e z => ?_, fun p hp z => ?_⟩
  · obtain ⟨v, q⟩ := I.cell x c e
    exact absurd (Nat.lt_of_lt_of_le q.lt (by rw [z]; exact hb)) (Nat.lt_irrefl _)
  · exact absurd (Nat.lt_of_lt_of_le (Heap.lt_size (I.pin p hp).1) (by rw [z]; exact hb)) (Nat.lt_irrefl _)
structure Turn (P : Program) (w : World) (K : PySem.W.Frag) (tg : Expr) (J : It) (fp : List Addr) (it : Addr) (tn : Nat → Heap → Prop) : Prop where
  mem : it ∈ fp
  obj : ∀ i h, tn i h → ∀ b ∈ fp, ∃ o, h.get? b = some o ∧ ∀ v, o.data ≠ .cell v
  keep : ∀ i h h', tn i h → (∀ b ∈ fp, ∀ o, h.get? b = some o → h'.get? b = some o) → tn i h'
  item : ∀ (X : Cx), X.prog = P → X.w = w → X.K = K → X.calm = true → ∀ (i : Nat) (pins : List (Addr × Obj)) (s : Shared) (σ : St) (H : Hp) (E : Value → Shared → Prop), Inv X pins σ H s → (∀ b ∈ fp, FpOk X pins H b) → tn i s.heap → J.go i H →
    wpAny (model P w) X.A (pyNext (.ref it)) (fun r s1 => ∃ u, r = some u ∧
      wpAny (model P w) X.A (letOwnedTupleGo tg (.ref it) u) (fun _ s2 => ∃ x H', Inv X pins σ H' s2 ∧ RelV x u ∧ J.yld i H x H' ∧ tn (i + 1) s2.heap ∧ ∀ b ∈ fp, H' b = none) E s1) E s
  done : ∀ (X : Cx), X.prog = P → X.w = w → X.K = K → X.calm = true → ∀ (i : Nat) (pins : List (Addr × Obj)) (s : Shared) (σ : St) (H : Hp) (E : Value → Shared → Prop), Inv X pins σ H s → (∀ b ∈ fp, FpOk X pins H b) → tn i s.heap → J.stop i H →
    wpAny (model P w) X.A (pyNext (.ref it)) (fun r s1 => r = none ∧ Inv X pins σ H s1) E s
  self : ∀ (A : Around) (i : Nat) (s : Shared) (Q : Value → Shared → Prop) (E : Value → Shared → Prop), tn i s.heap → Q (.ref it) s → wpAny (model P w) A (pyIter (.ref it)) Q E s
abbrev TI := St → Hp → (It → Hp → Prop) → Prop
def PIE (X : Cx) (pins : List (Addr × Obj)) (σ : St) (tg : Expr) (R : It → Hp → Prop) (itv : Value) (s2 : Shared) : Prop :=
  ∃ (it : Addr) (fp : List Addr) (tn : Nat → Heap → Prop) (J : It) (H' : Hp), itv = .ref it ∧ Inv X pins σ H' s2 ∧ Turn X.prog X.w X.K tg J fp it tn ∧ tn 0 s2.heap ∧ (∀ b ∈ fp, FpOk X pins H' b) ∧ R J H'
def PI (X : Cx) (tg iter : Expr) (wi : TI) : Prop :=
  ∀ (pins : List (Addr × Obj)) (s : Shared) (σ : St) (H : Hp) (R : It → Hp → Prop), Inv X pins σ H s → wi σ H R →
    wpAny (model X.prog X.w) X.A (eval iter X.env) (fun v s1 => wpAny (model X.prog X.w) X.A (pyIter v) (PIE X pins σ tg R) X.xe s1) X.xe s
theorem go_of {M : Model} {A : Around} {E : Value → Shared → Prop} {s : Shared} {tg : Expr} {it : Addr} {u : Value} {o : Obj} {n : String} {vs : Array Value} {Q : Unit → Shared → Prop} (ho : s.heap.get? it = some o) (hc : o.cls = .type n) (hd : o.data = .fields vs)
    (hn : ["enumerate", "zip", "dict_itemiterator", "dict_reverseitemiterator", "odict_iterator", "itertools.zip_longest", "itertools.pairwise"].contains n = false) (hQ : Q () s) : wpAny M A (letOwnedTupleGo tg (.ref it) u) Q E s := by
  unfold letOwnedTupleGo
  cases tg <;> first
    | exact wpAny_pure hQ
    | (cases u <;> first
        | exact wpAny_pure hQ
        | (refine wpAny_bind (wpAny_load ho ?_)
           rw [hc, hd]
           show wpAny M A (if (["enumerate", "zip", "dict_itemiterator", "dict_reverseitemiterator", "odict_iterator", "itertools.zip_longest", "itertools.pairwise"].contains n && vs[0]? == some (rawInt _)) = true then _ else _) Q E s
           rw [if_neg (by intro h; rw [hn, Bool.false_and] at h; cases h)]
           exact wpAny_pure hQ))
def Itl (K : PySem.W.Frag) (a : Addr) : It :=
  ⟨fun i H => ∃ xs x, SqL K H a xs ∧ xs[i]? = some x, fun i H x H' => H' = H ∧ ∀ xs, SqL K H a xs → xs[i]? = some x, fun i H => ∃ xs, SqL K H a xs ∧ xs.length ≤ i⟩
def Itr (lo : Int) (n : Nat) : It := ⟨fun i _ => i < n, fun i H x H' => H' = H ∧ x = .int (lo + i), fun i _ => n ≤ i⟩
theorem turn_list {P : Program} {w : World} {K : PySem.W.Frag} {tg : Expr} (a it : Addr) : Turn P w K tg (Itl K a) [it] it (fun i h => h.IsListIter it a i) where
  mem := by simp
  obj := fun i h st b hb => by
    have e : b = it := by simpa using hb
    subst e
    obtain ⟨o, e, c, d⟩ := st
    exact ⟨o, e, fun v z => by rw [d] at z; cases z⟩
  keep := fun i h h' st k => st.at fun o e => k it (by simp) o e
  item := by
    intro X hP hw hK hc i pins s σ H E I hf st hg
    subst hP hw hK
    obtain ⟨xs, x, hq, hx⟩ := hg
    obtain ⟨its, rv, p, hz⟩ := I.list hq
    obtain ⟨u, hu, ru⟩ := rv.get hx
    obtain ⟨f0, f1, f2, f3, f4, f5⟩ := hf it (by simp)
    refine wpAny_pyNext_list_item st p.isList (x := u) (by simpa using hu) fun h' st' sb => ?_
    have I1 : Inv X pins σ H { s with heap := h' } := I.turned (t' := s.toks) (fun b o hb e => (sb.2 b hb).trans e) f0 f1 f3 f4 f5
    obtain ⟨o, e, c, d⟩ := id st'
    exact ⟨u, rfl, go_of (s := { s with heap := h' }) e c d (by decide) ⟨x, H, I1, ru, ⟨rfl, fun ys hy => by rw [I.list_inj hy hq]; exact hx⟩, st', fun b hb => (hf b hb).1⟩⟩
  done := by
    intro X hP hw hK hc i pins s σ H E I hf st hg
    subst hP hw hK
    obtain ⟨xs, hq, hx⟩ := hg
    obtain ⟨its, rv, p, hz⟩ := I.list hq
    obtain ⟨f0, f1, f2, f3, f4, f5⟩ := hf it (by simp)
    have hl := rv.length
    exact wpAny_pyNext_list_end (I.ok.hd hc) st p.isList (by simp; omega) fun h' eb => ⟨rfl, I.turned (t' := s.toks) (fun b o hb e => eb b o hb e) f0 f1 f3 f4 f5⟩
  self := fun _ _ _ _ _ st h => wpAny_pyIter_listiter st h
theorem turn_range {P : Program} {w : World} {K : PySem.W.Frag} {tg : Expr} (it : Addr) (lo : Int) (n : Nat) : Turn P w K tg (Itr lo n) [it] it (fun i h => IsRangeIter h it (lo + (i : Nat) * 1) ((n : Int) - (i : Nat)) 1) where
  mem := by simp
  obj := fun i h st b hb => by
    have e : b = it := by simpa using hb
    subst e
    exact ⟨_, st, fun v z => by
      have z' : Data.fields _ = Data.cell v := z
      cases z'⟩
  keep := fun i h h' st k => k it (by simp) _ st
  item := by
    intro X hP hw hK hc i pins s σ H E I hf st hg
    subst hP hw hK
    obtain ⟨f0, f1, f2, f3, f4, f5⟩ := hf it (by simp)
    have W := Walks.range (prog := X.prog) (w := X.w) (I.ok.hd hc) it lo 1 n
    refine W.item i s _ _ hg st fun v h' tk hv st' kk => ?_
    obtain ⟨t, rfl⟩ := hv
    have I1 : Inv X pins σ H { s with heap := h', toks := tk } := I.turned (fun b o hb e => kk b o (by simpa using hb) e) f0 f1 f3 f4 f5
    refine ⟨_, rfl, go_of (s := { s with heap := h', toks := tk }) (n := "range_iterator") st' rfl rfl (by decide) ⟨.int (lo + i), H, I1, ⟨t, ?_⟩, ⟨rfl, rfl⟩, st', fun b hb => (hf b hb).1⟩⟩
    rw [Int.mul_one]
  done := by
    intro X hP hw hK hc i pins s σ H E I hf st hg
    subst hP hw hK
    obtain ⟨f0, f1, f2, f3, f4, f5⟩ := hf it (by simp)
    exact wpAny_pyNext_range_end (I.ok.hd hc) st (by have : n ≤ i := hg; omega) fun h' eb => ⟨rfl, I.turned (t' := s.toks) (fun b o hb e => eb b o hb e) f0 f1 f3 f4 f5⟩
  self := fun _ _ _ _ _ st h => wpAny_pyIter_rangeiter st h
end L2
namespace L2
open PySem PySem.Spec PyProof.Rows
section
variable {X : Cx} {tg : Expr}
def iList (K : PySem.W.Frag) (tl : TE) : TI := fun σ H R => tl σ H fun x H1 => ∃ a, x = .ref a ∧ (∃ xs, SqL K H1 a xs) ∧ R (Itl K a) H1
theorem pi_list {l : Expr} {tl : TE} (hl : PE X l tl) : PI X tg l (iList X.K tl) := by
  intro pins s σ H R I h
  refine thn (hl pins s σ H _ I h) fun v s1 ⟨x, H1, I1, r1, q1⟩ => ?_
  obtain ⟨a, e, ⟨xs, hq⟩, q⟩ := q1
  subst e
  cases r1
  obtain ⟨its, rv, p, hz⟩ := I1.list hq
  refine wpAny_pyIter_list p.isList ?_
  refine ⟨s1.heap.objs.size, [s1.heap.objs.size], _, _, H1, rfl, I1.kept (t' := s1.toks) fun b o e => Heap.get?_push_of_some _ e, turn_list a _, ⟨_, Heap.get?_push_size _ rfl, rfl, rfl⟩, fun b hb => ?_, q⟩
  have e : b = s1.heap.objs.size := by simpa using hb
  subst e
  exact I1.fpOk (Nat.le_refl _) (I1.hok.fresh (Nat.le_refl _))
theorem range_it {pins : List (Addr × Obj)} {σ : St} {H : Hp} {s : Shared} {R : It → Hp → Prop} {E : Value → Shared → Prop} {lo hi : Int} {t u v : Tok} {tk : Nat} (I : Inv X pins σ H s) (h1 : -(2 ^ 62) ≤ lo) (h2 : lo < 2 ^ 62) (h3 : -(2 ^ 62) ≤ hi) (h4 : hi < 2 ^ 62)
    (q : R (Itr lo (hi - lo).toNat) H) : wpAny (model X.prog X.w) X.A (pyIter (.ref s.heap.objs.size)) (PIE X pins σ tg R) E { s with heap := s.heap.push { cls := .type "range", data := .fields #[.int lo t, .int hi u, .int 1 v] }, toks := tk } := by
  refine wpAny_pyIter_range (IsRange.new ..) (small_one h1 h2 h3 h4) ?_
  have I1 : Inv X pins σ H { s with heap := s.heap.push { cls := .type "range", data := .fields #[.int lo t, .int hi u, .int 1 v] }, toks := tk } := I.kept fun b o e => Heap.get?_push_of_some _ e
  refine ⟨(s.heap.push { cls := .type "range", data := .fields #[.int lo t, .int hi u, .int 1 v] }).objs.size, [(s.heap.push { cls := .type "range", data := .fields #[.int lo t, .int hi u, .int 1 v] }).objs.size], _, _, H, rfl,
    I1.kept (t' := tk) fun b o e => Heap.get?_push_of_some _ e, turn_range _ lo (hi - lo).toNat, ?_, fun b hb => ?_, q⟩
  · have e1 : lo + ((0 : Nat) : Int) * 1 = lo := by simp
    have e2 : (((hi - lo).toNat : Nat) : Int) - ((0 : Nat) : Int) = Builtin.Range.rangeSize lo hi 1 := by rw [rangeSize_one]; split <;> omega
    show IsRangeIter _ _ (lo + ((0 : Nat) : Int) * 1) ((((hi - lo).toNat : Nat) : Int) - ((0 : Nat) : Int)) 1
    rw [e1, e2]
    exact Heap.get?_push_size _ rfl
  · have e : b = (s.heap.push { cls := .type "range", data := .fields #[.int lo t, .int hi u, .int 1 v] }).objs.size := by simpa using hb
    subst e
    exact I1.fpOk (Nat.le_refl _) (I1.hok.fresh (Nat.le_refl _))
def iRng1 (ta : TA) : TI := fun σ H R => ta σ H fun vs H1 => ∃ j : Int, vs = [.int j] ∧ -(2 ^ 62) ≤ j ∧ j < 2 ^ 62 ∧ R (Itr 0 j.toNat) H1
theorem pi_range1 {a : Expr} {ta : TA} {p pos : Pos} (hg : Gl X "range") (hm : X.mg "range" = none) (ha : PA X [a] ta) (hs : starEach [a] X.env = [(false, eval a X.env)] := by rfl) : PI X tg (.Call (.Name "range" p) [a] [] pos) (iRng1 ta) := by
  intro pins s σ H R I h
  refine Call_ (ld_blt I hg hm boot_range (PyProof.Rows.callWith_type1 (thn (ha pos pins s σ H _ I h) fun us s1 ⟨vs, H1, I1, r1, q1⟩ => ?_) hs rfl))
  obtain ⟨j, e, q1, q2, q⟩ := q1
  subst e
  cases r1 with
  | cons r rr =>
    cases rr
    obtain ⟨t, rfl⟩ := r
    exact call_range_1 (range_it I1 (by omega) (by omega) q1 q2 (by simpa using q))
def tFor (wi : TI) (g : TG) (tb : TS) : TS := fun D σ H => wi σ H fun J H1 => ∃ W : Nat → Nat → St → Hp → Prop, (∃ m, W 0 m σ H1) ∧ ∀ i m σ H, W i m σ H →
  (J.stop i H ∧ D.nx σ H) ∨ (J.go i H ∧ ∃ N : St → Hp → Prop, (∀ σ' H', N σ' H' → ∃ m', m' < m ∧ W (i + 1) m' σ' H') ∧ ∀ x H', J.yld i H x H' → g x σ H' fun σ2 H2 => tb { D with nx := N, ct := N, bk := D.nx } σ2 H2)
def pinsAt (fp : List Addr) (h : Heap) : List (Addr × Obj) := fp.filterMap fun b => (h.get? b).map fun o => (b, o)
theorem mem_pinsAt {fp : List Addr} {h : Heap} {b : Addr} {o : Obj} (hb : b ∈ fp) (e : h.get? b = some o) : (b, o) ∈ pinsAt fp h := List.mem_filterMap.mpr ⟨b, hb, by rw [e]; rfl⟩
theorem of_pinsAt {fp : List Addr} {h : Heap} {p : Addr × Obj} (hp : p ∈ pinsAt fp h) : p.1 ∈ fp ∧ h.get? p.1 = some p.2 := by
  obtain ⟨b, hb, e⟩ := List.mem_filterMap.mp hp
  cases q : h.get? b with
  | none => rw [q] at e; cases e
  | some o =>
    rw [q] at e
    have e' : (b, o) = p := Option.some.inj e
    subst e'
    exact ⟨hb, q⟩
theorem Inv.pinned {pins : List (Addr × Obj)} {σ : St} {H : Hp} {s : Shared} {fp : List Addr} (I : Inv X pins σ H s) (hf : ∀ b ∈ fp, FpOk X pins H b) (ho : ∀ b ∈ fp, ∃ o, s.heap.get? b = some o ∧ ∀ v, o.data ≠ .cell v) : Inv X (pins ++ pinsAt fp s.heap) σ H s :=
  I.pins_of fun p hp => (List.mem_append.mp hp).elim (fun z => I.pin p (List.mem_append_right _ z)) fun z => by
    obtain ⟨hb, e⟩ := of_pinsAt z
    obtain ⟨f0, f1, f2, _⟩ := hf p.1 hb
    obtain ⟨o, e', d⟩ := ho p.1 hb
    rw [e] at e'; cases e'
    exact ⟨e, f0, f1, f2, d⟩
theorem Inv.unpinned {pins pl : List (Addr × Obj)} {σ : St} {H : Hp} {s : Shared} (I : Inv X (pins ++ pl) σ H s) : Inv X pins σ H s := I.pins_of fun p hp => I.pin p (List.mem_append_right _ (List.mem_append_left _ hp))
theorem ps_for {iter : Expr} {body : List Stmt} {wi : TI} {g : TG} {tb : TS} {pos : Pos} (hp : PassesOwn (model X.prog X.w) X.A X.env X.xe) (hc : X.calm = true) (hi : PI X tg iter wi) (hg : PG X tg g) (hb : PSs X body tb)
    (hs : ∀ x, foldedSetIterable iter X.env x = pure x := by intro _; rfl) : PS X (.For tg iter body [] pos) (tFor wi g tb) := by
  intro pins s σ H D I h
  refine wpAny_For (thn (hi pins s σ H _ I h) fun v s1 h1 => thn h1 fun itv s2 h2 => ?_) hs
  obtain ⟨it, fp, tn, J, H2, e, I2, T, st2, f2, W, ⟨m0, w0⟩, turn⟩ := h2
  subst e
  -- what stays true of the iterator's objects through the loop
  have stat : ∀ {H' : Hp}, (∀ b ∈ fp, H' b = none) → ∀ b ∈ fp, FpOk X pins H' b := fun hn b hb => ⟨hn b hb, (f2 b hb).2⟩
  refine codeAny_forLoop_any (fun n s' => ∃ i σ' H', Inv X pins σ' H' s' ∧ tn i s'.heap ∧ (∀ b ∈ fp, H' b = none) ∧ W i n σ' H') ?_ m0 ⟨0, σ, H2, I2, st2, fun b hb => (f2 b hb).1, w0⟩
  rintro n s3 ⟨i, σ3, H3, I3, st3, fr3, w3⟩
  rcases turn i n σ3 H3 w3 with ⟨stop, qn⟩ | ⟨go, N, hN, step⟩
  · refine wpAny_passesOwn hp (thn (T.done X rfl rfl rfl hc i pins s3 σ3 H3 X.xe I3 (stat fr3) st3 stop) fun r s4 ⟨hr, I4⟩ => ?_)
    subst hr
    exact wpAny_execs_nil ⟨σ3, H3, I4, qn⟩
  · refine wpAny_passesOwn hp (thn (T.item X rfl rfl rfl hc i pins s3 σ3 H3 X.xe I3 (stat fr3) st3 go) fun r s4 ⟨u, hr, h4⟩ => ?_)
    subst hr
    refine wpAny_passesOwn hp (thn h4 fun _ s5 ⟨x, H5, I5, r5, y5, st5, fr5⟩ => ?_)
    have I5' := I5.pinned (stat fr5) (T.obj _ _ st5)
    refine wpAny_passesOwn hp (thn (hg _ s5 σ3 H5 x u _ I5' r5 (step x H5 y5)) fun _ s6 ⟨σ6, H6, I6, q6⟩ => ?_)
    refine wpAny_passesOwn hp (thn (hb _ s6 σ6 H6 _ I6 q6) fun f s7 q7 => ?_)
    have again : ∀ {σ7 : St} {H7 : Hp}, Inv X (pins ++ pinsAt fp s5.heap) σ7 H7 s7 → N σ7 H7 → ∃ m, m < n ∧ ∃ i σ' H', Inv X pins σ' H' s7 ∧ tn i s7.heap ∧ (∀ b ∈ fp, H' b = none) ∧ W i m σ' H' := fun {σ7 H7} I7 n7 => by
      obtain ⟨m', hm, w7⟩ := hN σ7 H7 n7
      refine ⟨m', hm, i + 1, σ7, H7, I7.unpinned, T.keep _ _ _ st5 fun b hb o e => (I7.pin (b, o) (List.mem_append_right _ (List.mem_append_right _ (mem_pinsAt hb e)))).1, fun b hb => ?_, w7⟩
      obtain ⟨o, e, d⟩ := T.obj _ _ st5 b hb
      exact (I7.pin (b, o) (List.mem_append_right _ (List.mem_append_right _ (mem_pinsAt hb e)))).2.1
    cases f with
    | next => obtain ⟨σ7, H7, I7, n7⟩ := q7; exact again I7 n7
    | cont => obtain ⟨σ7, H7, I7, n7⟩ := q7; exact again I7 n7
    | brk => obtain ⟨σ7, H7, I7, q7⟩ := q7; exact ⟨σ7, H7, I7.unpinned, q7⟩
    | ret v => obtain ⟨x7, σ7, H7, I7, r7, q7⟩ := q7; exact ⟨x7, σ7, H7, I7.unpinned, r7, q7⟩
end
theorem for_list {K : PySem.W.Frag} {a : Addr} {xs : List V} {g : TG} {tb : TS} {D : Ends} {σ : St} {H : Hp} (Pv : Nat → St → Hp → Prop) (h0 : Pv 0 σ H) (hl : ∀ i σ H, i ≤ xs.length → Pv i σ H → SqL K H a xs)
    (hs : ∀ i x σ H, xs[i]? = some x → Pv i σ H → g x σ H fun σ2 H2 => tb { D with nx := Pv (i + 1), ct := Pv (i + 1), bk := D.nx } σ2 H2) (hd : ∀ σ H, Pv xs.length σ H → D.nx σ H) :
    ∃ W : Nat → Nat → St → Hp → Prop, (∃ m, W 0 m σ H) ∧ ∀ i m σ H, W i m σ H →
      ((Itl K a).stop i H ∧ D.nx σ H) ∨ ((Itl K a).go i H ∧ ∃ N : St → Hp → Prop, (∀ σ' H', N σ' H' → ∃ m', m' < m ∧ W (i + 1) m' σ' H') ∧ ∀ x H', (Itl K a).yld i H x H' → g x σ H' fun σ2 H2 => tb { D with nx := N, ct := N, bk := D.nx } σ2 H2) := by
  refine ⟨fun i m σ H => m = xs.length - i ∧ i ≤ xs.length ∧ Pv i σ H, ⟨xs.length, by simp, Nat.zero_le _, h0⟩, ?_⟩
  rintro i m σ H ⟨rfl, hi, p⟩
  have q := hl i σ H hi p
  by_cases hlt : i < xs.length
  · refine .inr ⟨⟨xs, xs[i], q, by simp [hlt]⟩, Pv (i + 1), fun σ' H' p' => ⟨xs.length - (i + 1), by omega, rfl, hlt, p'⟩, fun x H' y => ?_⟩
    obtain ⟨e, y⟩ := y
    subst e
    exact hs i x σ _ (y xs q) p
  · have e : i = xs.length := by omega
    subst e
    exact .inl ⟨⟨xs, q, Nat.le_refl _⟩, hd σ H p⟩
theorem for_range {lo : Int} {n : Nat} {g : TG} {tb : TS} {D : Ends} {σ : St} {H : Hp} (Pv : Nat → St → Hp → Prop) (h0 : Pv 0 σ H)
    (hs : ∀ i σ H, i < n → Pv i σ H → g (.int (lo + i)) σ H fun σ2 H2 => tb { D with nx := Pv (i + 1), ct := Pv (i + 1), bk := D.nx } σ2 H2) (hd : ∀ σ H, Pv n σ H → D.nx σ H) :
    ∃ W : Nat → Nat → St → Hp → Prop, (∃ m, W 0 m σ H) ∧ ∀ i m σ H, W i m σ H →
      ((Itr lo n).stop i H ∧ D.nx σ H) ∨ ((Itr lo n).go i H ∧ ∃ N : St → Hp → Prop, (∀ σ' H', N σ' H' → ∃ m', m' < m ∧ W (i + 1) m' σ' H') ∧ ∀ x H', (Itr lo n).yld i H x H' → g x σ H' fun σ2 H2 => tb { D with nx := N, ct := N, bk := D.nx } σ2 H2) := by
  refine ⟨fun i m σ H => m = n - i ∧ i ≤ n ∧ Pv i σ H, ⟨n, by simp, Nat.zero_le _, h0⟩, ?_⟩
  rintro i m σ H ⟨rfl, hi, p⟩
  by_cases hlt : i < n
  · refine .inr ⟨hlt, Pv (i + 1), fun σ' H' p' => ⟨n - (i + 1), by omega, rfl, hlt, p'⟩, fun x H' y => ?_⟩
    obtain ⟨e, y⟩ := y
    subst e y
    exact hs i σ _ hlt p
  · have e : i = n := by omega
    subst e
    exact .inl ⟨Nat.le_refl _, hd σ H p⟩
end L2
namespace L2
open PySem PySem.Spec PyProof.Rows
abbrev R2 := V → V → Hp → VK → Prop
def OpR (X : Cx) (f : Value → Value → Sem Value) (r : R2) : Prop :=
  ∀ (pins : List (Addr × Obj)) (s : Shared) (σ : St) (H : Hp) (x y : V) (v u : Value) (Q : VK), Inv X pins σ H s → RelV x v → RelV y u → r x y H Q →
    wpAny (model X.prog X.w) X.A (f v u) (EP X pins σ Q) X.xe s
def UnR (X : Cx) (f : Value → Sem Value) (r : V → Hp → VK → Prop) : Prop :=
  ∀ (pins : List (Addr × Obj)) (s : Shared) (σ : St) (H : Hp) (x : V) (v : Value) (Q : VK), Inv X pins σ H s → RelV x v → r x H Q →
    wpAny (model X.prog X.w) X.A (f v) (EP X pins σ Q) X.xe s
def CallR (X : Cx) (f : Value) (r : List V → Hp → VK → Prop) : Prop :=
  ∀ (pins : List (Addr × Obj)) (s : Shared) (σ : St) (H : Hp) (xs : List V) (us : List Value) (Q : VK), Inv X pins σ H s → Vals xs us → r xs H Q →
    wpAny (model X.prog X.w) X.A (call f us) (EP X pins σ Q) X.xe s
def tOp (r : R2) (ta tb : TE) : TE := fun σ H Q => ta σ H fun x H1 => tb σ H1 fun y H2 => r x y H2 Q
def tUn (r : V → Hp → VK → Prop) (ta : TE) : TE := fun σ H Q => ta σ H fun x H1 => r x H1 Q
def rI (C : Int → Int → Prop) (g : Int → Int → V) : R2 := fun x y H Q => ∃ i j, x = .int i ∧ y = .int j ∧ C i j ∧ Q (g i j) H
def rI0 (g : Int → Int → V) : R2 := fun x y H Q => ∃ i j, x = .int i ∧ y = .int j ∧ Q (g i j) H
def rU (g : Int → V) : V → Hp → VK → Prop := fun x H Q => ∃ i, x = .int i ∧ Q (g i) H
section
variable {X : Cx} {a b c : Expr} {ta tb tc : TE} {pos : Pos}
theorem binT (ha : PE X a ta) (hb : PE X b tb) {pins : List (Addr × Obj)} {s : Shared} {σ : St} {H : Hp} {R : V → V → Hp → Prop} (I : Inv X pins σ H s)
    (h : ta σ H fun x H1 => tb σ H1 fun y H2 => R x y H2) {Q : Value → Shared → Prop} {f : Value → Value → Sem Value}
    (hf : ∀ v u s2 x y H2, Inv X pins σ H2 s2 → RelV x v → RelV y u → R x y H2 → wpAny (model X.prog X.w) X.A (f v u) Q X.xe s2) :
    wpAny (model X.prog X.w) X.A (eval a X.env) (fun v s₁ => wpAny (model X.prog X.w) X.A (eval b X.env) (fun u s₂ => wpAny (model X.prog X.w) X.A (f v u) Q X.xe s₂) X.xe s₁) X.xe s := by
  refine thn (ha pins s σ H _ I h) fun v s1 ⟨x, H1, I1, r1, q1⟩ => ?_
  refine thn (hb pins s1 σ H1 _ I1 q1) fun u s2 ⟨y, H2, I2, r2, q2⟩ => ?_
  exact hf v u s2 x y H2 I2 r1 r2 q2
theorem pe_op {op : Operator} {r : R2} (ho : OpR X (binaryOp op) r) (ha : PE X a ta) (hb : PE X b tb) : PE X (.BinOp a op b pos) (tOp r ta tb) := by
  intro pins s σ H Q I h
  exact wpAny_BinOp (binT ha hb I h fun v u s2 x y H2 I2 rx ry q => ho pins s2 σ H2 x y v u Q I2 rx ry q)
theorem pe_un {op : UnaryOp} {r : V → Hp → VK → Prop} (ho : UnR X (unaryOp op) r) (ha : PE X a ta) : PE X (.UnaryOp op a pos) (tUn r ta) := by
  intro pins s σ H Q I h
  exact UnaryOp_ (thn (ha pins s σ H _ I h) fun v s1 ⟨x, H1, I1, r1, q1⟩ => ho pins s1 σ H1 x v Q I1 r1 q1)
theorem opI {f : Value → Value → Sem Value} {C : Int → Int → Prop} {g : Int → Int → Int}
    (rule : ∀ (i j : Int) (t u : Tok) (s : Shared) (Q : Value → Shared → Prop) (E : Value → Shared → Prop), C i j → Q (.int (g i j) s.toks) { s with toks := s.toks + 1 } → wpAny (model X.prog X.w) X.A (f (.int i t) (.int j u)) Q E s) :
    OpR X f (rI C fun i j => .int (g i j)) := by
  intro pins s σ H x y v u Q I rx ry h
  obtain ⟨i, j, rfl, rfl, hc, q⟩ := h
  obtain ⟨t, rfl⟩ := rx
  obtain ⟨t', rfl⟩ := ry
  exact rule i j t t' s _ _ hc ⟨.int (g i j), H, I.tok _, ⟨_, rfl⟩, q⟩
theorem opI0 {f : Value → Value → Sem Value} {g : Int → Int → Int}
    (rule : ∀ (i j : Int) (t u : Tok) (s : Shared) (Q : Value → Shared → Prop) (E : Value → Shared → Prop), Q (.int (g i j) s.toks) { s with toks := s.toks + 1 } → wpAny (model X.prog X.w) X.A (f (.int i t) (.int j u)) Q E s) :
    OpR X f (rI0 fun i j => .int (g i j)) := by
  intro pins s σ H x y v u Q I rx ry h
  obtain ⟨i, j, rfl, rfl, q⟩ := h
  obtain ⟨t, rfl⟩ := rx
  obtain ⟨t', rfl⟩ := ry
  exact rule i j t t' s _ _ ⟨.int (g i j), H, I.tok _, ⟨_, rfl⟩, q⟩
def CMul (i j : Int) : Prop := (-(2 ^ 64) < i ∧ i < 2 ^ 64) ∨ (-(2 ^ 64) < j ∧ j < 2 ^ 64)
theorem CMul.ok {i j : Int} (h : CMul i j) : IntMulOk i j := by
  rcases h with ⟨h1, h2⟩ | ⟨h1, h2⟩
  · exact .of_left (intBits_le_64 h1 h2)
  · exact .of_right (intBits_le_64 h1 h2)
theorem op_add : OpR X (binaryOp .Add) (rI0 fun i j => .int (i + j)) := opI0 fun _ _ _ _ _ _ _ q => add_int q
theorem op_sub : OpR X (binaryOp .Sub) (rI0 fun i j => .int (i - j)) := opI0 fun _ _ _ _ _ _ _ q => sub_int q
theorem op_mul : OpR X (binaryOp .Mult) (rI CMul fun i j => .int (i * j)) := opI fun _ _ _ _ _ _ _ hc q => mul_int q hc.ok
theorem unI {f : Value → Sem Value} {g : Int → Int}
    (rule : ∀ (i : Int) (t : Tok) (s : Shared) (Q : Value → Shared → Prop) (E : Value → Shared → Prop), Q (.int (g i) s.toks) { s with toks := s.toks + 1 } → wpAny (model X.prog X.w) X.A (f (.int i t)) Q E s) :
    UnR X f (rU fun i => .int (g i)) := by
  intro pins s σ H x v Q I rx h
  obtain ⟨i, rfl, q⟩ := h
  obtain ⟨t, rfl⟩ := rx
  exact rule i t s _ _ ⟨.int (g i), H, I.tok _, ⟨_, rfl⟩, q⟩
theorem un_neg : UnR X (unaryOp .USub) (rU fun i => .int (-i)) := unI fun _ _ _ _ _ q => neg_int q
end
def scal : V → V → Bool
  | .non, .non => true | .non, .int _ => true | .int _, .non => true | .non, .bl _ => true | .bl _, .non => true | .non, .str _ => true | .str _, .non => true
  | .int _, .int _ => true | .bl _, .bl _ => true | .str _, .str _ => true | .byt _, .byt _ => true
  | .int _, .str _ => true | .str _, .int _ => true | .bl _, .str _ => true | .str _, .bl _ => true
  | _, _ => false
def rEq : R2 := fun x y H Q => scal x y = true ∧ Q (.bl (decide (x = y))) H
theorem dec_int {i j : Int} : decide (V.int i = V.int j) = (i == j) := by
  rw [Bool.eq_iff_iff]
  simp
theorem dec_bl {i j : Bool} : decide (V.bl i = V.bl j) = (i == j) := by
  rw [Bool.eq_iff_iff]
  simp
theorem dec_str {i j : Str} : decide (V.str i = V.str j) = (i == j) := by
  rw [Bool.eq_iff_iff]
  simp
theorem dec_byt {i j : Array UInt8} : decide (V.byt i = V.byt j) = (i.toList == j.toList) := by
  rw [Bool.eq_iff_iff]
  cases i
  cases j
  simp
section
variable {X : Cx} {a b c : Expr} {ta tb tc : TE} {pos : Pos}
theorem fin_bl {pins : List (Addr × Obj)} {σ : St} {H : Hp} {s : Shared} {Q : VK} {k k' : Bool} (I : Inv X pins σ H s) (q : Q (.bl k) H) (e : k = k') : EP X pins σ Q (.bool k') s := by
  subst e
  exact ⟨.bl k, H, I, rfl, q⟩
theorem op_eq : OpR X (compareOp .Eq) rEq := by
  intro pins s σ H x y v u Q I rx ry h
  obtain ⟨hs, q⟩ := h
  cases x with
  | non =>
    cases rx
    cases y with
    | non => cases ry; exact PySem.EqNone.eq_none_none (fin_bl I q (by simp))
    | bl j => cases ry; exact PySem.EqNone.eq_none_bool (fin_bl I q (by simp))
    | int j => obtain ⟨t', rfl⟩ := ry; exact PySem.EqNone.eq_none_int (fin_bl I q (by simp))
    | str j => obtain ⟨t', rfl⟩ := ry; exact PySem.EqNone.eq_none_str (fin_bl I q (by simp))
    | _ => exact absurd (show false = true from hs) Bool.false_ne_true
  | bl i =>
    cases rx
    cases y with
    | non => cases ry; exact PySem.EqNone.eq_bool_none (fin_bl I q (by simp))
    | bl j => cases ry; exact eq_bool (fin_bl I q dec_bl)
    | str j => obtain ⟨t', rfl⟩ := ry; exact PySem.EqMixed.eq_bool_str (fin_bl I q (by simp))
    | _ => exact absurd (show false = true from hs) Bool.false_ne_true
  | int i =>
    obtain ⟨t, rfl⟩ := rx
    cases y with
    | non => cases ry; exact PySem.EqNone.eq_int_none (fin_bl I q (by simp))
    | int j => obtain ⟨t', rfl⟩ := ry; exact eq_int (fin_bl I q dec_int)
    | str j => obtain ⟨t', rfl⟩ := ry; exact PySem.EqMixed.eq_int_str (fin_bl I q (by simp))
    | _ => exact absurd (show false = true from hs) Bool.false_ne_true
  | str i =>
    obtain ⟨t, rfl⟩ := rx
    cases y with
    | non => cases ry; exact PySem.EqNone.eq_str_none (fin_bl I q (by simp))
    | bl j => cases ry; exact PySem.EqMixed.eq_str_bool (fin_bl I q (by simp))
    | int j => obtain ⟨t', rfl⟩ := ry; exact PySem.EqMixed.eq_str_int (fin_bl I q (by simp))
    | str j => obtain ⟨t', rfl⟩ := ry; exact eq_str (fin_bl I q dec_str)
    | _ => exact absurd (show false = true from hs) Bool.false_ne_true
  | byt i =>
    obtain ⟨t, rfl⟩ := rx
    cases y with
    | byt j => obtain ⟨t', rfl⟩ := ry; exact PySem.W.eq_bytes (fin_bl I q dec_byt)
    | _ => exact absurd (show false = true from hs) Bool.false_ne_true
  | _ => cases y <;> exact absurd (show false = true from hs) Bool.false_ne_true
theorem OpR.or {f : Value → Value → Sem Value} {r r' : R2} (h : OpR X f r) (h' : OpR X f r') : OpR X f (fun x y H Q => r x y H Q ∨ r' x y H Q) := by
  intro pins s σ H x y v u Q I rx ry q
  rcases q with q | q
  · exact h pins s σ H x y v u Q I rx ry q
  · exact h' pins s σ H x y v u Q I rx ry q
theorem nomark (b : Expr) {op : CmpOp} (h : op ≠ .In := by decide) (h2 : op ≠ .NotIn := by decide) : behindInMarks op b = false := by
  have e1 : (op == CmpOp.In) = false := by cases op <;> first | rfl | exact absurd rfl h
  have e2 : (op == CmpOp.NotIn) = false := by cases op <;> first | rfl | exact absurd rfl h2
  cases b <;> simp [behindInMarks, e1, e2]
theorem pe_cmpR {op : CmpOp} {r : R2} (ho : OpR X (compareOp op) r) (ha : PE X a ta) (hb : PE X b tb) (hm : behindInMarks op b = false) : PE X (.Compare a [op] [b] pos) (tOp r ta tb) := by
  intro pins s σ H Q I h
  exact wpAny_Compare1 (binT ha hb I h fun v u s2 x y H2 I2 rx ry q => ho pins s2 σ H2 x y v u Q I2 rx ry q) hm
theorem line63 : (sizeLine : Nat) < 2 ^ 63 := by rw [sizeLine_eq]; decide
theorem vals1 {x : V} {us : List Value} (r : Vals [x] us) : ∃ u, us = [u] ∧ RelV x u := by
  cases r with
  | cons r1 r2 => cases r2; exact ⟨_, rfl, r1⟩
theorem vals2 {x y : V} {us : List Value} (r : Vals [x, y] us) : ∃ u w', us = [u, w'] ∧ RelV x u ∧ RelV y w' := by
  cases r with
  | cons r1 r2 =>
    cases r2 with
    | cons r3 r4 => cases r4; exact ⟨_, _, rfl, r1, r3⟩
theorem call_max2 (hc : X.calm = true) : CallR X (.builtin "max") (fun xs H Q => ∃ i j, xs = [.int i, .int j] ∧ Q (.int (if j > i then j else i)) H) := by
  intro pins s σ H xs us Q I r h
  obtain ⟨i, j, rfl, q⟩ := h
  obtain ⟨u, w', rfl, ⟨t, rfl⟩, ⟨t', rfl⟩⟩ := vals2 r
  refine max_two_ints (I.ok.hd hc) fun h' tk k => ⟨_, H, I.kept k, ?_, q⟩
  by_cases hj : j > i
  · rw [if_pos hj, if_pos hj]; exact ⟨_, rfl⟩
  · rw [if_neg hj, if_neg hj]; exact ⟨_, rfl⟩
theorem call_min2 (hc : X.calm = true) : CallR X (.builtin "min") (fun xs H Q => ∃ i j, xs = [.int i, .int j] ∧ Q (.int (if j < i then j else i)) H) := by
  intro pins s σ H xs us Q I r h
  obtain ⟨i, j, rfl, q⟩ := h
  obtain ⟨u, w', rfl, ⟨t, rfl⟩, ⟨t', rfl⟩⟩ := vals2 r
  refine min_two_ints (I.ok.hd hc) fun h' tk k => ⟨_, H, I.kept k, ?_, q⟩
  by_cases hj : j < i
  · rw [if_pos hj, if_pos hj]; exact ⟨_, rfl⟩
  · rw [if_neg hj, if_neg hj]; exact ⟨_, rfl⟩
end
end L2
namespace L2
open PySem PySem.Spec PyProof.Rows
structure ObjM (h : Heap) (x dx C : Addr) (mA : Str → Option Value) : Prop where
  obj : h.get? x = some (PySem.W.instObj C dx)
  ns : h.Ns1 dx mA
  ne : dx ≠ x
theorem lookIn_ns {h : Heap} {dx : Addr} {mA : Str → Option Value} (n : h.Ns1 dx mA) : ∃ od, h.get? dx = some od ∧ ∀ name, PySem.W.lookIn name od = some (mA name) := by
  obtain ⟨o, es, ep, ho, hd, hk, _, hm⟩ := n
  refine ⟨o, ho, fun name => ?_⟩
  have e := hm name
  unfold nsFind findBy at e
  rw [← Array.find?_toList] at e
  unfold PySem.W.lookIn
  rw [hd]
  dsimp only
  split
  · rename_i y q
    rw [q] at e
    exact congrArg some e
  · rename_i q
    rw [q] at e
    have a : es.toList.any (·.refKey) = false := by
      rw [List.any_eq_false]
      intro y hy
      obtain ⟨z, t, hkey⟩ := hk y (Array.mem_toList_iff.mp hy)
      simp [DictEntry.refKey, hkey]
    have a' : ¬ es.toList.any (·.refKey) = true := by rw [a]; exact Bool.false_ne_true
    rw [if_neg a']
    exact congrArg some e
theorem ObjM.look {h : Heap} {x dx C : Addr} {mA : Str → Option Value} (I : ObjM h x dx C mA) : ∃ od, PySem.W.InstAt h x (PySem.W.instObj C dx) C (some od) ∧ ∀ name, PySem.W.lookIn name od = some (mA name) :=
  let ⟨od, ho, hl⟩ := lookIn_ns I.ns
  ⟨od, ⟨I.obj, rfl, rfl, ho⟩, hl⟩
section
variable {prog : Program} {w : World} {A : Around} {E : Value → Shared → Prop} {s : Shared} {K : PySem.W.Frag} {x dx C f : Addr} {mA : Str → Option Value} {name : Str} {v : Value}
theorem get_map {expr : Bool} {Q : Value → Shared → Prop} (X : K.In s.heap) (I : ObjM s.heap x dx C mA) (hg : PySem.W.plainGet K C name = true) (hh : PySem.W.hasDictIn K C = true)
    (ha : PySem.W.findIn K (.ref C) name = some none) (hv : mA name = some v) (hv' : PySem.W.handedIn v = true) (h : Q v { s with toks := s.toks + 1 }) :
    wpAny (model prog w) A (getAttr (.ref x) name expr) Q E s := by
  obtain ⟨od, J, hl⟩ := I.look
  exact PySem.W.get_value X J (PySem.W.plainGet_of hg).1 (PySem.W.findObj_own hh ha rfl (by rw [hl, hv])) hv' h
theorem get_meth {pl : Sem Bool} {Q : Value × List Value → Shared → Prop} (X : K.In s.heap) (I : ObjM s.heap x dx C mA) (hg : PySem.W.plainGet K C name = true)
    (hf : PySem.W.findIn K (.ref C) name = some (some (.ref f))) (ht : PySem.W.isFn K (.ref f) = true) (hv : mA name = none) (h : Q (.ref f, [.ref x]) s) :
    wpAny (model prog w) A (getMethod (.ref x) name pl) Q E s := by
  obtain ⟨od, J, hl⟩ := I.look
  exact PySem.W.method_fn X J (PySem.W.plainGet_of hg).1 (PySem.W.plainGet_of hg).2 hf (beq_iff_eq.mp ht) (by show (PySem.W.lookIn name od).map (·.isSome) = some false; rw [hl, hv]; rfl) h
theorem set_map {ns : List Str} {Q : Unit → Shared → Prop} (X : K.In s.heap) (I : ObjM s.heap x dx C mA)
    (hs : PySem.W.findIn K (.ref C) "__setattr__" = some (some (.builtin "object.__setattr__"))) (hp : PySem.W.plainOver K C = true) (ht : PySem.W.takerIn K C name = some none) (hh : PySem.W.hasDictIn K C = true)
    (hw : PySem.Within mA ns) (hsz : ns.length ≤ sizeLine)
    (h : ∀ h', ObjM h' x dx C (fun y => if y = name then some v else mA y) → Heap.SameBut dx s.heap h' → Q () { s with heap := h', toks := s.toks + 2 }) :
    wpAny (model prog w) A (setAttr (.ref x) name v) Q E s := by
  obtain ⟨od, J, hl⟩ := I.look
  refine PySem.W.set_plain X J hs (PySem.W.osa_open (s := { s with toks := s.toks + 1 }) (r := none) X J hp ht fun b => ?_)
  obtain ⟨cd, hc, hd'⟩ := PySem.W.any_some hh
  have hx : s.heap.get? x = some ⟨.ref C, some dx, .plain, #[]⟩ := I.obj
  refine wpAny_bind (wpAny_pure (wpAny_bind (wpAny_bind (wpAny_loadPart hx (wpAny_bind (PySem.W.Looks.here (s := { s with toks := s.toks + 1 }) (PySem.W.looks_clsIn X hc) ?_))))))
  rw [hd']
  refine wpAny_pure (a := some dx) (wpAny_bind (wpAny_pure (wpAny_bind ?_)))
  refine wpAny_nsSet1 (s := { s with toks := s.toks + 1 }) I.ns fun h' hn2 hs2 => ?_
  obtain ⟨oD, esD, epD, hoD, hdD, hcD⟩ := hn2.count (PySem.Within.cons name v hw)
  refine wpAny_bind (wpAny_lookBehind hoD (by rw [hdD]; exact pastItsLine_dict (Nat.le_trans hcD (by rw [List.length_cons]; omega))) ?_)
  exact wpAny_pure (h _ ⟨(hs2.2 _ (Ne.symm I.ne)).trans I.obj, hn2, I.ne⟩ hs2)
theorem make_map {R : Result → Shared → Prop} {vs : List Value} {kw : List (Str × Value)} (X : K.In s.heap) (hm : PySem.W.makesIn K C = true)
    (hi : PySem.W.findIn K (.ref C) "__init__" = some (some (.ref f))) (hf : PySem.W.typeIn K (.ref f) = some (.type "function"))
    (h : codeAny (model prog w) (A.under (.builtin "type.__call__" ⟨.ref C :: vs, kw⟩)) (.call (.ref f) ⟨.ref (s.heap.objs.size + 1) :: vs, kw⟩) (PySem.W.InitBack (s.heap.objs.size + 1) R)
      { s with heap := (s.heap.push PySem.W.emptyDict).push (PySem.W.instObj C s.heap.objs.size) }) :
    codeAny (model prog w) A (.call (.ref C) ⟨vs, kw⟩) R s := by
  obtain ⟨hh, g, d, t, os⟩ := s
  exact PySem.W.make_core (PySem.W.makes_of X hm) (PySem.W.looks_findIn X hi) (fun self => PySem.W.bind_fn X self hf) (.inl rfl) h
end
def putF (f : Str) (v : V) : List (Str × V) → List (Str × V)
  | [] => [(f, v)]
  | (g, x) :: r => if g = f then (g, v) :: r else (g, x) :: putF f v r
theorem lookup_putF (f g : Str) (v : V) : ∀ fs : List (Str × V), (putF f v fs).lookup g = if g = f then some v else fs.lookup g
  | [] => by
    show List.lookup g [(f, v)] = _
    by_cases h : g = f
    · have hb : (g == f) = true := beq_iff_eq.mpr h
      simp only [List.lookup, hb, if_pos h]
    · have hb : (g == f) = false := beq_eq_false_iff_ne.mpr h
      simp only [List.lookup, hb, if_neg h]
  | (k, x) :: r => by
    have ih := lookup_putF f g v r
    rw [show putF f v ((k, x) :: r) = (if k = f then (k, v) :: r else (k, x) :: putF f v r) from rfl]
    by_cases hk : k = f
    · rw [if_pos hk]
      by_cases h : g = k
      · have hb : (g == k) = true := beq_iff_eq.mpr h
        simp only [List.lookup, hb, if_pos (h.trans hk)]
      · have hb : (g == k) = false := beq_eq_false_iff_ne.mpr h
        simp only [List.lookup, hb, if_neg (fun e : g = f => h (e.trans hk.symm))]
    · rw [if_neg hk]
      by_cases h : g = k
      · have hb : (g == k) = true := beq_iff_eq.mpr h
        simp only [List.lookup, hb, if_neg (fun e : g = f => hk (h.symm.trans e))]
      · have hb : (g == k) = false := beq_eq_false_iff_ne.mpr h
        simp only [List.lookup, hb]
        exact ih
theorem keys_putF (f : Str) (v : V) : ∀ fs : List (Str × V), f ∈ (putF f v fs).map (·.1) ∧ ∀ g, g ∈ fs.map (·.1) → g ∈ (putF f v fs).map (·.1)
  | [] => ⟨by simp [putF], fun g h => by simp at h⟩
  | (k, x) :: r => by
    obtain ⟨i1, i2⟩ := keys_putF f v r
    rw [show putF f v ((k, x) :: r) = (if k = f then (k, v) :: r else (k, x) :: putF f v r) from rfl]
    by_cases hk : k = f
    · rw [if_pos hk]
      subst hk
      exact ⟨by simp, fun g h => by simpa using h⟩
    · rw [if_neg hk]
      refine ⟨?_, fun g h => ?_⟩
      · rw [List.map_cons]
        exact List.mem_cons_of_mem _ i1
      · rw [List.map_cons] at h ⊢
        rcases List.mem_cons.mp h with e | e
        · exact List.mem_cons.mpr (.inl e)
        · exact List.mem_cons_of_mem _ (i2 g e)
theorem length_putF (f : Str) (v : V) : ∀ fs : List (Str × V), (putF f v fs).length ≤ fs.length + 1
  | [] => by simp [putF]
  | (k, x) :: r => by
    have ih := length_putF f v r
    rw [show putF f v ((k, x) :: r) = (if k = f then (k, v) :: r else (k, x) :: putF f v r) from rfl]
    by_cases hk : k = f
    · rw [if_pos hk, List.length_cons, List.length_cons]; omega
    · rw [if_neg hk, List.length_cons, List.length_cons]; omega
theorem RelO.some_of {v : V} {o : Option Value} (r : RelO (some v) o) : ∃ u, o = some u ∧ RelV v u := by
  cases o with
  | none => exact (show False from r).elim
  | some u => exact ⟨u, rfl, r⟩
theorem RelO.none_of {o : Option Value} (r : RelO none o) : o = none := by
  cases o with
  | none => rfl
  | some u => exact (show False from r).elim
theorem handed_of {v : V} {u : Value} (r : RelV v u) : PySem.W.handedIn u = true := by
  cases v with
  | non => cases (show u = Value.none from r); rfl
  | bl b => cases (show u = Value.bool b from r); rfl
  | int i => obtain ⟨t, e⟩ := (show ∃ t, u = Value.int i t from r); cases e; rfl
  | str x => obtain ⟨t, e⟩ := (show ∃ t, u = Value.str x t from r); cases e; rfl
  | byt b => obtain ⟨t, e⟩ := (show ∃ t, u = Value.bytes b t from r); cases e; rfl
  | flt b => obtain ⟨t, e⟩ := (show ∃ t, u = Value.float b t from r); cases e; rfl
  | ref a => cases (show u = Value.ref a from r); rfl
  | ty n => cases (show u = Value.type n from r); rfl
section
variable {P : Program} {w : World} {H H' : Hp} {h h' : Heap} {a C dx : Addr} {fs fs' : List (Str × V)}
theorem ins_get (hok : HOk P w H h) (e : H a = some (.ins C dx fs)) : ∃ mA, ObjM h a dx C mA ∧ (∀ f, RelO (fs.lookup f) (mA f)) ∧ PySem.Within mA (fs.map (·.1)) ∧ fs.length ≤ 1000 ∧ H dx = some (.own a) := by
  obtain ⟨d, z, ne, ob, mA, n, r, q⟩ := (show ObjOk P w H h a (.ins C dx fs) from hok a _ e)
  exact ⟨mA, ⟨ob, n, ne⟩, r, q, z, d⟩
end
structure Cls (K : PySem.W.Frag) (C : Addr) : Prop where
  pg : PySem.W.plainGet K C Str.empty = true
  hd : PySem.W.hasDictIn K C = true
  po : PySem.W.plainOver K C = true
  sa : PySem.W.findIn K (.ref C) "__setattr__" = some (some (.builtin "object.__setattr__"))
theorem Cls.get {K : PySem.W.Frag} {C : Addr} (c : Cls K C) (f : Str) : PySem.W.plainGet K C f = true := c.pg
def NoAttr (K : PySem.W.Frag) (C : Addr) (f : Str) : Prop := PySem.W.findIn K (.ref C) f = some none
theorem NoAttr.taker {K : PySem.W.Frag} {C : Addr} {f : Str} (n : NoAttr K C f) : PySem.W.takerIn K C f = some none := by
  unfold PySem.W.takerIn
  rw [show PySem.W.findIn K (.ref C) f = some none from n]
  rfl
structure Con (K : PySem.W.Frag) (C : Addr) (f : Str) (v : V) (u : Value) : Prop where
  at_ : PySem.W.findIn K (.ref C) f = some (some u)
  rel : RelV v u
  get : PySem.W.specialIn K u "__get__" = some none
  cp : PySem.W.copiedNames.contains f = false
structure Meth (K : PySem.W.Frag) (C : Addr) (m : Str) (f : Addr) : Prop where
  at_ : PySem.W.findIn K (.ref C) m = some (some (.ref f))
  fn : PySem.W.isFn K (.ref f) = true
  kp : PySem.W.keepIn K (.ref f) = true
section
variable {X : Cx} {pins : List (Addr × Obj)} {σ : St} {H : Hp} {s : Shared} {a C dx : Addr} {fs : List (Str × V)} {f : Str} {v : V} {A : Around} {E : Value → Shared → Prop}
theorem getattr_ok {b : Bool} {Q : Value → Shared → Prop} (I : Inv X pins σ H s) (e : H a = some (.ins C dx fs)) (c : Cls X.K C) (n : NoAttr X.K C f) (l : fs.lookup f = some v)
    (h : ∀ u s', Inv X pins σ H s' → RelV v u → Q u s') : wpAny (model X.prog X.w) A (getAttr (.ref a) f b) Q E s := by
  obtain ⟨mA, O, r, _, _, _⟩ := ins_get I.hok e
  obtain ⟨u, hu, ru⟩ := RelO.some_of (v := v) (o := mA f) (by rw [← l]; exact r f)
  exact get_map I.kIn O (c.get f) c.hd n hu (handed_of ru) (h u _ (I.tok _) ru)
theorem getmeth_ok {m : Str} {g : Addr} {pl : Sem Bool} {Q : Value × List Value → Shared → Prop} (I : Inv X pins σ H s) (e : H a = some (.ins C dx fs)) (c : Cls X.K C) (k : Meth X.K C m g) (l : fs.lookup m = none)
    (h : Q (.ref g, [.ref a]) s) : wpAny (model X.prog X.w) A (getMethod (.ref a) m pl) Q E s := by
  obtain ⟨mA, O, r, _, _, _⟩ := ins_get I.hok e
  have hn : mA m = none := RelO.none_of (by rw [← l]; exact r m)
  exact get_meth I.kIn O (c.get m) k.at_ k.fn hn h
theorem setattr_ok {y : V} {u : Value} {Q : Unit → Shared → Prop} (I : Inv X pins σ H s) (e : H a = some (.ins C dx fs)) (c : Cls X.K C) (n : NoAttr X.K C f) (hl : fs.length < 1000) (ry : RelV y u)
    (h : ∀ s', Inv X pins σ (upd H a (.ins C dx (putF f y fs))) s' → Q () s') : wpAny (model X.prog X.w) A (setAttr (.ref a) f u) Q E s := by
  obtain ⟨mA, O, r, wi, _, ho⟩ := ins_get I.hok e
  have hz : (fs.map (·.1)).length ≤ sizeLine := by rw [List.length_map, sizeLine_eq]; omega
  refine set_map I.kIn O c.sa c.po n.taker c.hd wi hz fun h' O' sb => h _ ?_
  have hd : ∃ o, h'.get? dx = some o := let ⟨o, _, _, e', _⟩ := O'.ns; ⟨o, e'⟩
  refine I.write (x := a) (e := dx) (by rw [e]; exact True.intro) (.inr ho) (fun b q hb z => (sb.2 b hb).trans z) hd ?_
  refine ⟨by rw [upd_ne O.ne]; exact ho, ?_, O.ne, O'.obj, _, O'.ns, fun g => ?_, fun g hg => ?_⟩
  · have := length_putF f y fs; omega
  · show RelO ((putF f y fs).lookup g) (if g = f then some u else mA g)
    rw [lookup_putF]
    by_cases q : g = f
    · rw [if_pos q, if_pos q]; exact ry
    · rw [if_neg q, if_neg q]; exact r g
  · by_cases q : g = f
    · rw [q]; exact (keys_putF f y fs).1
    · refine (keys_putF f y fs).2 g (wi g fun z => hg ?_)
      show (if g = f then some u else mA g) = none
      rw [if_neg q]; exact z
theorem Inv.made (I : Inv X pins σ H s) : Inv X pins σ (upd (upd H s.heap.objs.size (.own (s.heap.objs.size + 1))) (s.heap.objs.size + 1) (.ins C s.heap.objs.size []))
    { s with heap := (s.heap.push PySem.W.emptyDict).push (PySem.W.instObj C s.heap.objs.size) } := by
  have e1 : (s.heap.push PySem.W.emptyDict).get? s.heap.objs.size = some PySem.W.emptyDict := Heap.get?_push_size s.heap rfl
  have e2 : ((s.heap.push PySem.W.emptyDict).push (PySem.W.instObj C s.heap.objs.size)).get? (s.heap.objs.size + 1) = some (PySem.W.instObj C s.heap.objs.size) := by
    have := Heap.get?_push_size (s.heap.push PySem.W.emptyDict) (o := PySem.W.instObj C s.heap.objs.size) rfl
    rwa [Heap.size_push] at this
  have e3 : (s.heap.push PySem.W.emptyDict).Ns s.heap.objs.size (fun _ => none) := ⟨PySem.W.emptyDict, #[], _, e1, rfl, (fun e he => absurd he (by simp)), fun _ => rfl⟩
  have I1 := I.laid (a := s.heap.objs.size) (o := .own (s.heap.objs.size + 1)) (h' := s.heap.push PySem.W.emptyDict) (t' := s.toks) (fun b u q => Heap.get?_push_of_some _ q) (Nat.le_refl _) ⟨_, e1⟩
  refine I1.laid (a := s.heap.objs.size + 1) (o := .ins C s.heap.objs.size []) (t' := s.toks) (fun b u q => Heap.get?_push_of_some _ q) (Nat.le_of_eq (Heap.size_push _ _)) ?_
  have ne : s.heap.objs.size ≠ s.heap.objs.size + 1 := Nat.ne_of_lt (Nat.lt_succ_self _)
  refine ⟨by rw [upd_ne ne, upd_same], Nat.zero_le _, ne, e2, fun _ => none, (Heap.Ns1.of_empty e3).at fun o q => Heap.get?_push_of_some _ q, fun _ => True.intro, fun y hy => absurd rfl hy⟩
theorem attr_of {prog : Program} {w : World} {env : Env} {e : Expr} {f : Str} {pos : Pos} {s : Shared} {Q : Value → Shared → Prop} (hb : attributeBase e f env (eval e env) = eval e env)
    (h : wpAny (model prog w) A (eval e env) (fun o s₁ => wpAny (model prog w) A (getAttr o f true) Q E s₁) E s) : wpAny (model prog w) A (eval (.Attribute e f pos) env) Q E s :=
  Attribute_any_ h (by rw [arm_eval_Attribute, hb])
end
def tFld (K : PySem.W.Frag) (ta : TE) (f : Str) : TE := fun σ H Q => ta σ H fun x H1 => ∃ a C dx fs v, x = .ref a ∧ H1 a = some (.ins C dx fs) ∧ Cls K C ∧ NoAttr K C f ∧ fs.lookup f = some v ∧ Q v H1
def sFld (K : PySem.W.Frag) (ta tv : TE) (f : Str) : TS := fun D σ H => tv σ H fun y H1 => ta σ H1 fun x H2 => ∃ a C dx fs, x = .ref a ∧ H2 a = some (.ins C dx fs) ∧ Cls K C ∧ NoAttr K C f ∧ fs.length < 1000 ∧
  D.nx σ (upd H2 a (.ins C dx (putF f y fs)))
section
variable {X : Cx} {o e value : Expr} {f : Str} {pos pos' tpos : Pos} {ta tv : TE}
theorem pe_fld (he : PE X e ta) (hb : attributeBase e f X.env (eval e X.env) = eval e X.env) : PE X (.Attribute e f pos) (tFld X.K ta f) := by
  intro pins s σ H Q I h
  refine attr_of hb (thn (he pins s σ H _ I h) fun u s1 ⟨x, H1, I1, rx, a, C, dx, fs, v, ex, ea, c, n, l, q⟩ => ?_)
  subst ex
  obtain rfl : u = Value.ref a := rx
  exact getattr_ok I1 ea c n l fun u' s2 I2 ru => ⟨v, H1, I2, ru, q⟩
theorem ps_fld (ha : PE X o ta) (hv : PE X value tv) (hs : swapsWith value (some (.Attribute o f pos')) pos.line X.env = pure false) : PS X (.Assign [.Attribute o f pos'] value pos) (sFld X.K ta tv f) := by
  intro pins s σ H D I h
  refine plainObj_wpAny_Assign_Attribute (thn (hv pins s σ H _ I h) fun u s1 ⟨y, H1, I1, ry, q⟩ => thn (ha pins s1 σ H1 _ I1 q) fun ov s2 ⟨x, H2, I2, rx, a, C, dx, fs, ex, ea, c, n, l, q2⟩ => ?_) hs
  subst ex
  obtain rfl : ov = Value.ref a := rx
  exact setattr_ok I2 ea c n l ry fun s3 I3 => ⟨σ, _, I3, q2⟩
end
section
variable {X : Cx} {pins : List (Addr × Obj)} {σ : St} {H : Hp} {s : Shared} {A : Around} {E : Value → Shared → Prop} {Q : Value → Shared → Prop} {c : Value} {b : Bool}
inductive TyOf (K : PySem.W.Frag) (H : Hp) : V → Value → Prop where
  | non : TyOf K H .non (.type "NoneType")
  | bl (x : Bool) : TyOf K H (.bl x) (.type "bool")
  | int (i : Int) : TyOf K H (.int i) (.type "int")
  | str (x : Str) : TyOf K H (.str x) (.type "str")
  | flt (x : UInt64) : TyOf K H (.flt x) (.type "float")
  | lst {a : Addr} {xs : List V} (e : H a = some (.lst xs)) : TyOf K H (.ref a) (.type "list")
  | frz {a : Addr} {o : Obj} {xs : List V} (e : H a = some (.frz o (.lst xs))) : TyOf K H (.ref a) (.type "list")
  | tup {a : Addr} {xs : List V} (e : H a = some (.tup xs)) : TyOf K H (.ref a) (.type "tuple")
  | dK {a : Addr} {kvs : List (Key × V)} (e : H a = some (.dK kvs)) : TyOf K H (.ref a) (.type "dict")
  | dT {a : Addr} {kvs : List (List Key × V)} (e : H a = some (.dT kvs)) : TyOf K H (.ref a) (.type "dict")
  | ins {a C dx : Addr} {fs : List (Str × V)} (e : H a = some (.ins C dx fs)) (cl : Cls K C) (ha : PySem.W.findIn K (.ref C) "__class__" = some (some (.builtin "object.__class__")))
      (hn : PySem.W.specialIn K (.builtin "object.__class__") "__get__" = some (some (.builtin "getset_descriptor.__get__"))) (htk : PySem.W.takesIn K (.builtin "object.__class__") = some true)
      (hm : PySem.W.mroIn K C (.type "object") = some true) : TyOf K H (.ref a) (.ref C)
end
end L2
namespace L2
open PySem PySem.Spec PyProof.Rows
structure Room (k : Nat) (A : Around) : Prop where
  hd : A.handled = none
  dp : A.depth + 3 * k + 5 < recursionLimit
  un : A.units + 16 * k + 200 < cLine
theorem Room.mono {j k : Nat} {A : Around} (r : Room k A) (h : j ≤ k) : Room j A := ⟨r.hd, by have := r.dp; omega, by have := r.un; omega⟩
theorem Room.deeper {k : Nat} {A : Around} (r : Room (k + 1) A) (env : Env) : Room k (A.deeper env) :=
  ⟨r.hd, by have := r.dp; show A.depth + 1 + 3 * k + 5 < _; omega, by have := r.un; show A.units + 3 + 16 * k + 200 < _; omega⟩
theorem Room.in1 {k : Nat} {A : Around} (r : Room (k + 1) A) : Room k A.in1 :=
  ⟨r.hd, by have := r.dp; show A.depth + 3 * k + 5 < _; omega, by have := r.un; show A.units + 1 + 16 * k + 200 < _; omega⟩
theorem make_depth {A : Around} {C : Addr} {us : List Value} {kw : List (Str × Value)} : (A.under (.builtin "type.__call__" ⟨.ref C :: us, kw⟩)).depth = A.depth + 1 := by
  first | rfl | simp [Around.under, Code.weight, Code.isCreation, Code.isGuard, Code.isCaller, Code.frames, Code.isFrame, guardIds]
theorem make_units {A : Around} {C : Addr} {us : List Value} {kw : List (Str × Value)} : (A.under (.builtin "type.__call__" ⟨.ref C :: us, kw⟩)).units = A.units + 1 := by
  first | rfl | simp [Around.under, Code.cUnits, Code.frames, Code.isFrame]
theorem Room.make {k : Nat} {A : Around} (r : Room (k + 1) A) (C : Addr) (us : List Value) (kw : List (Str × Value)) : Room k (A.under (.builtin "type.__call__" ⟨.ref C :: us, kw⟩)) :=
  ⟨r.hd, by have := r.dp; rw [make_depth]; omega, by have := r.un; rw [make_units]; omega⟩
theorem Room.depth {k : Nat} {A : Around} (r : Room k A) : A.depth < recursionLimit := by have := r.dp; omega
theorem Room.units {k : Nat} {A : Around} (r : Room k A) : A.units + 64 < cLine := by have := r.un; omega
def tNil : TA := fun _ H Q => Q [] H
def tCons (ta : TE) (tr : TA) : TA := fun σ H Q => ta σ H fun x H1 => tr σ H1 fun xs H2 => Q (x :: xs) H2
section
variable {X : Cx} {e : Expr} {es : List Expr} {te : TE} {t : TA} {pos : Pos}
theorem pa_nil : PA X [] tNil := fun _ _ _ _ H Q I h => Calls.spliced_nil ⟨[], H, I, .nil, h⟩
theorem pa_cons (ha : PE X e te) (hr : PA X es t) (hs : starEach (e :: es) X.env = (false, eval e X.env) :: starEach es X.env := by rfl) : PA X (e :: es) (tCons te t) := by
  intro pos pins s σ H Q I h
  rw [hs]
  show wpAny _ _ (spliced ((false, eval e X.env) :: backTo pos (starEach es X.env))) _ _ s
  refine Calls.spliced_cons (thn (ha pins s σ H _ I h) fun u s1 ⟨x, H1, I1, r1, q1⟩ => ?_)
  exact thn (hr pos pins s1 σ H1 _ I1 q1) fun us s2 ⟨xs, H2, I2, r2, q2⟩ => ⟨x :: xs, H2, I2, .cons r1 r2, q2⟩
def tTup (t : TA) : TE := fun σ H Q => t σ H fun xs H1 => xs.length ≤ sizeLine ∧ ∀ p, H1 p = none → Q (.ref p) (upd H1 p (.tup xs))
def tLst (t : TA) : TE := fun σ H Q => t σ H fun xs H1 => xs.length ≤ sizeLine ∧ ∀ p, H1 p = none → Q (.ref p) (upd H1 p (.lst xs))
theorem pe_tup {x1} (h : PA X es t) : PE X (.Tuple es x1 pos) (tTup t) := by
  intro pins s σ H Q I hq
  refine wpAny_Tuple_spliced (thn (h pos pins s σ H _ I hq) fun us s1 ⟨xs, H1, I1, r, z, q⟩ => ⟨by rw [← r.length]; exact z, ?_⟩)
  have hf : H1 s1.heap.objs.size = none := I1.hok.fresh (Nat.le_refl _)
  refine ⟨.ref s1.heap.objs.size, upd H1 s1.heap.objs.size (.tup xs), I1.laid (t' := s1.toks) (fun b u e => Heap.get?_push_of_some _ e) (Nat.le_refl _) ?_, rfl, q _ hf⟩
  exact ⟨z, us, r, ⟨_, Heap.get?_push_size _ rfl, rfl, _, rfl⟩⟩
theorem pe_lst (h : PA X es t) : PE X (.List es pos) (tLst t) := by
  intro pins s σ H Q I hq
  refine wpAny_List_spliced (thn (h pos pins s σ H _ I hq) fun us s1 ⟨xs, H1, I1, r, z, q⟩ => ⟨by rw [← r.length]; exact z, ?_⟩)
  have hf : H1 s1.heap.objs.size = none := I1.hok.fresh (Nat.le_refl _)
  refine ⟨.ref s1.heap.objs.size, upd H1 s1.heap.objs.size (.lst xs), I1.laid (t' := s1.toks) (fun b u e => Heap.get?_push_of_some _ e) (Nat.le_refl _) ?_, rfl, q _ hf⟩
  exact ⟨z, us, 0, r, Heap.get?_push_size _ rfl⟩
end
abbrev Sp := List V → Hp → VK → XK → Prop
abbrev CXT := List Env → Hp → Shared → XK → Value → Shared → Prop
structure Env0 (P : Program) (w : World) (K : PySem.W.Frag) (mg : Str → Option Value) (base : Heap) (A : Around) (outer : List Env) (s : Shared) (H : Hp) : Prop where
  frames : A.frames = some outer
  mod : Mod K mg base
  bs : ∀ b o, base.get? b = some o → s.heap.get? b = some o ∧ H b = none
  bsz : base.objs.size ≤ s.heap.objs.size
  funs : s.heap.FunFrames base outer
  frf : ∀ b ∈ frs outer, H b = none
  hok : HOk P w H s.heap
  bare : AllBare s.gens
def CE (outer : List Env) (P : Program) (w : World) (H : Hp) (s : Shared) (Q : VK) (u : Value) (s' : Shared) : Prop :=
  ∃ v H', s'.os = s.os ∧ AllBare s'.gens ∧ Un (frs outer) [] H H' s.heap s'.heap ∧ HOk P w H' s'.heap ∧ RelV v u ∧ Q v H'
def CR (CX : CXT) (outer : List Env) (P : Program) (w : World) (H : Hp) (s : Shared) (Q : VK) (E : XK) (r : Result) (s' : Shared) : Prop :=
  match r with
  | .ok (.ret u) => CE outer P w H s Q u s'
  | .ok _ => False
  | .error e => CX outer H s E e s'
structure FnOk (P : Program) (w : World) (K : PySem.W.Frag) (mg : Str → Option Value) (base : Heap) (CX : CXT) (k : Nat) (f : Addr) (fd : FuncData) (ps : List Str) (sp : Sp) : Prop where
  len : ∀ vs H Q E, sp vs H Q E → vs.length = ps.length
  run : ∀ (A : Around) (outer : List Env) (s : Shared) (H : Hp) (args : Args) (us : List Value) (vs : List V) (Q : VK) (E : XK), Room k A → Env0 P w K mg base A outer s H → BindsTo s fd args (ps.zip us) → Vals vs us → sp vs H Q E →
    codeAny (model P w) A (.call (.ref f) args) (CR CX outer P w H s Q E) s
theorem FnOk.mono {P : Program} {w : World} {K : PySem.W.Frag} {mg : Str → Option Value} {base : Heap} {CX : CXT} {j k : Nat} {f : Addr} {fd : FuncData} {ps : List Str} {sp : Sp} (F : FnOk P w K mg base CX j f fd ps sp) (h : j ≤ k) :
    FnOk P w K mg base CX k f fd ps sp := ⟨F.len, fun A outer s H args us vs Q E hr => F.run A outer s H args us vs Q E (hr.mono h)⟩
theorem FnOk.imp {P : Program} {w : World} {K : PySem.W.Frag} {mg : Str → Option Value} {base : Heap} {CX : CXT} {k : Nat} {f : Addr} {fd : FuncData} {ps : List Str} {sp sp' : Sp} (F : FnOk P w K mg base CX k f fd ps sp)
    (h : ∀ vs H Q E, sp' vs H Q E → sp vs H Q E) : FnOk P w K mg base CX k f fd ps sp' :=
  ⟨fun vs H Q E q => F.len vs H Q E (h _ _ _ _ q), fun A outer s H args us vs Q E hr he hb hv hs => F.run A outer s H args us vs Q E hr he hb hv (h _ _ _ _ hs)⟩
theorem Env0.make {P : Program} {w : World} {K : PySem.W.Frag} {mg : Str → Option Value} {base : Heap} {A : Around} {outer : List Env} {s : Shared} {H : Hp} (e : Env0 P w K mg base A outer s H) (C : Addr) (us : List Value) (kw : List (Str × Value)) :
    Env0 P w K mg base (A.under (.builtin "type.__call__" ⟨.ref C :: us, kw⟩)) outer s H := ⟨by first | exact e.frames | (simpa [Around.under, Code.envs, Code.isFrame, pushEnvs] using e.frames), e.mod, e.bs, e.bsz, e.funs, e.frf, e.hok, e.bare⟩
theorem Env0.in1 {P : Program} {w : World} {K : PySem.W.Frag} {mg : Str → Option Value} {base : Heap} {A : Around} {outer : List Env} {s : Shared} {H : Hp} (e : Env0 P w K mg base A outer s H) :
    Env0 P w K mg base A.in1 outer s H := ⟨e.frames, e.mod, e.bs, e.bsz, e.funs, e.frf, e.hok, e.bare⟩
section
variable {X : Cx} {pins : List (Addr × Obj)} {σ : St} {H : Hp} {s s' : Shared}
theorem Inv.env0 (I : Inv X pins σ H s) : Env0 X.prog X.w X.K X.mg X.base X.A X.stack s H :=
  ⟨I.ok.frames, I.ok.mod, I.bs, Nat.le_trans I.ok.bsz I.sz, I.stack, I.stkFree, I.hok, I.bare⟩
theorem Inv.after {Q : VK} {u : Value} (I : Inv X pins σ H s) (h : CE X.stack X.prog X.w H s Q u s') : EP X pins σ Q u s' := by
  obtain ⟨v, H', os, bare, un, hok, r, q⟩ := h
  obtain ⟨hh, g, d, t, os'⟩ := s'
  obtain rfl : os' = s.os := os
  exact ⟨v, H', I.call (h' := hh) (g' := g) (d' := d) (t' := t) (ch := []) un hok bare (fun b z => absurd z (by simp)), r, q⟩
end
def tCall (sp : Sp) (dvs : List V) (E : XK) (t : TA) : TE := fun σ H Q => t σ H fun vs H1 => sp (vs ++ dvs) H1 Q E
def tMeth (C : Addr) (m : Str) (sp : Sp) (dvs : List V) (E : XK) (ta : TE) (t : TA) : TE := fun σ H Q => ta σ H fun x H1 => ∃ a dx fs, x = .ref a ∧ H1 a = some (.ins C dx fs) ∧ fs.lookup m = none ∧
  t σ H1 fun vs H2 => sp (x :: (vs ++ dvs)) H2 Q E
def tMake (C : Addr) (sp : Sp) (dvs : List V) (E : XK) (t : TA) : TE := fun σ H Q => t σ H fun vs H1 => ∀ x dx, H1 x = none → H1 dx = none → dx ≠ x →
  sp (.ref x :: (vs ++ dvs)) (upd (upd H1 dx (.own x)) x (.ins C dx [])) (fun v H2 => v = .non ∧ Q (.ref x) H2) E
def Binds (K : PySem.W.Frag) (fd : FuncData) (ps : List Str) (ds : List Value) : Prop :=
  ∀ (s : Shared) (us : List Value), K.In s.heap → (us ++ ds).length = ps.length → BindsTo s fd ⟨us, []⟩ (ps.zip (us ++ ds))
theorem Binds.all {K : PySem.W.Frag} {fd : FuncData} {ps : List Str} (h : ∀ us : List Value, us.length = ps.length → bindArgs fd ⟨us, []⟩ = pure (ps.zip us)) : Binds K fd ps [] := fun s us _ hl => by
  rw [List.append_nil] at hl ⊢
  exact .of_eq (h us hl)
def Passes (CX : CXT) (X : Cx) (E : XK) : Prop := ∀ (pins : List (Addr × Obj)) (σ : St) (H : Hp) (s : Shared) (e : Value) (s' : Shared), Inv X pins σ H s → CX X.stack H s E e s' → X.xe e s'
section
variable {X : Cx} {CX : CXT} {k : Nat} {f C : Addr} {fd : FuncData} {ps : List Str} {sp : Sp} {dvs : List V} {ds : List Value} {E : XK} {x m : Str} {p pos apos : Pos} {e o : Expr} {es : List Expr} {ta : TE} {t : TA}
theorem run_fn {pins : List (Addr × Obj)} {σ : St} {H : Hp} {s : Shared} {Q : VK} {us : List Value} {vs : List V} (F : FnOk X.prog X.w X.K X.mg X.base CX k f fd ps sp) (hr : Room k X.A) (hb : Binds X.K fd ps ds) (hd : Vals dvs ds) (hx : Passes CX X E)
    (I : Inv X pins σ H s) (r : Vals vs us) (h : sp (vs ++ dvs) H Q E) : wpAny (model X.prog X.w) X.A (call (.ref f) us) (EP X pins σ Q) X.xe s := by
  have r2 : Vals (vs ++ dvs) (us ++ ds) := r.append hd
  have hl : (us ++ ds).length = ps.length := by rw [← r2.length]; exact F.len _ _ _ _ h
  refine wpAny_call (codeAny_mono (F.run X.A X.stack s H ⟨us, []⟩ (us ++ ds) (vs ++ dvs) Q E hr I.env0 (hb s us I.kIn hl) r2 h) fun r s' hq => ?_)
  cases r with
  | error e => exact hx pins σ H s e s' I hq
  | ok fl =>
    cases fl with
    | ret u => exact I.after hq
    | next => exact False.elim hq
    | brk => exact False.elim hq
    | cont => exact False.elim hq
theorem pe_call (F : FnOk X.prog X.w X.K X.mg X.base CX k f fd ps sp) (hr : Room k X.A) (hg : Gl X x) (hm : X.mg x = some (.ref f)) (hk : PySem.W.keepIn X.K (.ref f) = true) (hb : Binds X.K fd ps ds) (hd : Vals dvs ds) (hx : Passes CX X E)
    (ha : PA X (e :: es) t) (hdb : (x == ("__debug__" : Str)) = false := by decide) (he : starEach (e :: es) X.env = (false, eval e X.env) :: starEach es X.env := by rfl) (hpl : (backTo pos (starEach es X.env)).any (·.1) = false := by rfl) :
    PE X (.Call (.Name x p) (e :: es) [] pos) (tCall sp dvs E t) := by
  intro pins s σ H Q I h
  refine wpAny_Call_Name_kw (ld_glob I hg hm ?_ hdb)
  refine PySem.W.callWith_K (h₀ := X.base) I.ok.mod.kin hk (thn (ha pos pins s σ H _ I h) fun us s1 ⟨vs, H1, I1, r, q⟩ => ⟨I1.kIn, ?_⟩) he hpl
  exact run_fn F hr hb hd hx I1 r q
theorem pe_meth {pl : Sem Bool} (he : PE X o ta) (c : Cls X.K C) (hm : Meth X.K C m f) (F : FnOk X.prog X.w X.K X.mg X.base CX k f fd ps sp) (hr : Room k X.A) (hb : Binds X.K fd ps ds) (hd : Vals dvs ds) (hx : Passes CX X E) (ha : PA X (e :: es) t)
    (hst : starEach (e :: es) X.env = (false, eval e X.env) :: starEach es X.env := by rfl) (hpl : (backTo pos (starEach es X.env)).any (·.1) = false := by rfl)
    (ht : eval (.Call (.Attribute o m apos) (e :: es) [] pos) X.env = (do
      let ov ← eval o X.env
      standAt apos.atName
      let (f, first) ← holding [ov] (getMethod ov m pl)
      callWith pos f first (backTo pos (starEach (e :: es) X.env)) (backToKw pos (keywordEach [] X.env))) := by rfl) :
    PE X (.Call (.Attribute o m apos) (e :: es) [] pos) (tMeth C m sp dvs E ta t) := by
  intro pins s σ H Q I h
  refine PySem.W.methodCall_KW (pl := pl) (thn (he pins s σ H _ I h) fun u s1 ⟨x, H1, I1, rx, a, dx, fs, ex, ea, l, q⟩ => ?_) ht
  subst ex
  obtain rfl : u = Value.ref a := rx
  refine getmeth_ok I1 ea c hm l ?_
  refine PySem.W.callWith_K (first := [.ref a]) (h₀ := X.base) I.ok.mod.kin hm.kp (thn (ha pos pins s1 σ H1 _ I1 q) fun us s2 ⟨vs, H2, I2, r, q2⟩ => ⟨I2.kIn, ?_⟩) hst hpl
  exact run_fn (us := .ref a :: us) (vs := .ref a :: vs) F hr hb hd hx I2 (.cons rfl r) q2
structure Mk (K : PySem.W.Frag) (C f : Addr) : Prop where
  makes : PySem.W.makesIn K C = true
  init : PySem.W.findIn K (.ref C) "__init__" = some (some (.ref f))
  fn : PySem.W.isFn K (.ref f) = true
  kp : PySem.W.keepIn K (.ref C) = true
theorem run_make {pins : List (Addr × Obj)} {σ : St} {H : Hp} {s : Shared} {Q : VK} {us : List Value} {vs : List V} (M : Mk X.K C f) (F : FnOk X.prog X.w X.K X.mg X.base CX k f fd ps sp) (hr : Room (k + 1) X.A) (hb : Binds X.K fd ps ds) (hd : Vals dvs ds)
    (hx : Passes CX X E) (I : Inv X pins σ H s) (r : Vals vs us)
    (h : ∀ x dx, H x = none → H dx = none → dx ≠ x → sp (.ref x :: (vs ++ dvs)) (upd (upd H dx (.own x)) x (.ins C dx [])) (fun v H2 => v = .non ∧ Q (.ref x) H2) E) :
    wpAny (model X.prog X.w) X.A (call (.ref C) us) (EP X pins σ Q) X.xe s := by
  have hq := h (s.heap.objs.size + 1) s.heap.objs.size (I.hok.fresh (Nat.le_succ _)) (I.hok.fresh (Nat.le_refl _)) (Nat.ne_of_lt (Nat.lt_succ_self _))
  have I2 := Inv.made (C := C) I
  have r2 : Vals (V.ref (s.heap.objs.size + 1) :: (vs ++ dvs)) (Value.ref (s.heap.objs.size + 1) :: (us ++ ds)) := .cons rfl (r.append hd)
  have hl : (Value.ref (s.heap.objs.size + 1) :: us ++ ds).length = ps.length := by
    have e := r2.length
    rw [F.len _ _ _ _ hq] at e
    exact e.symm
  refine wpAny_call (make_map (f := f) I.kIn M.makes M.init (beq_iff_eq.mp M.fn) (codeAny_mono (F.run _ X.stack _ _ ⟨Value.ref (s.heap.objs.size + 1) :: us, []⟩ (Value.ref (s.heap.objs.size + 1) :: (us ++ ds)) _ _ E (hr.make C us [])
    (I2.env0.make C us []) (hb _ (Value.ref (s.heap.objs.size + 1) :: us) I2.kIn hl) r2 hq) fun r s' hq' => ?_))
  cases r with
  | error e => exact hx pins σ _ _ e s' I2 hq'
  | ok fl =>
    cases fl with
    | ret u =>
      obtain ⟨v, H', I3, rv, ev, q3⟩ := I2.after hq'
      subst ev
      exact ⟨rv, ⟨V.ref (s.heap.objs.size + 1), H', I3, rfl, q3⟩⟩
    | next => exact False.elim hq'
    | brk => exact False.elim hq'
    | cont => exact False.elim hq'
theorem pe_make (M : Mk X.K C f) (F : FnOk X.prog X.w X.K X.mg X.base CX k f fd ps sp) (hr : Room (k + 1) X.A) (hg : Gl X x) (hm : X.mg x = some (.ref C)) (hb : Binds X.K fd ps ds) (hd : Vals dvs ds) (hx : Passes CX X E)
    (ha : PA X (e :: es) t) (hdb : (x == ("__debug__" : Str)) = false := by decide) (he : starEach (e :: es) X.env = (false, eval e X.env) :: starEach es X.env := by rfl) (hpl : (backTo pos (starEach es X.env)).any (·.1) = false := by rfl) :
    PE X (.Call (.Name x p) (e :: es) [] pos) (tMake C sp dvs E t) := by
  intro pins s σ H Q I h
  refine wpAny_Call_Name_kw (ld_glob I hg hm ?_ hdb)
  refine PySem.W.callWith_K (h₀ := X.base) I.ok.mod.kin M.kp (thn (ha pos pins s σ H _ I h) fun us s1 ⟨vs, H1, I1, r, q⟩ => ⟨I1.kIn, ?_⟩) he hpl
  exact run_make M F hr hb hd hx I1 r q
theorem pe_make0 (M : Mk X.K C f) (F : FnOk X.prog X.w X.K X.mg X.base CX k f fd ps sp) (hr : Room (k + 1) X.A) (hg : Gl X x) (hm : X.mg x = some (.ref C)) (hb : Binds X.K fd ps ds) (hd : Vals dvs ds) (hx : Passes CX X E)
    (hdb : (x == ("__debug__" : Str)) = false := by decide) : PE X (.Call (.Name x p) [] [] pos) (tMake C sp dvs E tNil) := by
  intro pins s σ H Q I h
  refine wpAny_Call_Name_kw (ld_glob I hg hm ?_ hdb)
  exact PySem.W.callWith_K0 I.kIn M.kp (run_make (us := []) M F hr hb hd hx I .nil h)
end
section
variable {X : Cx} {CX : CXT} {k : Nat} {f C : Addr} {fd : FuncData} {ps ks : List Str} {sp : Sp} {E : XK} {x m : Str} {p pos apos kpos : Pos} {e o : Expr} {es : List Expr} {kws : List Keyword} {te ta : TE} {t tk : TA} {nm : Option Str}
structure KBinds (K : PySem.W.Frag) (fd : FuncData) (ps ks : List Str) (g : List Value → List Value → List Value) (gV : List V → List V → List V) : Prop where
  to : ∀ (s : Shared) (us ws : List Value), K.In s.heap → (g us ws).length = ps.length → BindsTo s fd ⟨us, ks.zip ws⟩ (ps.zip (g us ws))
  rel : ∀ {vs : List V} {us : List Value} {zs : List V} {ws : List Value}, Vals vs us → Vals zs ws → Vals (gV vs zs) (g us ws)
variable {g : List Value → List Value → List Value} {gV : List V → List V → List V}
end
structure FnScope (N P : List Str) (sc : Scope) : Prop where
  kind : sc.kind = .function
  co : sc.isCoroutine = false
  gen : sc.isGenerator = false
  nd : N.Nodup
  pre : N.take P.length = P
  par : ∀ x ∈ P, sc.names.lookup x = some .local ∨ sc.names.lookup x = some .cell
  nofree : ∀ y ∈ sc.names, y.2 ≠ .free
theorem bindL_out {kindOf : Str → Option NameKind} {x : Str} : ∀ {binds : List (Str × Value)} {m : Str → Option Value}, (∀ v, (x, v) ∉ binds) → bindL kindOf binds m x = m x
  | [], _, _ => rfl
  | (n, v) :: r, m, h => by
    unfold bindL
    rw [bindL_out fun w hw => h w (List.mem_cons_of_mem _ hw)]
    split
    · have : x ≠ n := by rintro rfl; exact h v List.mem_cons_self
      simp [this]
    · rfl
theorem bindC_out {kindOf : Str → Option NameKind} {x : Str} : ∀ {binds : List (Str × Value)} {m : Str → Option Value}, (∀ v, (x, v) ∉ binds) → bindC kindOf binds m x = m x
  | [], _, _ => rfl
  | (n, v) :: r, m, h => by
    unfold bindC
    rw [bindC_out fun w hw => h w (List.mem_cons_of_mem _ hw)]
    split
    · rfl
    · have : x ≠ n := by rintro rfl; exact h v List.mem_cons_self
      simp [this]
theorem bindL_get {kindOf : Str → Option NameKind} {x : Str} {v : Value} : ∀ {P : List Str} {vs : List Value} {i : Nat} {m : Str → Option Value}, P.Nodup → P[i]? = some x → vs[i]? = some v → kindOf x = some .local →
    bindL kindOf (P.zip vs) m x = some v
  | [], _, _, _, _, h, _, _ => by simp at h
  | _ :: _, [], _, _, _, _, h, _ => by simp at h
  | p :: P, w :: vs, 0, m, nd, h1, h2, hk => by
    simp at h1 h2; subst h1; subst h2
    show bindL kindOf ((p, w) :: P.zip vs) m p = _
    unfold bindL
    rw [bindL_out fun v hv => (List.nodup_cons.mp nd).1 (List.of_mem_zip hv).1, if_pos hk]
    simp
  | p :: P, w :: vs, i + 1, m, nd, h1, h2, hk => by
    show bindL kindOf ((p, w) :: P.zip vs) m x = _
    unfold bindL
    exact bindL_get (i := i) (List.nodup_cons.mp nd).2 (by simpa using h1) (by simpa using h2) hk
theorem bindC_get {kindOf : Str → Option NameKind} {x : Str} {v : Value} : ∀ {P : List Str} {vs : List Value} {i : Nat} {m : Str → Option Value}, P.Nodup → P[i]? = some x → vs[i]? = some v → kindOf x ≠ some .local →
    bindC kindOf (P.zip vs) m x = some v
  | [], _, _, _, _, h, _, _ => by simp at h
  | _ :: _, [], _, _, _, _, h, _ => by simp at h
  | p :: P, w :: vs, 0, m, nd, h1, h2, hk => by
    simp at h1 h2; subst h1; subst h2
    show bindC kindOf ((p, w) :: P.zip vs) m p = _
    unfold bindC
    rw [bindC_out fun v hv => (List.nodup_cons.mp nd).1 (List.of_mem_zip hv).1, if_neg hk]
    simp
  | p :: P, w :: vs, i + 1, m, nd, h1, h2, hk => by
    show bindC kindOf ((p, w) :: P.zip vs) m x = _
    unfold bindC
    exact bindC_get (i := i) (List.nodup_cons.mp nd).2 (by simpa using h1) (by simpa using h2) hk
def start (N : List Str) (vs : List V) : St := vs.map some ++ List.replicate (N.length - vs.length) none
def cxOf (CX : CXT) (P : Program) (w : World) (K : PySem.W.Frag) (mg : Str → Option Value) (base : Heap) (N : List Str) (qual : Str) (scope : Scope) (f : Addr) (cd : Value) (A : Around) (outer : List Env) (s : Shared) (H : Hp) (E : XK) : Cx where
  prog := P
  w := w
  K := K
  mg := mg
  base := base
  A := A.deeper (envOfC qual scope s.heap.objs.size f cd)
  N := N
  s_0 := s
  H_0 := H
  env := envOfC qual scope s.heap.objs.size f cd
  outer := outer
  stack := envOfC qual scope s.heap.objs.size f cd :: outer
  ex := []
  calm := true
  fn := fun _ => true
  pn := []
  xe := fun e s' => wpAny (model P w) (A.deeper (envOfC qual scope s.heap.objs.size f cd)) (leaving (envOfC qual scope s.heap.objs.size f cd) e) (fun _ s'' => CX outer H s E e s'') (fun e' s'' => CX outer H s E e' s'') s'
theorem cell_has {sc : Scope} {n : Nat} {x : Str} (h : sc.names.lookup x = some .cell) : ∃ c, (cellsFrom n sc.names []).lookup x = some c := by
  have q := PySem.W.cellsFrom_some sc.names n [] (.inl h)
  exact Option.isSome_iff_exists.mp q
theorem inv_start {CX : CXT} {P : Program} {w : World} {K : PySem.W.Frag} {mg : Str → Option Value} {base : Heap} {N ps : List Str} {qual : Str} {scope : Scope} {f : Addr} {cd : Value} {A : Around} {outer : List Env} {s s1 : Shared} {H : Hp} {E : XK} {us : List Value} {vs : List V}
    (S : FnScope N ps scope) (hd : A.handled = none) (e0 : Env0 P w K mg base A outer s H) (hl : vs.length = ps.length) (r : Vals vs us)
    (x : InCallC s s.heap.objs.size (bindL (envOfC qual scope s.heap.objs.size f cd).kindOf (ps.zip us) fun _ => none) (cellsFrom (s.heap.objs.size + 1) scope.names []) (bindC (envOfC qual scope s.heap.objs.size f cd).kindOf (ps.zip us) fun _ => none) s1) :
    Inv (cxOf CX P w K mg base N qual scope f cd A outer s H E) [] (start N vs) H s1 := by
  have hpl : ps.length ≤ N.length := by have := congrArg List.length S.pre; rw [List.length_take] at this; omega
  obtain ⟨h1, tk, rfl, hk⟩ := x.done
  have noA : ∀ b : Addr, b ∉ (cxOf CX P w K mg base N qual scope f cd A outer s H E).ex := fun b z => absurd (show b ∈ ([] : List Addr) from z) (by simp)
  refine ⟨⟨e0.mod, S.kind, rfl, rfl, Nat.le_refl _, fun y z c h1 h2 => ?_, fun y hy => ?_, fun y c _ h => ?_, fun _ => hd, Around.frames_deeper e0.frames, .inr ⟨rfl, rfl⟩, fun b z => absurd z (noA b), e0.bs, e0.bsz, fun b _ _ => noA b, fun b z => absurd z (noA b), e0.funs, e0.frf⟩,
    rfl, e0.bare, Un.kept hk, ⟨_, x.toInCall.ns, fun i y v h1 h2 h3 => ?_⟩, fun y c h => ⟨_, x.cell y c h⟩, e0.hok.fresh (Nat.le_refl _), fun y c h => ?_, fun p hp => absurd (show p ∈ ([] : List (Addr × Obj)) from hp) (by simp), e0.hok.kept hk, ?_⟩
  · exact name_of_addr x.apart (PySem.mem_of_lookup h1) (PySem.mem_of_lookup h2)
  · have hy : scope.names.lookup y = some .cell ∨ scope.names.lookup y = some .free := hy
    rcases hy with hy | hy
    · exact cell_has hy
    · exact absurd rfl (S.nofree _ (PySem.mem_of_lookup hy))
  · exact Nat.le_of_lt (x.above y c (PySem.mem_of_lookup h))
  · have hi : i < vs.length := by
      unfold start at h2
      by_cases hi : i < vs.length
      · exact hi
      · rw [List.getElem?_append_right (by simpa using hi)] at h2
        rw [List.getElem?_replicate] at h2
        split at h2 <;> cases h2
    have ha : vs[i]? = some v := by
      unfold start at h2
      rw [List.getElem?_append_left (by simpa using hi), List.getElem?_map] at h2
      cases e : vs[i]? with
      | none => rw [e] at h2; cases h2
      | some a => rw [e] at h2; cases h2; rfl
    obtain ⟨u, hu, rv⟩ := r.get ha
    have hp : ps[i]? = some y := by
      rw [← S.pre, List.getElem?_take_of_lt (by omega)]; exact h1
    have ndP : ps.Nodup := by rw [← S.pre]; exact S.nd.sublist (List.take_sublist _ _)
    refine ⟨u, rv, ?_⟩
    rcases S.par y (List.mem_of_getElem? hp) with k | k
    · exact .inl ⟨k, bindL_get ndP hp hu k⟩
    · obtain ⟨c, e⟩ := cell_has (n := s.heap.objs.size + 1) k
      refine .inr ⟨.inl k, c, e, ?_⟩
      have q := x.cell y c e
      rw [bindC_get ndP hp hu (by show scope.names.lookup y ≠ _; rw [k]; decide)] at q
      exact q
  · exact e0.hok.fresh (Nat.le_of_lt (x.above y c (PySem.mem_of_lookup h)))
  · unfold start
    show _ = N.length
    rw [List.length_append, List.length_map, List.length_replicate]
    omega
theorem fn_of {CX : CXT} {P : Program} {w : World} {K : PySem.W.Frag} {mg : Str → Option Value} {base : Heap} {k : Nat} {f : Addr} {name qual : Str} {params : Arguments} {body : List Stmt} {scope : Scope} {dV kV doc pm cdv ct oc : Value} {an od : Option Addr}
    {osl : Array (Option Value)} {N ps : List Str} {sp : Sp} (lk : K.lookup f = some ⟨oc, od, .func (PySem.W.fnOf name qual params body scope dV kV doc pm an cdv ct), osl⟩) (hcd : PySem.W.codeIn K cdv qual = true) (S : FnScope N ps scope)
    (len : ∀ vs H Q E, sp vs H Q E → vs.length = ps.length)
    (hbody : ∀ (A : Around) (outer : List Env) (s : Shared) (H : Hp) (vs : List V) (Q : VK) (E : XK), Room k (A.deeper (envOfC qual scope s.heap.objs.size f cdv)) → sp vs H Q E →
      ∃ t, PSs (cxOf CX P w K mg base N qual scope f cdv A outer s H E) body t ∧ t { nx := fun _ H' => Q .non H', rt := Q } (start N vs) H) :
    FnOk P w K mg base CX (k + 1) f (PySem.W.fnOf name qual params body scope dV kV doc pm an cdv ct) ps sp := by
  refine ⟨len, fun A outer s H args us vs Q E hr e0 hb r hsp => ?_⟩
  have hl := len _ _ _ _ hsp
  have KX : K.In s.heap := e0.mod.kin.keeps fun b o e => (e0.bs b o e).1
  have lim : s.heap.NoLimit := e0.mod.nolimit.keeps fun b o e => (e0.bs b o e).1
  have hkind : ∀ y ∈ ps.zip us, scope.names.lookup y.1 = some .local ∨ (scope.names.lookup y.1 = some .cell ∧ ((cellsFrom (s.heap.objs.size + 1) scope.names []).lookup y.1).isSome = true) := fun ⟨n, v⟩ hy => by
    rcases S.par n (List.of_mem_zip hy).1 with q | q
    · exact .inl q
    · exact .inr ⟨q, PySem.W.cellsFrom_some _ _ _ (.inl q)⟩
  refine codeAny_call_function hr.depth (KX _ _ lk) rfl S.co S.gen rfl (PySem.W.codeRec_of KX hcd) (hb _ _ _ _ ?_)
  refine wpAny_newFunctionEnv_cells S.kind hkind fun env he s1 x => ?_
  subst he
  refine ⟨lim.keeps x.toInCall.keep, codeAny_func ?_⟩
  obtain ⟨t, ht, hq⟩ := hbody A outer s H vs Q E (hr.deeper _) hsp
  have I : Inv (cxOf CX P w K mg base N qual scope f cdv A outer s H E) [] (start N vs) H s1 := inv_start S hr.hd e0 hl r x
  refine wpAny_mono (ht [] s1 (start N vs) H _ I hq) (fun fl s' hs => ?_) fun e s' hs => hs
  have fin : ∀ {σ' : St} {H' : Hp} {v : V} {u : Value}, Inv (cxOf CX P w K mg base N qual scope f cdv A outer s H E) [] σ' H' s' → RelV v u → Q v H' → CE outer P w H s Q u s' :=
    fun {σ' H' v u} J rv q => ⟨v, H', J.os, J.bare, J.base, J.hok, rv, q⟩
  cases fl with
  | ret u =>
    obtain ⟨v, σ', H', J, rv, q⟩ := hs
    exact fin J rv q
  | next =>
    obtain ⟨σ', H', J, q⟩ := hs
    exact fin (v := V.non) (u := Value.none) J rfl q
  | brk =>
    obtain ⟨_, _, _, q⟩ := hs
    exact False.elim q
  | cont =>
    obtain ⟨_, _, _, q⟩ := hs
    exact False.elim q
end L2
namespace L2
open PySem PySem.Spec PyProof.Rows
section
variable {X : Cx} {x : Str} {p pos : Pos} {e : Expr} {es : List Expr} {t : TA} {id T : String} {r : List V → Hp → VK → Prop}
def tCB (r : List V → Hp → VK → Prop) (t : TA) : TE := fun σ H Q => t σ H fun vs H1 => r vs H1 Q
theorem pe_callB (hc : CallR X (.builtin id) r) (hg : Gl X x) (hm : X.mg x = none) (hv : bootBuiltins x = some (.builtin id)) (ha : PA X (e :: es) t) (hn : x ≠ "__name__" := by decide) (hdb : (x == ("__debug__" : Str)) = false := by decide)
    (he : starEach (e :: es) X.env = (false, eval e X.env) :: starEach es X.env := by rfl) (hpl : (backTo pos (starEach es X.env)).any (·.1) = false := by rfl) : PE X (.Call (.Name x p) (e :: es) [] pos) (tCB r t) := by
  intro pins s σ H Q I h
  refine wpAny_Call_Name_kw (ld_blt I hg hm hv ?_ hn hdb)
  exact PyProof.Rows.callWith_builtin1 (thn (ha pos pins s σ H _ I h) fun us s1 ⟨vs, H1, I1, r1, q1⟩ => hc pins s1 σ H1 vs us Q I1 r1 q1) he hpl
theorem pe_callTy (hc : CallR X (.type T) r) (hg : Gl X x) (hm : X.mg x = none) (hv : bootBuiltins x = some (.type T)) (ha : PA X (e :: es) t) (hn : x ≠ "__name__" := by decide) (hdb : (x == ("__debug__" : Str)) = false := by decide)
    (he : starEach (e :: es) X.env = (false, eval e X.env) :: starEach es X.env := by rfl) (hpl : (backTo pos (starEach es X.env)).any (·.1) = false := by rfl) : PE X (.Call (.Name x p) (e :: es) [] pos) (tCB r t) := by
  intro pins s σ H Q I h
  refine wpAny_Call_Name_kw (ld_blt I hg hm hv ?_ hn hdb)
  exact PyProof.Rows.callWith_type1 (thn (ha pos pins s σ H _ I h) fun us s1 ⟨vs, H1, I1, r1, q1⟩ => hc pins s1 σ H1 vs us Q I1 r1 q1) he hpl
end
end L2
namespace HT
open PySem PyProof.Rows
section
open PySem.SeqAt
open PySem.AutoSeq1 (wpAny_loadPart')
open PySem.MeetsSeq PySem.MeetsSeq2 PySem.MeetsSeq3
end
section
variable {prog : Program} {w : World} {A : Around} {E : Value → Shared → Prop} {s : Shared}
def sIx (n d : Nat) : Option Int → Nat
  | none => d
  | some v => if v < 0 then (v + (n : Int)).toNat else min v.toNat n
end
end HT
namespace L2
open PySem PySem.Spec PyProof.Rows
abbrev TO := St → Hp → (Option Int → Hp → Prop) → Prop
def PO (X : Cx) (e : Option Expr) (t : TO) : Prop :=
  ∀ (pins : List (Addr × Obj)) (s : Shared) (σ : St) (H : Hp) (Q : Option Int → Hp → Prop), Inv X pins σ H s → t σ H Q →
    wpAny (model X.prog X.w) X.A (evalPart e X.env) (fun u s' => ∃ o H', Inv X pins σ H' s' ∧ IsPart u o ∧ Q o H') X.xe s
def tNoPart : TO := fun _ H Q => Q none H
def tPart (t : TE) : TO := fun σ H Q => t σ H fun x H1 => ∃ i, x = .int i ∧ Q (some i) H1
section
variable {X : Cx} {e : Expr} {te : TE} {lo hi : Option Expr} {tl th : TO} {pos p2 : Pos}
theorem po_none : PO X none tNoPart := by
  intro pins s σ H Q I h
  rw [evalPart_none]
  exact wpAny_pure ⟨none, H, I, .none, h⟩
theorem po_some (h : PE X e te) : PO X (some e) (tPart te) := by
  intro pins s σ H Q I hw
  rw [evalPart_some]
  refine thn (h pins s σ H _ I hw) fun u s1 ⟨x, H1, I1, r1, q1⟩ => ?_
  obtain ⟨i, rfl, q⟩ := q1
  obtain ⟨t, rfl⟩ := r1
  exact ⟨some i, H1, I1, .int i t, q⟩
def SlR (X : Cx) (r : V → Option Int → Option Int → Hp → VK → Prop) : Prop :=
  ∀ (pins : List (Addr × Obj)) (s : Shared) (σ : St) (H : Hp) (x : V) (v vl vu : Value) (lo hi : Option Int) (sl : Addr) (Q : VK), Inv X pins σ H s → RelV x v → s.heap.IsSliceOf sl vl vu .none → IsPart vl lo → IsPart vu hi → r x lo hi H Q →
    ∃ T id, typeLookup (.type T) "__getitem__" = pure (some (.builtin id)) ∧ s.TypeIs v T ∧ wpAny (model X.prog X.w) X.A (getItem v (.ref sl)) (EP X pins σ Q) X.xe s
theorem SlR.or {r r' : V → Option Int → Option Int → Hp → VK → Prop} (h : SlR X r) (h' : SlR X r') : SlR X (fun x lo hi H Q => r x lo hi H Q ∨ r' x lo hi H Q) := by
  intro pins s σ H x v vl vu lo hi sl Q I rx hs pl pu q
  rcases q with q | q
  · exact h pins s σ H x v vl vu lo hi sl Q I rx hs pl pu q
  · exact h' pins s σ H x v vl vu lo hi sl Q I rx hs pl pu q
def tSl (r : V → Option Int → Option Int → Hp → VK → Prop) (te : TE) (tl th : TO) : TE := fun σ H Q => te σ H fun x H1 => tl σ H1 fun l H2 => th σ H2 fun u H3 => r x l u H3 Q
theorem pe_slice {r : V → Option Int → Option Int → Hp → VK → Prop} (hr : SlR X r) (he : PE X e te) (hl : PO X lo tl) (hu : PO X hi th) : PE X (.Subscript e (.Slice lo hi none p2) pos) (tSl r te tl th) := by
  intro pins s σ H Q I h
  refine Subscript_ (thn (he pins s σ H _ I h) fun v s1 ⟨x, H1, I1, r1, q1⟩ => ?_)
  refine wpAny_Slice (thn (hl pins s1 σ H1 _ I1 q1) fun vl s2 ⟨l, H2, I2, pl, q2⟩ => thn (hu pins s2 σ H2 _ I2 q2) fun vu s3 ⟨u, H3, I3, pu, q3⟩ => ?_)
  rw [evalPart_none]
  refine wpAny_pure ?_
  have I4 : Inv X pins σ H3 { s3 with heap := s3.heap.push { cls := .type "slice", data := .fields #[vl, vu, .none] } } := I3.kept (t' := s3.toks) fun b ob q => Heap.get?_push_of_some _ q
  obtain ⟨T, id, hT, ht, hg⟩ := hr pins { s3 with heap := s3.heap.push { cls := .type "slice", data := .fields #[vl, vu, .none] } } σ H3 x v vl vu l u s3.heap.objs.size Q I4 r1 (Heap.IsSliceOf.new ..) pl pu q3
  show wpAny (model X.prog X.w) X.A (subscriptTail e (.Slice lo hi none p2) v (.ref s3.heap.objs.size)) (EP X pins σ Q) X.xe { s3 with heap := s3.heap.push { cls := .type "slice", data := .fields #[vl, vu, .none] } }
  exact tail_any (ops := [.ref s3.heap.objs.size, v]) ht hT hg (by with_unfolding_all rfl)
def cutV (xs : List V) (lo hi : Option Int) : List V := (xs.drop (HT.sIx xs.length 0 lo)).take (HT.sIx xs.length xs.length hi - HT.sIx xs.length 0 lo)
theorem cutV_length (xs : List V) (lo hi : Option Int) : (cutV xs lo hi).length ≤ xs.length := by
  unfold cutV
  rw [List.length_take, List.length_drop]
  omega
end
end L2
namespace L2
open PySem PySem.Spec PyProof.Rows
def ixN (n : Nat) (i : Int) : Option Nat := if 0 ≤ i then (if i < n then some i.toNat else none) else if -(n : Int) ≤ i then some (i + n).toNat else none
def atI {α : Type} (xs : List α) (i : Int) : Option α := (ixN xs.length i).bind fun j => xs[j]?
theorem ixN_seq {n : Nat} {i : Int} {j : Nat} (h : ixN n i = some j) : seqIndex? i n = some j ∧ j < n ∧ -(n : Int) ≤ i ∧ i < n := by
  unfold ixN at h
  by_cases h0 : 0 ≤ i
  · rw [if_pos h0] at h
    by_cases h1 : i < n
    · rw [if_pos h1] at h
      have e : i.toNat = j := Option.some.inj h
      exact ⟨by rw [seqIndex_of h0 h1, e], by omega, by omega, h1⟩
    · rw [if_neg h1] at h; cases h
  · rw [if_neg h0] at h
    by_cases h1 : -(n : Int) ≤ i
    · rw [if_pos h1] at h
      have e : (i + n).toNat = j := Option.some.inj h
      exact ⟨by rw [seqIndex_neg (by omega) h1, e], by omega, h1, by omega⟩
    · rw [if_neg h1] at h; cases h
theorem atI_get {α : Type} {xs : List α} {i : Int} {v : α} (h : atI xs i = some v) : ∃ j, seqIndex? i xs.length = some j ∧ xs[j]? = some v ∧ j < xs.length ∧ -(xs.length : Int) ≤ i ∧ i < xs.length := by
  unfold atI at h
  cases e : ixN xs.length i with
  | none => rw [e] at h; cases h
  | some j =>
    rw [e] at h
    obtain ⟨h1, h2, h3, h4⟩ := ixN_seq e
    exact ⟨j, h1, h, h2, h3, h4⟩
theorem atI_nat {α : Type} {xs : List α} {j : Nat} {v : α} (h : xs[j]? = some v) : atI xs (j : Int) = some v := by
  have hj : j < xs.length := (List.getElem?_eq_some_iff.mp h).1
  have e : ixN xs.length (j : Int) = some j := by
    unfold ixN
    rw [if_pos (by omega), if_pos (by omega)]; simp
  unfold atI; rw [e]; exact h
theorem atI_last {α : Type} (xs : List α) (v : α) : atI (xs ++ [v]) (-1) = some v := by
  have hl : (xs ++ [v]).length = xs.length + 1 := by simp
  have e : ixN (xs ++ [v]).length (-1) = some xs.length := by
    unfold ixN
    rw [hl, if_neg (by decide), if_pos (by omega)]
    congr 1
    omega
  unfold atI
  rw [e]
  show (xs ++ [v])[xs.length]? = some v
  simp
def PlainIx (b : Expr) : Prop := ∀ o i, subscripted b false o i = operate [o, i] (getItem o i)
def IxR (X : Cx) (r : R2) : Prop :=
  ∀ (value slice : Expr) (pins : List (Addr × Obj)) (s : Shared) (σ : St) (H : Hp) (x y : V) (v u : Value) (Q : VK), Inv X pins σ H s → RelV x v → RelV y u → r x y H Q →
    subscripted slice false v u = operate [v, u] (getItem v u) → wpAny (model X.prog X.w) X.A (subscriptTail value slice v u) (EP X pins σ Q) X.xe s
def MtR (X : Cx) (id : String) (r : V → List V → Hp → VK → Prop) : Prop :=
  ∀ (pins : List (Addr × Obj)) (s : Shared) (σ : St) (H : Hp) (x : V) (xs : List V) (v : Value) (us : List Value) (Q : VK), Inv X pins σ H s → RelV x v → Vals xs us → r x xs H Q →
    wpAny (model X.prog X.w) X.A (call (.builtin id) (v :: us)) (EP X pins σ Q) X.xe s
section
variable {X : Cx} {a b : Expr} {ta tb : TE} {pos : Pos}
theorem IxR.or {r r' : R2} (h : IxR X r) (h' : IxR X r') : IxR X (fun x y H Q => r x y H Q ∨ r' x y H Q) := by
  intro value slice pins s σ H x y v u Q I rx ry q hs
  rcases q with q | q
  · exact h value slice pins s σ H x y v u Q I rx ry q hs
  · exact h' value slice pins s σ H x y v u Q I rx ry q hs
theorem MtR.or {id : String} {r r' : V → List V → Hp → VK → Prop} (h : MtR X id r) (h' : MtR X id r') : MtR X id (fun x xs H Q => r x xs H Q ∨ r' x xs H Q) := by
  intro pins s σ H x xs v us Q I rx rs q
  rcases q with q | q
  · exact h pins s σ H x xs v us Q I rx rs q
  · exact h' pins s σ H x xs v us Q I rx rs q
theorem pe_ix {r : R2} (hr : IxR X r) (ha : PE X a ta) (hb : PE X b tb) (hs : PlainIx b) : PE X (.Subscript a b pos) (tOp r ta tb) := by
  intro pins s σ H Q I h
  exact Subscript_ (binT ha hb I h fun v u s2 x y H2 I2 rx ry q => hr a b pins s2 σ H2 x y v u Q I2 rx ry q (hs _ _))
def rIxL (K : PySem.W.Frag) : R2 := fun x y H Q => ∃ p xs i v, x = .ref p ∧ y = .int i ∧ SqL K H p xs ∧ atI xs i = some v ∧ Q v H
def rIxT (K : PySem.W.Frag) : R2 := fun x y H Q => ∃ p xs i v, x = .ref p ∧ y = .int i ∧ SqT K H p xs ∧ atI xs i = some v ∧ Q v H
theorem ix_list : IxR X (rIxL X.K) := by
  intro value slice pins s σ H x y v u Q I rx ry h hs
  obtain ⟨p, xs, i, z, rfl, rfl, hq, he, q⟩ := h
  cases rx
  obtain ⟨t, rfl⟩ := ry
  obtain ⟨its, r, pl, hz⟩ := I.list hq
  obtain ⟨j, h1, h2, h3, h4, h5⟩ := atI_get he
  obtain ⟨w, ew, rw'⟩ := r.get h2
  have hl := r.length
  have hn := line63
  have fin : EP X pins σ Q w s := ⟨z, H, I, rw', q⟩
  by_cases h0 : 0 ≤ i
  · have hj : i.toNat = j := by
      rw [seqIndex_of h0 h5] at h1
      exact Option.some.inj h1
    exact item_listR pl.isList h0 (by omega) (by rw [hj]; simpa using ew) fin hs
  · have hj : (i + (its.toArray.size : Int)).toNat = j := by
      rw [seqIndex_neg (by omega) h4] at h1
      rw [List.size_toArray, ← hl]
      exact Option.some.inj h1
    exact subscriptTail_builtinR (x := w) pl.isList.typeIs slot_list_getitem.lookup
      (wpAny_getItem_list_neg (Q := fun r s' => r = w ∧ EP X pins σ Q r s') pl.isList (by omega) (by rw [List.size_toArray] <;> omega) (by omega) (by rw [hj]; simpa using ew) ⟨rfl, fin⟩) hs
theorem ix_tup : IxR X (rIxT X.K) := by
  intro value slice pins s σ H x y v u Q I rx ry h hs
  obtain ⟨p, xs, i, z, rfl, rfl, hq, he, q⟩ := h
  cases rx
  obtain ⟨t, rfl⟩ := ry
  obtain ⟨its, r, pl, hz⟩ := I.tuple hq
  obtain ⟨j, h1, h2, h3, h4, h5⟩ := atI_get he
  obtain ⟨w, ew, rw'⟩ := r.get h2
  have hl := r.length
  have hn := line63
  have fin : EP X pins σ Q w s := ⟨z, H, I, rw', q⟩
  exact subscriptTail_builtinR (x := w) pl.typeIs slot_tuple_getitem.lookup
    (getItem_tuple (j := j) (Q := fun r s' => r = w ∧ EP X pins σ Q r s') pl (by omega) (by omega) (by rw [List.size_toArray, ← hl]; exact h1) (by simpa using ew) ⟨rfl, fin⟩) hs
theorem mapSeq_set (its : List Value) (n j : Nat) (u : Value) : Obj.mapSeq (·.setIfInBounds j u) { cls := .type "list", data := .seq its.toArray n } = { cls := .type "list", data := .seq (its.set j u).toArray n } := by
  simp [Obj.mapSeq]
theorem Inv.lst {pins : List (Addr × Obj)} {σ : St} {H : Hp} {s : Shared} {p : Addr} {xs : List V} (I : Inv X pins σ H s) (h : H p = some (.lst xs)) :
    ∃ (its : List Value) (n : Nat), Vals xs its ∧ s.heap.get? p = some { cls := .type "list", data := .seq its.toArray n } ∧ xs.length ≤ sizeLine := by
  obtain ⟨z, its, n, r, e⟩ := I.hok p _ h
  exact ⟨its, n, r, e, z⟩
theorem Inv.lstUpd {pins : List (Addr × Obj)} {σ : St} {H : Hp} {s : Shared} {p : Addr} {xs ys : List V} {its its' : List Value} {n n' : Nat} {f : Obj → Obj} (I : Inv X pins σ H s) (h : H p = some (.lst xs))
    (ho : s.heap.get? p = some { cls := .type "list", data := .seq its.toArray n }) (hf : f { cls := .type "list", data := .seq its.toArray n } = { cls := .type "list", data := .seq its'.toArray n' }) (r : Vals ys its') (hz : ys.length ≤ sizeLine) (t : Nat) :
    Inv X pins σ (upd H p (.lst ys)) { s with heap := s.heap.update p f, toks := t } := by
  have e : (s.heap.update p f).get? p = some { cls := .type "list", data := .seq its'.toArray n' } := by
    rw [Heap.get?_update_self f ho (by rw [hf] <;> rfl), hf]
  refine I.write (x := p) (e := p) (by rw [h]; trivial) (.inl rfl) (fun b u hb q => (Heap.get?_update_other _ _ (Ne.symm hb)).trans q) ⟨_, e⟩ ?_
  exact ⟨hz, its', n', r, e⟩
def rSetL : V → V → V → Hp → (Hp → Prop) → Prop := fun o i v H Q => ∃ p xs k j, o = .ref p ∧ i = .int k ∧ H p = some (.lst xs) ∧ ixN xs.length k = some j ∧ Q (upd H p (.lst (xs.set j v)))
theorem set_list : PSet X rSetL := by
  intro pins s σ H o i v ov iv u Q I ro ri rv h
  obtain ⟨p, xs, k, j, rfl, rfl, hp, hj, q⟩ := h
  cases ro
  obtain ⟨t, rfl⟩ := ri
  obtain ⟨its, n, r, ho, hz⟩ := I.lst hp
  obtain ⟨h1, h2, h3, h4⟩ := ixN_seq hj
  have hl := r.length
  have hn := line63
  have I' : Inv X pins σ (upd H p (.lst (xs.set j v))) { s with heap := s.heap.update p (Obj.mapSeq (·.setIfInBounds j u)) } :=
    I.lstUpd hp ho (mapSeq_set its n j u) (r.set rv j) (by rw [List.length_set]; exact hz) s.toks
  by_cases h0 : 0 ≤ k
  · have hk : k.toNat = j := by
      rw [seqIndex_of h0 h4] at h1
      exact Option.some.inj h1
    exact PySem.W.ki_setAt ho h0 (by omega) (by rw [List.size_toArray, ← hl]; exact h4) (by rw [hk]; exact ⟨_, I', q⟩)
  · have hk : (k + (its.toArray.size : Int)).toNat = j := by
      rw [seqIndex_neg (by omega) h3] at h1
      rw [List.size_toArray, ← hl]
      exact Option.some.inj h1
    exact PySem.W.ki_setBack ho (by omega) (by rw [List.size_toArray, ← hl]; exact h3) (by omega) (by rw [hk]; exact ⟨_, I', q⟩)
theorem slice_bounds (lo hi : Option Int) (n : Nat) : (sliceBounds lo hi none n).1 = ((HT.sIx n 0 lo : Nat) : Int) ∧ (sliceBounds lo hi none n).2.1 = ((HT.sIx n n hi : Nat) : Int) ∧ (sliceBounds lo hi none n).2.2 = 1 := by
  refine ⟨?_, ?_, rfl⟩
  · cases lo with
    | none => simp [sliceBounds, HT.sIx]
    | some i =>
      simp only [sliceBounds, HT.sIx, Option.getD_none, show (1 : Int) > 0 by decide, if_true]
      by_cases h : i < 0
      · simp only [h, if_true] <;> omega
      · simp only [h, if_false] <;> omega
  · cases hi with
    | none => simp [sliceBounds, HT.sIx]
    | some i =>
      simp only [sliceBounds, HT.sIx, Option.getD_none, show (1 : Int) > 0 by decide, if_true]
      by_cases h : i < 0
      · simp only [h, if_true] <;> omega
      · simp only [h, if_false] <;> omega
theorem slicePick_cut (its : List Value) (lo hi : Option Int) : slicePick its.toArray lo hi none = ((its.drop (HT.sIx its.length 0 lo)).take (HT.sIx its.length its.length hi - HT.sIx its.length 0 lo)).toArray := by
  obtain ⟨h1, h2, h3⟩ := slice_bounds lo hi its.toArray.size
  unfold slicePick
  rw [h1, h2, h3]
  simp only [sliceRange_one, pick_run, List.size_toArray] <;> rfl
def rSlL (K : PySem.W.Frag) : V → Option Int → Option Int → Hp → VK → Prop := fun x lo hi H Q => ∃ a xs, x = .ref a ∧ SqL K H a xs ∧ ∀ p, H p = none → Q (.ref p) (upd H p (.lst (cutV xs lo hi)))
theorem sl_list : SlR X (rSlL X.K) := by
  intro pins s σ H x v vl vu lo hi sl Q I rx hs pl pu h
  obtain ⟨a, xs, rfl, hx, q⟩ := h
  cases rx
  obtain ⟨its, r, ht, hz⟩ := I.list hx
  have hlen := r.length
  refine ⟨"list", _, slot_list_getitem.lookup, ht.isList.typeIs, ?_⟩
  refine wpAny_getItem_list_slice ht.isList hs pl pu .none (by simp) ?_ (by rw [List.size_toArray] <;> omega)
  rw [slicePick_cut, ← hlen]
  refine ⟨.ref s.heap.objs.size, _, I.laid (t' := s.toks) (o := .lst (cutV xs lo hi)) (fun b ob q => Heap.get?_push_of_some _ q) (Nat.le_refl _) ?_, rfl, q _ (I.hok.fresh (Nat.le_refl _))⟩
  exact ⟨Nat.le_trans (cutV_length xs lo hi) hz, _, 0, (r.drop (HT.sIx xs.length 0 lo)).take (HT.sIx xs.length xs.length hi - HT.sIx xs.length 0 lo), Heap.get?_push_size _ rfl⟩
theorem call_len_seq : CallR X (.builtin "len") (fun xs H Q => ∃ p ys, xs = [.ref p] ∧ (SqL X.K H p ys ∨ SqT X.K H p ys) ∧ Q (.int ys.length) H) := by
  intro pins s σ H xs us Q I r h
  obtain ⟨p, ys, rfl, hq, q⟩ := h
  obtain ⟨u, rfl, rx⟩ := vals1 r
  cases rx
  have hn := line63
  rcases hq with hq | hq
  · obtain ⟨its, r', pl, hz⟩ := I.list hq
    have hlen := r'.length
    exact Calls.call_len_list pl.isList (by simp only [List.size_toArray] <;> omega) ⟨.int ys.length, H, I.tok _, ⟨s.toks + 1, by rw [List.size_toArray, hlen]⟩, q⟩
  · obtain ⟨its, r', pl, hz⟩ := I.tuple hq
    have hlen := r'.length
    exact len_tuple pl (by simp only [List.size_toArray] <;> omega) ⟨.int ys.length, H, I.tok _, ⟨s.toks + 1, by rw [List.size_toArray, hlen]⟩, q⟩
theorem CallR.or {f : Value} {r r' : List V → Hp → VK → Prop} (h : CallR X f r) (h' : CallR X f r') : CallR X f (fun xs H Q => r xs H Q ∨ r' xs H Q) := by
  intro pins s σ H xs us Q I rs q
  rcases q with q | q
  · exact h pins s σ H xs us Q I rs q
  · exact h' pins s σ H xs us Q I rs q
theorem call_list_of : CallR X (.type "list") (fun xs H Q => ∃ p ys, xs = [.ref p] ∧ (SqL X.K H p ys ∨ SqT X.K H p ys) ∧ ∀ l, H l = none → Q (.ref l) (upd H l (.lst ys))) := by
  intro pins s σ H xs us Q I r h
  obtain ⟨p, ys, rfl, hq, q⟩ := h
  obtain ⟨u, rfl, rx⟩ := vals1 r
  cases rx
  have fin : ∀ (its : List Value), Vals ys its → ys.length ≤ sizeLine → ∀ (h' : Heap) (c' : Nat), (∀ b o', s.heap.get? b = some o' → h'.get? b = some o') →
      h'.get? s.heap.objs.size = some { cls := .type "list", dict := none, data := .seq its.toArray c', slots := #[] } → EP X pins σ Q (.ref s.heap.objs.size) { s with heap := h' } := fun its r' hz h' c' kp e =>
    ⟨.ref s.heap.objs.size, _, I.laid (t' := s.toks) kp (Nat.le_refl _) (show ObjOk X.prog X.w _ h' _ (.lst ys) from ⟨hz, its, c', r', e⟩), rfl, q _ (I.hok.fresh (Nat.le_refl _))⟩
  rcases hq with hq | hq
  · obtain ⟨its, r', pl, hz⟩ := I.list hq
    have hlen := r'.length
    obtain ⟨o, ho, hc, n, hd⟩ := pl.isList
    exact call_list_seq p (.inl rfl) ho hc hd (fun h' c' kp e => fin its r' hz h' c' kp e) (by simp only [List.size_toArray] <;> omega)
  · obtain ⟨its, r', pl, hz⟩ := I.tuple hq
    have hlen := r'.length
    obtain ⟨o, ho, hc, n, hd⟩ := pl
    exact call_list_seq p (.inr rfl) ho hc hd (fun h' c' kp e => fin its r' hz h' c' kp e) (by simp only [List.size_toArray] <;> omega)
def tyV (K : PySem.W.Frag) (T : String) (x : V) (H : Hp) : Prop := match x with
  | .str _ => T = "str"
  | .int _ => T = "int"
  | .ref p => (T = "list" ∧ ∃ xs, SqL K H p xs) ∨ (T = "tuple" ∧ ∃ o, K.lookup p = some o ∧ o.cls = .type "tuple" ∧ o.dict = none) ∨
      (T = "dict" ∧ ((∃ kvs, H p = some (.dK kvs)) ∨ ∃ kvs, H p = some (.dT kvs))) ∨ (T = "set" ∧ ∃ S n, H p = some (.set S n))
  | _ => False
theorem tyV_is {pins : List (Addr × Obj)} {σ : St} {H : Hp} {s : Shared} {T : String} {x : V} {v : Value} (I : Inv X pins σ H s) (r : RelV x v) (ty : tyV X.K T x H) :
    s.TypeIs v T ∧ ∀ a, v = .ref a → ∃ ob, s.heap.get? a = some ob ∧ ob.dict = none := by
  cases x with
  | str z =>
    obtain ⟨t, rfl⟩ := r
    cases (show T = "str" from ty)
    exact ⟨typeIs_str s z t, fun _ e => nomatch e⟩
  | int i =>
    obtain ⟨t, rfl⟩ := r
    cases (show T = "int" from ty)
    exact ⟨typeIs_int s i t, fun _ e => nomatch e⟩
  | ref p =>
    cases r
    rcases ty with ⟨rfl, xs, hq⟩ | ⟨rfl, o, hk, hc, hd⟩ | ⟨rfl, hk⟩ | ⟨rfl, S, n, hk⟩
    · obtain ⟨its, _, pl, _⟩ := I.list hq
      refine ⟨pl.isList.typeIs, fun a e => ?_⟩
      cases e
      obtain ⟨o, n, e, c, hd, _⟩ := pl
      exact ⟨o, e, hd⟩
    · refine ⟨⟨o, I.kIn p o hk, hc⟩, fun a e => ?_⟩
      cases e
      exact ⟨o, I.kIn _ o hk, hd⟩
    · have z : ∃ o, s.heap.get? p = some o ∧ o.ExactDict := by
        rcases hk with ⟨kvs, hk⟩ | ⟨kvs, hk⟩
        · obtain ⟨_, _, _, _, o, _, _, e, ex, _⟩ := I.hok p _ hk
          exact ⟨o, e, ex⟩
        · obtain ⟨_, _, _, _, o, _, _, e, ex, _⟩ := I.hok p _ hk
          exact ⟨o, e, ex⟩
      obtain ⟨o, e, ex⟩ := z
      refine ⟨⟨o, e, ex.1⟩, fun a e2 => ?_⟩
      cases e2
      exact ⟨o, e, ex.2.1⟩
    · obtain ⟨o, _, _, _, e, ex, _⟩ := I.hok p _ hk
      refine ⟨⟨o, e, ex.1⟩, fun a e2 => ?_⟩
      cases e2
      exact ⟨o, e, ex.2.1⟩
  | _ => exact False.elim ty
def tBM (K : PySem.W.Frag) (T : String) (r : V → List V → Hp → VK → Prop) (to : TE) (t : TA) : TE := fun σ H Q => to σ H fun x H1 => tyV K T x H1 ∧ t σ H1 fun xs H2 => r x xs H2 Q
variable {o e : Expr} {es : List Expr} {to : TE} {t : TA} {name : Str} {apos cpos : Pos} {T id : String} {r : V → List V → Hp → VK → Prop}
theorem pe_bm (pa : PlainAttrs T) (slot : Slot T name id) (hty : typeOf (.builtin id) = pure (.type "method_descriptor")) (hm : MtR X id r) (ho : PE X o to) (ha : PA X (e :: es) t)
    (hbase : attributeBase o name X.env (eval o X.env) = eval o X.env := by rfl)
    (hfew : ((backTo cpos (starEach (e :: es) X.env)).all (fun x => !x.1) && (backToKw cpos (keywordEach [] X.env)).all (fun x => x.1.isSome)
      && decide ((e :: es).length + ([] : List Keyword).length + (if ([] : List Keyword).isEmpty then 0 else 1) < 30)) = true := by rfl)
    (hline : (apos.endLine == cpos.line) = true := by rfl) (hs : starEach (e :: es) X.env = (false, eval e X.env) :: starEach es X.env := by rfl) (hplain : (backTo cpos (starEach es X.env)).any (·.1) = false := by rfl) :
    PE X (.Call (.Attribute o name apos) (e :: es) [] cpos) (tBM X.K T r to t) := by
  intro pins s σ H Q I h
  refine wpAny_Call_method_late hbase hfew hline rfl (thn (ho pins s σ H _ I h) fun v s1 ⟨x, H1, I1, r1, ty, q1⟩ => ?_)
  obtain ⟨h1, h2⟩ := tyV_is I1 r1 ty
  refine ⟨T, id, pa, slot, hty, h1, h2, ?_⟩
  have hA := ha cpos pins s1 σ H1 _ I1 q1
  rw [hs] at hA ⊢
  refine Calls.callWith_builtin (by show (false || (backTo cpos (starEach es X.env)).any (·.1)) = false; rw [hplain] <;> rfl) (Calls.evalArgs_plain ?_)
  exact thn hA fun us s2 ⟨vs, H2, I2, r2, q2⟩ => hm pins s2 σ H2 x vs v us Q I2 r1 r2 q2
end
end L2
namespace L2
open PySem PySem.Spec PyProof.Rows
def MtM (X : Cx) (id : String) (r : V → List V → Hp → VK → Prop) : Prop :=
  ∀ (pins : List (Addr × Obj)) (s : Shared) (σ : St) (H : Hp) (x : V) (xs : List V) (v : Value) (us : List Value) (Q : VK), Inv X pins σ H s → RelV x v → Vals xs us → r x xs H Q →
    wpAny (model X.prog X.w) X.A (call (.builtin id) (v :: us)) (EP X pins σ Q) X.xe s
theorem Vals.one : ∀ {x : V} {us : List Value}, Vals [x] us → ∃ u, us = [u] ∧ RelV x u
  | _, _, .cons r .nil => ⟨_, rfl, r⟩
theorem Vals.two : ∀ {x y : V} {us : List Value}, Vals [x, y] us → ∃ u v, us = [u, v] ∧ RelV x u ∧ RelV y v
  | _, _, _, .cons r (.cons q .nil) => ⟨_, _, rfl, r, q⟩
theorem Vals.zero : ∀ {us : List Value}, Vals [] us → us = []
  | _, .nil => rfl
theorem Vals.dropLast {xs : List V} {us : List Value} (h : Vals xs us) : Vals xs.dropLast us.dropLast := by
  induction h with
  | nil => exact .nil
  | cons r t ih =>
    cases t with
    | nil => exact .nil
    | cons q t' => exact .cons r ih
theorem Vals.reverse {xs : List V} {us : List Value} (h : Vals xs us) : Vals xs.reverse us.reverse := by
  induction h with
  | nil => exact .nil
  | cons r t ih => rw [List.reverse_cons, List.reverse_cons]; exact Vals.append ih (.cons r .nil)
section
variable {X : Cx} {pins : List (Addr × Obj)} {σ : St} {H : Hp} {s : Shared} {l b : Addr} {xs ys zs : List V}
theorem Inv.lset {its its' : List Value} {n : Nat} {f : Array Value → Array Value} {t' : Nat} (I : Inv X pins σ H s) (hH : H l = some (.lst xs))
    (e : s.heap.get? l = some { cls := .type "list", data := .seq its.toArray n }) (hf : f its.toArray = its'.toArray) (hv : Vals ys its') (hz : ys.length ≤ sizeLine) :
    Inv X pins σ (upd H l (.lst ys)) { s with heap := s.heap.update l (Obj.mapSeq f), toks := t' } := by
  have q := PySem.IsL.update e f
  rw [hf] at q
  refine I.write (x := l) (e := l) (by rw [hH]; exact trivial) (.inl rfl) (fun b' u hb hu => (Heap.get?_update_other s.heap (Obj.mapSeq f) (Ne.symm hb)).trans hu) ⟨_, q⟩ ?_
  exact ⟨hz, its', _, hv, q⟩
theorem Inv.lnew {its : List Value} {t' : Nat} (I : Inv X pins σ H s) (hv : Vals ys its) (hz : ys.length ≤ sizeLine) :
    Inv X pins σ (upd H s.heap.objs.size (.lst ys)) { s with heap := s.heap.push { cls := .type "list", data := .seq its.toArray }, toks := t' } :=
  I.laid (fun _ _ q => Heap.get?_push_of_some _ q) (Nat.le_refl _) ⟨hz, its, 0, hv, Heap.get?_push_size _ rfl⟩
theorem Inv.fresh (I : Inv X pins σ H s) : H s.heap.objs.size = none := I.hok.fresh (Nat.le_refl _)
theorem Inv.lstM (I : Inv X pins σ H s) (hH : H l = some (.lst xs)) : xs.length ≤ sizeLine ∧ ∃ (its : List Value) (n : Nat), Vals xs its ∧ xs.length = its.length ∧ s.heap.get? l = some { cls := .type "list", data := .seq its.toArray n } := by
  obtain ⟨z, its, n, r, e⟩ := I.hok l _ hH
  exact ⟨z, its, n, r, r.length, e⟩
theorem notLongL {n : Nat} (h : n ≤ sizeLine) : Builtin.List.listTooLong n = false := by
  unfold Builtin.List.listTooLong
  exact decide_eq_false (by omega)
end
section
variable {X : Cx}
def rAppend : V → List V → Hp → VK → Prop := fun x vs H Q => ∃ l xs y, x = .ref l ∧ vs = [y] ∧ H l = some (.lst xs) ∧ xs.length < sizeLine ∧ Q .non (upd H l (.lst (xs ++ [y])))
theorem mt_append : MtM X "list.append" rAppend := by
  intro pins s σ H x vs v us Q I rx rv h
  obtain ⟨l, xs, y, rfl, rfl, hH, hz, q⟩ := h
  cases rx
  obtain ⟨u, rfl, ru⟩ := rv.one
  obtain ⟨z, its, n, r, hl, e⟩ := I.lstM hH
  refine call_meets F.slot_list_append ⟨_, e, rfl⟩ F.entry_list_append (F.args_list_append_2 _ _) (PySem.list_append l its.toArray n u (by rw [List.size_toArray]; omega)) ⟨e, ?_⟩
  refine ⟨.non, _, I.lset (its' := its ++ [u]) hH e (by simp) (r.append (.cons ru .nil)) ?_, rfl, q⟩
  rw [List.length_append, List.length_singleton]
  omega
def rExtend : V → List V → Hp → VK → Prop := fun x vs H Q => ∃ l b xs zs, x = .ref l ∧ vs = [.ref b] ∧ H l = some (.lst xs) ∧ H b = some (.lst zs) ∧ xs.length + zs.length ≤ sizeLine ∧ Q .non (upd H l (.lst (xs ++ zs)))
theorem mt_extend : MtM X "list.extend" rExtend := by
  intro pins s σ H x vs v us Q I rx rv h
  obtain ⟨l, b, xs, zs, rfl, rfl, hH, hB, hz, q⟩ := h
  cases rx
  obtain ⟨u, rfl, ru⟩ := rv.one
  cases ru
  obtain ⟨z, its, n, r, hl, e⟩ := I.lstM hH
  obtain ⟨z2, its2, n2, r2, hl2, e2⟩ := I.lstM hB
  have hsz : its.toArray.size + its2.toArray.size ≤ sizeLine := by rw [List.size_toArray, List.size_toArray]; omega
  have hlong : ¬ (!its.toArray.isEmpty && Builtin.List.listTooLong (its.toArray.size + its2.toArray.size)) = true := by
    rw [notLongL hsz, Bool.and_false]
    exact Bool.false_ne_true
  refine call_meets F.slot_list_extend ⟨_, e, rfl⟩ F.entry_list_extend (F.args_list_extend_2 _ _)
    (AutoSeq1.list_extend_list_list_0 l its.toArray n b its2.toArray n2 hlong (by rw [List.size_toArray]; omega) (by omega)) ⟨e, e2, ?_⟩
  refine ⟨.non, _, I.lset (its' := its ++ its2) hH e (by simp) (r.append r2) ?_, rfl, q⟩
  rw [List.length_append]
  omega
def rCat : R2 := fun x y H Q => ∃ l b xs zs, x = .ref l ∧ y = .ref b ∧ H l = some (.lst xs) ∧ H b = some (.lst zs) ∧ xs.length + zs.length ≤ sizeLine ∧ ∀ p, H p = none → Q (.ref p) (upd H p (.lst (xs ++ zs)))
theorem op_cat : OpR X (binaryOp .Add) rCat := by
  intro pins s σ H x y v u Q I rx ry h
  obtain ⟨l, b, xs, zs, rfl, rfl, hH, hB, hz, q⟩ := h
  cases rx
  cases ry
  obtain ⟨z, its, n, r, hl, e⟩ := I.lstM hH
  obtain ⟨z2, its2, n2, r2, hl2, e2⟩ := I.lstM hB
  refine PySem.P.add_list e e2 ?_ (by rw [List.size_toArray, List.size_toArray]; omega)
  have ea : its.toArray ++ its2.toArray = (its ++ its2).toArray := by simp
  rw [ea]
  exact ⟨.ref _, _, I.lnew (t' := s.toks) (r.append r2) (by rw [List.length_append]; omega), rfl, q _ I.fresh⟩
end
section
variable {prog : Program} {w : World} {A : Around} {E : Value → Shared → Prop} {s : Shared}
set_option maxRecDepth 100000 in
end
section
variable {X : Cx}
end
end L2
namespace L2
open PySem PySem.Spec PyProof.Rows
theorem Vals.ints : ∀ {ns : List Int} {us : List Value}, Vals (ns.map V.int) us → IntsAre us ns
  | [], us, h => by
    rw [List.map_nil] at h
    cases h
    exact IntsAre.nil
  | n :: ns, us, h => by
    rw [List.map_cons] at h
    cases h with
    | cons r t =>
      obtain ⟨k, rfl⟩ := r
      exact IntsAre.cons n k (Vals.ints t)
theorem Vals.strs : ∀ {xs : List Str} {us : List Value}, Vals (xs.map V.str) us → StrsAre us xs
  | [], us, h => by
    rw [List.map_nil] at h
    cases h
    exact StrsAre.nil
  | x :: xs, us, h => by
    rw [List.map_cons] at h
    cases h with
    | cons r t =>
      obtain ⟨k, rfl⟩ := r
      exact StrsAre.cons x k (Vals.strs t)
theorem Vals.ref1 {a : Addr} {us : List Value} (r : Vals [V.ref a] us) : us = [Value.ref a] := by
  cases r with
  | cons r t =>
    cases t
    cases r
    rfl
section
variable {prog : Program} {w : World} {A : Around} {E : Value → Shared → Prop} {s : Shared} {l : Addr} {its : List Value} {ns : List Int} {Q : Value → Shared → Prop}
theorem max_raw (hh : A.handled = none) (hl : s.heap.IsList l its.toArray) (hi : IntsAre its ns) (hne : 0 < ns.length)
    (h : ∀ h' tk M t', (∀ b o, s.heap.get? b = some o → h'.get? b = some o) → M ∈ ns → (∀ a, a ∈ ns → a ≤ M) → Q (.int M t') { s with heap := h', toks := tk }) : wpAny (model prog w) A (call (.builtin "max") [.ref l]) Q E s := by
  obtain ⟨xs, e⟩ := hi.allInts.items
  have hn : numsOf (intItems xs).toList = ns := by rw [← e]; exact hi.numsOf
  rw [nums_intItems] at hn
  subst hn
  rw [e] at hl
  have hsz : 0 < xs.size := by simpa using hne
  refine PySem.max_intList hh hl hsz fun v h' tk hv hk => ?_
  obtain ⟨t, rfl⟩ := intItems_at hv
  obtain ⟨h1, h2⟩ := argBest_gt (numAt xs) (xs.size - 1)
  refine h h' tk _ t hk ?_ fun a ha => ?_
  · rw [numAt_eq]; exact PySem.getD_mem (by rw [List.length_map, Array.length_toList]; omega)
  · obtain ⟨j, hj, rfl⟩ := mem_getD ha
    rw [List.length_map, Array.length_toList] at hj
    rw [← numAt_eq]; exact h2 j (by omega)
theorem min_raw (hh : A.handled = none) (hl : s.heap.IsList l its.toArray) (hi : IntsAre its ns) (hne : 0 < ns.length)
    (h : ∀ h' tk M t', (∀ b o, s.heap.get? b = some o → h'.get? b = some o) → M ∈ ns → (∀ a, a ∈ ns → M ≤ a) → Q (.int M t') { s with heap := h', toks := tk }) : wpAny (model prog w) A (call (.builtin "min") [.ref l]) Q E s := by
  obtain ⟨xs, e⟩ := hi.allInts.items
  have hn : numsOf (intItems xs).toList = ns := by rw [← e]; exact hi.numsOf
  rw [nums_intItems] at hn
  subst hn
  rw [e] at hl
  have hsz : 0 < xs.size := by simpa using hne
  refine PySem.min_intList hh hl hsz fun v h' tk hv hk => ?_
  obtain ⟨t, rfl⟩ := intItems_at hv
  obtain ⟨h1, h2⟩ := argBest_lt (numAt xs) (xs.size - 1)
  refine h h' tk _ t hk ?_ fun a ha => ?_
  · rw [numAt_eq]; exact PySem.getD_mem (by rw [List.length_map, Array.length_toList]; omega)
  · obtain ⟨j, hj, rfl⟩ := mem_getD ha
    rw [List.length_map, Array.length_toList] at hj
    rw [← numAt_eq]; exact h2 j (by omega)
end
section
variable {X : Cx}
def rMax (K : PySem.W.Frag) : List V → Hp → VK → Prop := fun vs H Q => ∃ (a : Addr) (ns : List Int), vs = [V.ref a] ∧ SqL K H a (ns.map V.int) ∧ 0 < ns.length ∧ ∀ m, m ∈ ns → (∀ y, y ∈ ns → y ≤ m) → Q (.int m) H
def rMin (K : PySem.W.Frag) : List V → Hp → VK → Prop := fun vs H Q => ∃ (a : Addr) (ns : List Int), vs = [V.ref a] ∧ SqL K H a (ns.map V.int) ∧ 0 < ns.length ∧ ∀ m, m ∈ ns → (∀ y, y ∈ ns → m ≤ y) → Q (.int m) H
theorem cr_max (hc : X.calm = true) : CallR X (.builtin "max") (rMax X.K) := by
  intro pins s σ H vs us Q I r h
  obtain ⟨a, ns, rfl, hs, hne, q⟩ := h
  obtain ⟨its, rv, hl, _⟩ := I.list hs
  rw [Vals.ref1 r]
  exact max_raw (I.ok.hd hc) hl.isList rv.ints hne fun h' tk m t' hk h1 h2 => ⟨.int _, H, I.kept hk, ⟨_, rfl⟩, q m h1 h2⟩
theorem cr_min (hc : X.calm = true) : CallR X (.builtin "min") (rMin X.K) := by
  intro pins s σ H vs us Q I r h
  obtain ⟨a, ns, rfl, hs, hne, q⟩ := h
  obtain ⟨its, rv, hl, _⟩ := I.list hs
  rw [Vals.ref1 r]
  exact min_raw (I.ok.hd hc) hl.isList rv.ints hne fun h' tk m t' hk h1 h2 => ⟨.int _, H, I.kept hk, ⟨_, rfl⟩, q m h1 h2⟩
end
section
variable {X : Cx}
end
section
variable {X : Cx}
end
section
variable {X : Cx}
end
mutual
inductive Dp (K : PySem.W.Frag) (H : Hp) : V → PyData → Prop
  | non : Dp K H .non .none
  | bl (b : Bool) : Dp K H (.bl b) (.bool b)
  | int (i : Int) : Dp K H (.int i) (.int i)
  | str (x : Str) : Dp K H (.str x) (.str x)
  | lst {a : Addr} {xs : List V} {ds : List PyData} : SqL K H a xs → DpAll K H xs ds → Dp K H (.ref a) (.list ds)
  | tup {a : Addr} {xs : List V} {ds : List PyData} : SqT K H a xs → DpAll K H xs ds → Dp K H (.ref a) (.tuple ds)
inductive DpAll (K : PySem.W.Frag) (H : Hp) : List V → List PyData → Prop
  | nil : DpAll K H [] []
  | cons {v : V} {vs : List V} {d : PyData} {ds : List PyData} : Dp K H v d → DpAll K H vs ds → DpAll K H (v :: vs) (d :: ds)
end
section
variable {X : Cx} {pins : List (Addr × Obj)} {σ : St} {H : Hp} {s : Shared}
mutual
theorem Dp.reads (I : Inv X pins σ H s) : ∀ (d : PyData) (v : V) (u : Value), Dp X.K H v d → RelV v u → ∃ as, Reads s.heap u d as
  | .none, _, _, h, r => by
    cases h
    cases r
    exact ⟨_, Reads.none⟩
  | .bool b, _, _, h, r => by
    cases h
    cases r
    exact ⟨_, Reads.bool b⟩
  | .int i, _, _, h, r => by
    cases h
    obtain ⟨t, rfl⟩ := r
    exact ⟨_, Reads.int i t⟩
  | .str x, _, _, h, r => by
    cases h
    obtain ⟨t, rfl⟩ := r
    exact ⟨_, Reads.str x t⟩
  | .list ds, _, _, h, r => by
    cases h with
    | lst hs ha =>
      cases r
      obtain ⟨its, rv, ⟨o, n, ho, hc, _, hd⟩, _⟩ := I.list hs
      obtain ⟨as, hr⟩ := Dp.readsAll I ds _ its ha rv
      exact ⟨_, Reads.list ho hc hd hr⟩
  | .tuple ds, _, _, h, r => by
    cases h with
    | tup hs ha =>
      cases r
      obtain ⟨its, rv, ⟨o, ho, hc, n, hd⟩, _⟩ := I.tuple hs
      obtain ⟨as, hr⟩ := Dp.readsAll I ds _ its ha rv
      exact ⟨_, Reads.tuple ho hc hd hr⟩
  | .dict _, _, _, h, _ => by cases h
theorem Dp.readsAll (I : Inv X pins σ H s) : ∀ (ds : List PyData) (vs : List V) (us : List Value), DpAll X.K H vs ds → Vals vs us → ∃ as, ReadsAll s.heap us ds as
  | [], _, _, h, r => by
    cases h
    cases r
    exact ⟨_, ReadsAll.nil⟩
  | d :: ds, _, _, h, r => by
    cases h with
    | cons h1 h2 =>
      cases r with
      | cons r1 r2 =>
        obtain ⟨as, q1⟩ := Dp.reads I d _ _ h1 r1
        obtain ⟨bs, q2⟩ := Dp.readsAll I ds _ _ h2 r2
        exact ⟨_, ReadsAll.cons q1 q2⟩
end
end
section
variable {X : Cx}
end
end L2
namespace L2
open PySem PySem.Spec PyProof.Rows
abbrev CellAt (h : Heap) (c : Addr) (v : Option Value) : Prop := h.IsCell c v
def relS (scope sc : Scope) : Scope :=
  { scope with names := scope.names.map fun (n, k) => if (k == .free && sc.kind == .function && sc.names.lookup n == some .cell) then (n, .cell) else (n, k) }
def cloFrom (cells : List (Str × Addr)) : List (Str × NameKind) → List (Str × Addr) → List (Str × Addr)
  | [], acc => acc
  | (n, k) :: r, acc => if k == .free then cloFrom cells r ((n, (cells.lookup n).getD 0) :: acc) else cloFrom cells r acc
theorem closure_loop (env : Env) (f : Str × NameKind → List (Str × Addr) → Sem (ForInStep (List (Str × Addr))))
    (hf : ∀ n k c, f (n, k) c = if k == .free then (do let a ← cellOf env n; pure (.yield ((n, a) :: c))) else pure (.yield c)) :
    ∀ (names : List (Str × NameKind)) (acc : List (Str × Addr)), (∀ y ∈ names, y.2 = .free → ∃ c, env.cells.lookup y.1 = some c) → forIn names acc f = pure (cloFrom env.cells names acc)
  | [], acc, _ => by rw [List.forIn_nil]; rfl
  | (n, k) :: r, acc, h => by
    rw [List.forIn_cons, hf]
    have ih := fun acc => closure_loop env f hf r acc fun y hy => h y (List.mem_cons_of_mem _ hy)
    unfold cloFrom
    by_cases hk : (k == NameKind.free) = true
    · rw [if_pos hk, if_pos hk]
      obtain ⟨c, hc⟩ := h (n, k) List.mem_cons_self (by simpa using hk)
      have e : cellOf env n = pure c := by unfold cellOf; rw [hc]
      rw [e]
      have e2 : (env.cells.lookup n).getD 0 = c := by rw [hc]; rfl
      rw [e2]
      exact ih _
    · rw [if_neg hk, if_neg hk]
      exact ih _
theorem closure_ok {scope : Scope} {env : Env} (h : ∀ y ∈ scope.names, y.2 = .free → ∃ c, env.cells.lookup y.1 = some c) : closureFor scope env = pure (cloFrom env.cells scope.names []) := by
  simp only [closureFor]
  rw [closure_loop env _ (fun n k c => rfl) scope.names [] h]
  rfl
theorem mem_lookup {α : Type} : ∀ {l : List (Str × α)} {n : Str} {c : α}, (n, c) ∈ l → ∃ c', l.lookup n = some c'
  | (k, v) :: r, n, c, h => by
    rw [List.lookup_cons]
    cases hb : n == k with
    | true => exact ⟨_, rfl⟩
    | false =>
      rcases List.mem_cons.mp h with e | h
      · cases e; simp at hb
      · exact mem_lookup h
theorem cloFrom_mem {cells : List (Str × Addr)} : ∀ {names : List (Str × NameKind)} {acc : List (Str × Addr)} {n : Str} {c : Addr}, (n, c) ∈ cloFrom cells names acc → (n, c) ∈ acc ∨ ((n, .free) ∈ names ∧ c = (cells.lookup n).getD 0)
  | [], _, _, _, h => .inl h
  | (m, k) :: r, acc, n, c, h => by
    unfold cloFrom at h
    split at h
    · rename_i hk
      have hk : k = .free := by simpa using hk
      rcases cloFrom_mem h with h | ⟨h1, h2⟩
      · rcases List.mem_cons.mp h with e | h
        · cases e; exact .inr ⟨hk ▸ List.mem_cons_self, rfl⟩
        · exact .inl h
      · exact .inr ⟨List.mem_cons_of_mem _ h1, h2⟩
    · rcases cloFrom_mem h with h | ⟨h1, h2⟩
      · exact .inl h
      · exact .inr ⟨List.mem_cons_of_mem _ h1, h2⟩
theorem cloFrom_acc {cells : List (Str × Addr)} : ∀ {names : List (Str × NameKind)} {acc : List (Str × Addr)} {p : Str × Addr}, p ∈ acc → p ∈ cloFrom cells names acc
  | [], _, _, h => h
  | (m, k) :: r, acc, p, h => by
    unfold cloFrom
    split
    · exact cloFrom_acc (List.mem_cons_of_mem _ h)
    · exact cloFrom_acc h
theorem cloFrom_has {cells : List (Str × Addr)} : ∀ {names : List (Str × NameKind)} {acc : List (Str × Addr)} {n : Str}, (n, .free) ∈ names → (n, (cells.lookup n).getD 0) ∈ cloFrom cells names acc
  | (m, k) :: r, acc, n, h => by
    unfold cloFrom
    rcases List.mem_cons.mp h with e | h
    · cases e
      exact cloFrom_acc List.mem_cons_self
    · split
      · exact cloFrom_has h
      · exact cloFrom_has h
theorem cells_mem : ∀ {names : List (Str × NameKind)} {h : Heap} {acc : List (Str × Addr)} {x : Str} {c : Addr}, (x, c) ∈ cellsFrom h.objs.size names acc →
    (x, c) ∈ acc ∨ ((x, .cell) ∈ names ∧ h.objs.size ≤ c ∧ CellAt (pushCells h names) c none)
  | [], _, _, _, _, h => .inl h
  | (n, k) :: r, h, acc, x, c, hm => by
    unfold cellsFrom at hm
    unfold pushCells
    split at hm
    · rename_i hk
      rw [if_pos hk]
      have hk : k = .cell := by simpa using hk
      rw [← Heap.size_push h { cls := .type "cell", data := .cell none }] at hm
      rcases cells_mem hm with hm | ⟨h1, h2, h3⟩
      · rcases List.mem_cons.mp hm with e | hm
        · cases e
          exact .inr ⟨hk ▸ List.mem_cons_self, Nat.le_refl _, _, pushCells_keeps r _ _ _ (Heap.get?_push_size _ rfl), rfl⟩
        · exact .inl hm
      · rw [Heap.size_push] at h2
        exact .inr ⟨List.mem_cons_of_mem _ h1, Nat.le_of_succ_le h2, h3⟩
    · rename_i hk
      rw [if_neg hk]
      rcases cells_mem hm with hm | ⟨h1, h2, h3⟩
      · exact .inl hm
      · exact .inr ⟨List.mem_cons_of_mem _ h1, h2, h3⟩
theorem cells_acc : ∀ {names : List (Str × NameKind)} {n : Nat} {acc : List (Str × Addr)} {p : Str × Addr}, p ∈ acc → p ∈ cellsFrom n names acc
  | [], _, _, _, h => h
  | (m, k) :: r, n, acc, p, h => by
    unfold cellsFrom
    split
    · exact cells_acc (List.mem_cons_of_mem _ h)
    · exact cells_acc h
theorem cells_has : ∀ {names : List (Str × NameKind)} {n : Nat} {acc : List (Str × Addr)} {x : Str}, (x, .cell) ∈ names → ∃ c, (x, c) ∈ cellsFrom n names acc
  | (m, k) :: r, n, acc, x, h => by
    unfold cellsFrom
    rcases List.mem_cons.mp h with e | h
    · cases e
      exact ⟨n, cells_acc List.mem_cons_self⟩
    · split
      · exact cells_has h
      · exact cells_has h
theorem cells_inj : ∀ {names : List (Str × NameKind)} {h : Heap} {acc : List (Str × Addr)} {x y : Str} {c : Addr}, (∀ p ∈ acc, p.2 < h.objs.size) → (∀ x y c, (x, c) ∈ acc → (y, c) ∈ acc → x = y) →
    (x, c) ∈ cellsFrom h.objs.size names acc → (y, c) ∈ cellsFrom h.objs.size names acc → x = y
  | [], _, _, _, _, _, _, hi, h1, h2 => hi _ _ _ h1 h2
  | (n, k) :: r, h, acc, x, y, c, hl, hi, h1, h2 => by
    unfold cellsFrom at h1 h2
    split at h1
    · rename_i hk
      rw [if_pos hk] at h2
      rw [← Heap.size_push h { cls := .type "cell", data := .cell none }] at h1 h2
      refine cells_inj (h := h.push _) (fun p hp => ?_) (fun x y c a b => ?_) h1 h2
      · rw [Heap.size_push]
        rcases List.mem_cons.mp hp with rfl | hp
        · exact Nat.lt_succ_self _
        · exact Nat.lt_succ_of_lt (hl p hp)
      · rcases List.mem_cons.mp a with e | a <;> rcases List.mem_cons.mp b with e' | b
        · cases e; cases e'; rfl
        · cases e; exact absurd (hl _ b) (Nat.lt_irrefl _)
        · cases e'; exact absurd (hl _ a) (Nat.lt_irrefl _)
        · exact hi _ _ _ a b
    · rename_i hk
      rw [if_neg hk] at h2
      exact cells_inj hl hi h1 h2
theorem newEnv_comp {M : Model} {A : Around} {E : Value → Shared → Prop} {s : Shared} {scope : Scope} {globals : Addr} {closure : List (Str × Addr)} {qual : Str} {func : Option Addr} {code : Value} {around : Env} {builtins : Addr} {Q : Env → Shared → Prop}
    (h : Q (newEnv scope s.heap.objs.size globals (cellsFrom (s.heap.objs.size + 1) scope.names closure) qual func code (some around) builtins)
      { s with heap := pushCells (s.heap.push { cls := .type "dict", data := .dict #[] }) scope.names }) :
    wpAny M A (newFunctionEnv scope globals closure [] qual func code (some around) builtins) Q E s := by
  simp only [newFunctionEnv, Option.isSome_some, if_true]
  refine wpAny_bind (wpAny_alloc ?_)
  refine wpAny_bind (wpAny_layCells _ (fun n k c => rfl) scope.names closure _ _ ?_)
  rw [show ({ s with heap := s.heap.push { cls := .type "dict", data := .dict #[] } } : Shared).heap.objs.size = s.heap.objs.size + 1 from Heap.size_push ..]
  rw [List.forIn_nil]
  exact wpAny_bind (wpAny_pure (wpAny_pure h))
theorem lookup_relS {sc : Scope} : ∀ {names : List (Str × NameKind)} {x : Str} {k : NameKind},
    (names.map fun (n, k) => if (k == NameKind.free && sc.kind == .function && sc.names.lookup n == some .cell) then (n, NameKind.cell) else (n, k)).lookup x = some k →
    ∃ k', names.lookup x = some k' ∧ (k = k' ∨ (k' = .free ∧ k = .cell))
  | [], _, _, h => by simp at h
  | (n, k₀) :: r, x, k, h => by
    have ih := @lookup_relS sc r x k
    have h' : List.lookup x ((if (k₀ == NameKind.free && sc.kind == .function && sc.names.lookup n == some .cell) = true then (n, NameKind.cell) else (n, k₀)) :: (r.map _)) = some k := h
    cases hx : x == n with
    | true =>
      simp only [List.lookup_cons, hx]
      by_cases hc : (k₀ == NameKind.free && sc.kind == .function && sc.names.lookup n == some .cell) = true
      · rw [if_pos hc] at h'
        simp only [List.lookup_cons, hx] at h'
        cases h'
        simp only [Bool.and_eq_true, beq_iff_eq] at hc
        exact ⟨k₀, rfl, .inr ⟨hc.1.1, rfl⟩⟩
      · rw [if_neg hc] at h'
        simp only [List.lookup_cons, hx] at h'
        cases h'
        exact ⟨_, rfl, .inl rfl⟩
    | false =>
      simp only [List.lookup_cons, hx]
      by_cases hc : (k₀ == NameKind.free && sc.kind == .function && sc.names.lookup n == some .cell) = true
      · rw [if_pos hc] at h'
        simp only [List.lookup_cons, hx] at h'
        exact ih h'
      · rw [if_neg hc] at h'
        simp only [List.lookup_cons, hx] at h'
        exact ih h'
structure BlkOk (N : List Str) (sc scope : Scope) (own : List (Str × Nat)) : Prop where
  kind : scope.kind = .function
  uniq : ∀ y ∈ scope.names, scope.names.lookup y.1 = some y.2
  ix : ∀ p ∈ own, N[p.2]? = some p.1
  free : ∀ y ∈ scope.names, y.2 = .free → sc.names.lookup y.1 = some .cell ∨ sc.names.lookup y.1 = some .free
  own : ∀ y ∈ scope.names, y.2 = .local ∨ y.2 = .cell → y.1 ∈ own.map (·.1) ∨ y.1 ∉ N
def wipe (σ : St) : List Nat → St
  | [] => σ
  | v :: vs => (wipe σ vs).set v none
theorem wipe_length (σ : St) : ∀ vs : List Nat, (wipe σ vs).length = σ.length
  | [] => rfl
  | v :: vs => by unfold wipe; rw [List.length_set, wipe_length σ vs]
theorem wipe_some {σ : St} {i : Nat} {x : V} : ∀ {vs : List Nat}, (wipe σ vs)[i]? = some (some x) → σ[i]? = some (some x) ∧ i ∉ vs
  | [], h => ⟨h, by simp⟩
  | v :: vs, h => by
    unfold wipe at h
    by_cases hi : v = i
    · subst hi
      by_cases hv : v < (wipe σ vs).length
      · rw [List.getElem?_set_self hv] at h; cases h
      · rw [List.getElem?_eq_none (by simpa using hv)] at h; cases h
    · rw [List.getElem?_set_ne hi] at h
      obtain ⟨h1, h2⟩ := wipe_some h
      exact ⟨h1, by simp only [List.mem_cons, not_or]; exact ⟨fun e => hi e.symm, h2⟩⟩
abbrev Cx.blk (X : Cx) (s : Shared) (H : Hp) (scope : Scope) (cenv : Env) (fp : List Addr) : Cx := { X with s_0 := s, H_0 := H, env := cenv, outer := X.stack, ex := fp, fn := fun x => scope.names.lookup x == some .cell, pn := [], xe := fun _ _ => False }
section
variable {X : Cx} {pins : List (Addr × Obj)} {σ : St} {H : Hp} {s : Shared}
theorem block_start {scope : Scope} {own : List (Str × Nat)} {fp : List Addr} (I : Inv X pins σ H s) (ok : BlkOk X.N X.env.scope scope own) (hN : X.N.Nodup) (hfp : ∀ b ∈ fp, FpOk X pins H b ∧ b < s.heap.objs.size) :
    Inv (X.blk s H scope (compEnvC scope (cellsFrom (s.heap.objs.size + 1) scope.names (cloFrom X.env.cells scope.names [])) s.heap.objs.size X.env) fp) [] (wipe σ (own.map (·.2))) H { s with heap := pushCells (s.heap.push { cls := .type "dict", data := .dict #[] }) scope.names } := by
  have hfree : ∀ y ∈ scope.names, y.2 = .free → ∃ c, X.env.cells.lookup y.1 = some c := fun y hy e => by
    rcases ok.free y hy e with k | k
    · exact I.ok.has _ (.inl k)
    · exact I.ok.has _ (.inr k)
  generalize hcenv : compEnvC scope (cellsFrom (s.heap.objs.size + 1) scope.names (cloFrom X.env.cells scope.names [])) s.heap.objs.size X.env = cenv
  have kp : ∀ b o, s.heap.get? b = some o → (pushCells (s.heap.push { cls := .type "dict", data := .dict #[] }) scope.names).get? b = some o := fun b o e => pushCells_keeps _ _ _ _ (Heap.get?_push_of_some _ e)
  have hL : cenv.locals = s.heap.objs.size := by rw [← hcenv]; rfl
  have hcl : cenv.cells = cellsFrom (s.heap.objs.size + 1) scope.names (cloFrom X.env.cells scope.names []) := by rw [← hcenv]; rfl
  have hsc : cenv.scope = relS scope X.env.scope := by rw [← hcenv]; rfl
  rw [← Heap.size_push s.heap { cls := .type "dict", data := .dict #[] }] at hcl
  have cm : ∀ {y c}, (y, c) ∈ cloFrom X.env.cells scope.names [] → X.env.cells.lookup y = some c ∧ c < s.heap.objs.size := fun {y c} hm => by
    rcases cloFrom_mem hm with hm | ⟨h1, rfl⟩
    · cases hm
    · obtain ⟨c, hc⟩ := hfree _ h1 rfl
      rw [hc]
      obtain ⟨w, z⟩ := I.cell _ _ hc
      exact ⟨rfl, z.lt⟩
  have mem : ∀ {y c}, cenv.cells.lookup y = some c → (X.env.cells.lookup y = some c ∧ c < s.heap.objs.size) ∨ (s.heap.objs.size + 1 ≤ c ∧ CellAt (pushCells (s.heap.push { cls := .type "dict", data := .dict #[] }) scope.names) c none) := fun {y c} e => by
    rw [hcl] at e
    rcases cells_mem (PySem.mem_of_lookup e) with hm | ⟨_, h2, h3⟩
    · exact .inl (cm hm)
    · rw [Heap.size_push] at h2; exact .inr ⟨h2, h3⟩
  have look : ∀ {y}, scope.names.lookup y = some .free → ∃ c, cenv.cells.lookup y = some c ∧ X.env.cells.lookup y = some c := fun {y} hl => by
    have hy : (y, NameKind.free) ∈ scope.names := PySem.mem_of_lookup hl
    obtain ⟨c', e'⟩ := mem_lookup (cells_acc (names := scope.names) (n := (s.heap.push { cls := .type "dict", data := .dict #[] }).objs.size) (cloFrom_has (cells := X.env.cells) (acc := []) hy))
    rw [← hcl] at e'
    refine ⟨c', e', ?_⟩
    rw [hcl] at e'
    rcases cells_mem (PySem.mem_of_lookup e') with hm | ⟨h1, _, _⟩
    · exact (cm hm).1
    · have := ok.uniq _ h1
      rw [hl] at this; cases this
  have okB : (X.blk s H scope cenv fp).Ok := by
    refine ⟨I.ok.mod, by show cenv.scope.kind = _; rw [hsc]; exact ok.kind, by show cenv.globals = _; rw [← hcenv]; exact I.ok.glob, by show cenv.builtins = _; rw [← hcenv]; exact I.ok.blt, by show s.heap.objs.size ≤ cenv.locals; rw [hL]; exact Nat.le_refl _,
      fun y z c e1 e2 => ?_, fun y hy => ?_, fun y c z e => ?_, I.ok.hd, I.ok.frames, .inl rfl, fun b hb => ⟨?_, fun y c e z => ?_⟩, I.bs, Nat.le_trans I.ok.bsz I.sz, fun b o e hb => ?_, fun b hb z => ?_, I.stack, I.stkFree⟩
    · have e1 : cenv.cells.lookup y = some c := e1
      have e2 : cenv.cells.lookup z = some c := e2
      rw [hcl] at e1 e2
      refine cells_inj (fun p hp => ?_) (fun y z c a b => I.ok.inj y z c (cm a).1 (cm b).1) (PySem.mem_of_lookup e1) (PySem.mem_of_lookup e2)
      rw [Heap.size_push]
      exact Nat.lt_succ_of_lt (cm (y := p.1) (c := p.2) hp).2
    · show ∃ c, cenv.cells.lookup y = some c
      have key : ∀ k, cenv.kindOf y = some k → (k = .cell ∨ k = .free) → ∃ c, cenv.cells.lookup y = some c := fun k hk hk' => by
        unfold Env.kindOf at hk
        rw [hsc] at hk
        obtain ⟨k', e, r⟩ := lookup_relS hk
        have : k' = .cell ∨ k' = .free := by
          rcases r with rfl | ⟨rfl, _⟩
          · exact hk'
          · exact .inr rfl
        rcases this with rfl | rfl
        · obtain ⟨c, hm⟩ := cells_has (n := (s.heap.push { cls := .type "dict", data := .dict #[] }).objs.size) (acc := cloFrom X.env.cells scope.names []) (PySem.mem_of_lookup e)
          obtain ⟨c', e'⟩ := mem_lookup hm
          exact ⟨c', by rw [hcl]; exact e'⟩
        · obtain ⟨c, h1, _⟩ := look e
          exact ⟨c, h1⟩
      rcases hy with hy | hy
      · exact key _ hy (.inl rfl)
      · exact key _ hy (.inr rfl)
    · have z : (scope.names.lookup y == some NameKind.cell) = true := z
      have z : scope.names.lookup y = some .cell := by simpa using z
      have e : cenv.cells.lookup y = some c := e
      rw [hcl] at e
      rcases cells_mem (PySem.mem_of_lookup e) with hm | ⟨_, h2, _⟩
      · rcases cloFrom_mem hm with hm | ⟨h1, _⟩
        · cases hm
        · have q := ok.uniq _ h1
          rw [z] at q; cases q
      · rw [Heap.size_push] at h2
        exact Nat.le_of_succ_le h2
    · show b ≠ cenv.locals
      rw [hL]; exact Nat.ne_of_lt (hfp b hb).2
    · have e : cenv.cells.lookup y = some c := e
      rcases mem e with ⟨h1, _⟩ | ⟨h1, _⟩
      · exact (hfp b hb).1.2.2.2.2.1 y c h1 z
      · have h2 : s.heap.objs.size + 1 ≤ b := by rw [← z]; exact h1
        exact absurd (Nat.lt_of_lt_of_le (hfp b hb).2 (Nat.le_of_succ_le h2)) (Nat.lt_irrefl _)
    · rcases (hfp b hb).1.2.2.2.1 with z | z
      · exact I.ok.noex b o e z
      · exact absurd (Nat.lt_of_lt_of_le (Heap.lt_size e) (Nat.le_trans I.ok.bsz z)) (Nat.lt_irrefl _)
    · rcases List.mem_cons.mp (I.stkSub b z) with z | z
      · exact (hfp b hb).1.2.1 z
      · exact (hfp b hb).1.2.2.1 z
  refine ⟨okB, rfl, I.bare, Un.kept kp, ⟨fun _ => none, ?_, fun i y av e1 e2 e3 => ?_⟩, fun y c e => ?_, ?_, fun y c e => ?_, fun p hp => ?_, I.hok.kept kp, by rw [wipe_length]; exact I.len⟩
  · show Heap.Ns _ cenv.locals _
    rw [hL]
    exact Heap.Ns.keeps (Heap.Ns.new ..) fun b o e => pushCells_keeps _ _ _ _ e
  · obtain ⟨e2, hne⟩ := wipe_some e2
    have hfr : scope.names.lookup y = some .free ∧ (cenv.kindOf y = some .cell ∨ cenv.kindOf y = some .free) := by
      have key : ∀ k, cenv.scope.names.lookup y = some k → k = .local ∨ k = .cell ∨ k = .free → scope.names.lookup y = some .free ∧ (cenv.kindOf y = some .cell ∨ cenv.kindOf y = some .free) := fun k hk hk' => by
        have hk0 := hk
        rw [hsc] at hk
        obtain ⟨k', e, r⟩ := lookup_relS hk
        have no : ¬ (k' = .local ∨ k' = .cell) := fun hh => by
          rcases ok.own _ (PySem.mem_of_lookup e) hh with e' | e'
          · obtain ⟨p, hp, hpy⟩ := List.mem_map.mp e'
            have e3 := ok.ix p hp
            have : p.1 = y := hpy
            rw [this] at e3
            exact hne (List.mem_map.mpr ⟨p, hp, nodup_ix hN e3 e1⟩)
          · exact e' (List.mem_of_getElem? e1)
        rcases r with rfl | ⟨rfl, rfl⟩
        · rcases hk' with rfl | rfl | rfl
          · exact absurd (.inl rfl) no
          · exact absurd (.inr rfl) no
          · exact ⟨e, .inr hk0⟩
        · exact ⟨e, .inl hk0⟩
      have e3 : Vis cenv.scope y := e3
      rcases e3 with e3 | e3 | e3
      · exact key _ e3 (.inl rfl)
      · exact key _ e3 (.inr (.inl rfl))
      · exact key _ e3 (.inr (.inr rfl))
    obtain ⟨m, hn, hl⟩ := I.loc
    have hvis : Vis X.env.scope y := (ok.free _ (PySem.mem_of_lookup hfr.1) rfl).elim (fun k => .inr (.inl k)) (fun k => .inr (.inr k))
    obtain ⟨w, r, q⟩ := hl i y av e1 e2 hvis
    refine ⟨w, r, .inr ⟨hfr.2, ?_⟩⟩
    obtain ⟨c, h1, h2⟩ := look hfr.1
    rcases q with ⟨k, _⟩ | ⟨_, c', e', z⟩
    · have k : X.env.scope.names.lookup y = some .local := k
      rcases ok.free _ (PySem.mem_of_lookup hfr.1) rfl with k' | k' <;> rw [show X.env.scope.names.lookup y = _ from k'] at k <;> cases k
    · rw [h2] at e'; cases e'
      exact ⟨c, h1, z.keeps kp⟩
  · have e : cenv.cells.lookup y = some c := e
    rcases mem e with ⟨h1, _⟩ | ⟨_, z⟩
    · obtain ⟨w, z⟩ := I.cell y c h1
      exact ⟨w, z.keeps kp⟩
    · exact ⟨_, z⟩
  · show H cenv.locals = none
    rw [hL]; exact I.hok.fresh (Nat.le_refl _)
  · have e : cenv.cells.lookup y = some c := e
    rcases mem e with ⟨h1, _⟩ | ⟨h1, _⟩
    · exact I.freeC y c h1
    · exact I.hok.fresh (Nat.le_of_succ_le h1)
  · exact absurd (show p ∈ ([] : List (Addr × Obj)) ++ [] from hp) (by simp)
theorem app_ok {E : Value → Shared → Prop} {D : Addr} {xs : List V} {y : V} {v : Value} {Q : Value → Shared → Prop} (I : Inv X pins σ H s) (hD : H D = some (.lst xs)) (hz : xs.length < sizeLine) (r : RelV y v)
    (h : ∀ s', Inv X pins σ (upd H D (.lst (xs ++ [y]))) s' → Q .none s') : wpAny (model X.prog X.w) X.A (call (.builtin "list.append") [.ref D, v]) Q E s := by
  obtain ⟨hz', its, n, ri, e⟩ := I.hok D _ hD
  have hl := ri.length
  refine append_at (hsz := by rw [List.size_toArray]; omega) e fun h' sb ho' => ?_
  refine h { s with heap := h' } (I.write (t' := s.toks) (by rw [hD]; trivial) (.inl rfl) (fun b u hb q => (sb.2 b hb).trans q) ⟨_, ho'⟩ ⟨by rw [List.length_append]; exact hz, its ++ [v], n + 1, ri.append (.cons r .nil), ?_⟩)
  rw [ho']
  simp
def PTs (X : Cx) (ifs : List Expr) (t : TT) : Prop :=
  ∀ (pins : List (Addr × Obj)) (s : Shared) (σ : St) (H : Hp) (Q : Bool → Hp → Prop), Inv X pins σ H s → t σ H Q →
    wpAny (model X.prog X.w) X.A (forIn ifs true fun c r => if r = true then do let ok ← isTrue c X.env (eval c X.env); pure (ForInStep.yield ok) else pure (ForInStep.yield r)) (TP X pins σ Q) X.xe s
def tYes : TT := fun _ H Q => Q true H
theorem pts_nil : PTs X [] tYes := fun _ _ _ H _ I h => wpAny_tests_nil ⟨H, I, h⟩
theorem pts_one {c : Expr} {t : TT} (h : PT X c t) : PTs X [c] t := fun pins s σ H Q I hw => wpAny_tests_one (h pins s σ H Q I hw)
end
theorem thnF {α : Type} {t : Sem α} {Q Q' : α → Shared → Prop} {M : Model} {A : Around} {E : Value → Shared → Prop} {s : Shared} (h : wpAny M A t Q (fun _ _ => False) s) (hQ : ∀ a s, Q a s → Q' a s) : wpAny M A t Q' E s := wpAny_mono h hQ fun _ _ z => False.elim z
theorem compLoop_any {prog : Program} {w : World} {A : Around} {R : Result → Shared → Prop} {s : Shared} {elt target iter : Expr} {ifs : List Expr} {scope : Scope} {pos : Pos} {it acc : Value} {env : Env} (I : Nat → Shared → Prop)
    (turn : ∀ n s, I n s → wpAny (model prog w) A (pyNext it) (fun r s₁ => match r with
      | none => R (.ok .next) s₁
      | some v => wpAny (model prog w) A (letOwnedTupleGo target it v) (fun _ s₁' => wpAny (model prog w) A (assign target env v) (fun _ s₂ =>
          wpAny (model prog w) A (forIn ifs true fun c r => if r = true then do let ok ← isTrue c env (eval c env); pure (ForInStep.yield ok) else pure (ForInStep.yield r)) (fun ok s₃ =>
            if ok = true then wpAny (model prog w) A (eval elt env) (fun x s₄ =>
              wpAny (model prog w) A (call (.builtin "list.append") [acc, x]) (fun _ s₅ => ∃ m, m < n ∧ I m s₅) (notedBy (model prog w) A env fun e s' => R (.error e) s') s₄) (notedBy (model prog w) A env fun e s' => R (.error e) s') s₃
            else ∃ m, m < n ∧ I m s₃) (notedBy (model prog w) A env fun e s' => R (.error e) s') s₂) (notedBy (model prog w) A env fun e s' => R (.error e) s') s₁') (notedBy (model prog w) A env fun e s' => R (.error e) s') s₁) (notedBy (model prog w) A env fun e s' => R (.error e) s') s)
    (n : Nat) (h : I n s) :
    codeAny (model prog w) A (.compLoop (.ListComp elt [⟨target, iter, ifs, 0⟩] scope pos) 0 it acc env) R s := by
  refine codeAny_loop rfl I (fun n s hI => ?_) n h
  show wpAny _ A ((compTurn (.ListComp elt [⟨target, iter, ifs, 0⟩] scope pos) 0 it acc env).onRaise (fun x => do noteFrame x env; theTreesLotGoes x)) _ _ s
  refine wpAny_noted ?_
  rw [compTurn_list]
  refine wpAny_bind (wpAny_standAt (wpAny_bind (wpAny_mono (turn n s hI) (fun r s₁ h₁ => ?_) fun _ _ h' => h')))
  cases r with
  | none => exact wpAny_pure h₁
  | some v =>
    refine wpAny_bind (wpAny_mono h₁ (fun _ s₁' h₁' => ?_) fun _ _ h' => h')
    refine wpAny_bind (wpAny_mono h₁' (fun _ s₂ h₂ => wpAny_bind (wpAny_mono h₂ (fun ok s₃ h₃ => ?_) fun _ _ h' => h')) fun _ _ h' => h')
    cases ok with
    | false => exact wpAny_pure ⟨rfl, h₃⟩
    | true =>
      exact wpAny_bind (wpAny_bind (wpAny_mono h₃ (fun x s₄ h₄ => wpAny_bind (wpAny_mono h₄ (fun _ s₅ h₅ => wpAny_pure (wpAny_pure ⟨rfl, h₅⟩)) fun _ _ h' => h')) fun _ _ h' => h'))
section
variable {X : Cx}
def tLc (wi : TI) (g : TG) (tt : TT) (te : TE) (vs : List Nat) : TE := fun σ H Q => wi σ H fun J H1 => ∀ D, H1 D = none → ∃ W : Nat → Nat → Hp → Prop, (∃ m, W 0 m (upd H1 D (.lst []))) ∧ ∀ i m H, W i m H →
  (J.stop i H ∧ Q (.ref D) H) ∨ (J.go i H ∧ ∃ Nx : Hp → Prop, (∀ H', Nx H' → ∃ m', m' < m ∧ W (i + 1) m' H') ∧ ∀ x H', J.yld i H x H' → g x (wipe σ vs) H' fun σ2 H2 => wipe σ2 vs = wipe σ vs ∧ tt σ2 H2 fun b H3 =>
    if b = true then te σ2 H3 fun y H4 => ∃ acc, H4 D = some (.lst acc) ∧ acc.length < sizeLine ∧ Nx (upd H4 D (.lst (acc ++ [y]))) else Nx H3)
theorem lc_core {pins : List (Addr × Obj)} {s : Shared} {σ : St} {H : Hp} {Q : VK} {elt tg iter : Expr} {ifs : List Expr} {scope : Scope} {own : List (Str × Nat)} {pos pos' : Pos} {wi : TI} {g : TG} {tt : TT} {te : TE} {use : Option (Value → Sem Unit)} {Qf : Value → Shared → Prop}
    (hc : X.calm = true) (hN : X.N.Nodup) (I : Inv X pins σ H s) (hi : PI X tg iter wi) (ok : BlkOk X.N X.env.scope scope own)
    (hg : ∀ (s : Shared) (H : Hp) (C : Addr) (cl : List (Str × Addr)) (fp : List Addr), PG (X.blk s H scope (compEnvC scope cl C X.env) fp) tg g) (ht : ∀ (s : Shared) (H : Hp) (C : Addr) (cl : List (Str × Addr)) (fp : List Addr), PTs (X.blk s H scope (compEnvC scope cl C X.env) fp) ifs tt)
    (he : ∀ (s : Shared) (H : Hp) (C : Addr) (cl : List (Str × Addr)) (fp : List Addr), PE (X.blk s H scope (compEnvC scope cl C X.env) fp) elt te) (hs : ∀ x, foldedSetIterable iter X.env x = pure x)
    (h : tLc wi g tt te (own.map (·.2)) σ H Q)
    (hRR : ∀ D C s' m H', Inv X pins σ H' s' → Q (.ref D) H' → s'.heap.Ns C m → FpOk X pins H' C → compPost (model X.prog X.w) X.A X.xe use Qf (.ref D) C (.ok .next) s') :
    wpAny (model X.prog X.w) X.A (comprehension (.ListComp elt [⟨tg, iter, ifs, 0⟩] scope pos) scope X.env pos' (newList []) false (eval iter X.env) use) Qf X.xe s := by
  have hfree : ∀ y ∈ scope.names, y.2 = .free → ∃ c, X.env.cells.lookup y.1 = some c := fun y hy e => by
    rcases ok.free y hy e with k | k
    · exact I.ok.has _ (.inl k)
    · exact I.ok.has _ (.inr k)
  refine wpAny_comprehension_free (use := use) rfl hs (closure_ok hfree) ok.kind (fun y hy e => by rw [ok.uniq y hy, e])
    (thn (hi pins s σ H _ I h) fun xv s1 hx => thn hx fun itv s2 h2 => ?_)
  obtain ⟨it, fp, tn, J, H2, e, I2, T, st2, f2, q⟩ := h2
  subst e
  refine wpAny_newObj_type (newEnv_comp ?_) (by show 0 ≤ sizeLine; decide)
  generalize hD : s2.heap.objs.size = D
  have hDn : H2 D = none := I2.hok.fresh (Nat.le_of_eq hD)
  obtain ⟨W, ⟨m0, w0⟩, turn⟩ := q D hDn
  -- the new list
  generalize hs3 : ({ s2 with heap := s2.heap.push { cls := .type "list", data := .seq ([] : List Value).toArray } } : Shared) = s3
  have I3 : Inv X pins σ (upd H2 D (.lst [])) s3 := by
    rw [← hs3]
    refine I2.laid (t' := s2.toks) (fun b o e => Heap.get?_push_of_some _ e) (Nat.le_of_eq hD) ⟨Nat.zero_le _, [], 0, .nil, ?_⟩
    rw [← hD]
    exact Heap.get?_push_size _ rfl
  have h3 : s3.heap = s2.heap.push { cls := .type "list", data := .seq ([] : List Value).toArray } := by rw [← hs3]
  have sz : ∀ b ∈ fp, b < s2.heap.objs.size := fun b hb => by
    obtain ⟨o, e, _⟩ := T.obj _ _ st2 b hb
    exact Heap.lt_size e
  have f3 : ∀ b ∈ fp, FpOk X pins (upd H2 D (.lst [])) b ∧ b < s3.heap.objs.size := fun b hb => by
    have hlt := sz b hb
    refine ⟨⟨?_, (f2 b hb).2⟩, by rw [h3, Heap.size_push]; exact Nat.lt_succ_of_lt hlt⟩
    rw [upd_ne (by rw [← hD]; exact Nat.ne_of_lt hlt)]
    exact (f2 b hb).1
  have st3 : tn 0 s3.heap := T.keep _ _ _ st2 fun b _ o e => by rw [h3]; exact Heap.get?_push_of_some _ e
  have I4 := block_start I3 ok hN f3
  have pg := hg s3 (upd H2 D (.lst [])) s3.heap.objs.size (cellsFrom (s3.heap.objs.size + 1) scope.names (cloFrom X.env.cells scope.names [])) fp
  have pt := ht s3 (upd H2 D (.lst [])) s3.heap.objs.size (cellsFrom (s3.heap.objs.size + 1) scope.names (cloFrom X.env.cells scope.names [])) fp
  have pe := he s3 (upd H2 D (.lst [])) s3.heap.objs.size (cellsFrom (s3.heap.objs.size + 1) scope.names (cloFrom X.env.cells scope.names [])) fp
  show codeAny _ _ (.compStart (.ListComp elt [⟨tg, iter, ifs, 0⟩] scope pos) 0 (.ref it) (.ref D) (compEnvC scope (cellsFrom (s3.heap.objs.size + 1) scope.names (cloFrom X.env.cells scope.names [])) s3.heap.objs.size X.env)) (compPost (model X.prog X.w) X.A X.xe use Qf (.ref D) s3.heap.objs.size) { s3 with heap := pushCells (s3.heap.push { cls := .type "dict", data := .dict #[] }) scope.names }
  have nfp : ∀ b ∈ fp, (upd H2 D (.lst [])) b = none := fun b hb => (f3 b hb).1.1
  generalize hce : compEnvC scope (cellsFrom (s3.heap.objs.size + 1) scope.names (cloFrom X.env.cells scope.names [])) s3.heap.objs.size X.env = ce at I4 pg pt pe ⊢
  have cL : ce.locals = s3.heap.objs.size := by subst hce; rfl
  generalize hH3 : upd H2 D (.lst []) = H3 at I3 I4 pg pt pe w0 nfp f3
  generalize hs4 : ({ s3 with heap := pushCells (s3.heap.push { cls := .type "dict", data := .dict #[] }) scope.names } : Shared) = s4 at I4 ⊢
  have st4 : tn 0 s4.heap := T.keep _ _ _ st3 fun b _ o e => by rw [← hs4]; exact pushCells_keeps _ _ _ _ (Heap.get?_push_of_some _ e)
  have stat : ∀ {σ' : St} {H' : Hp} {s' : Shared}, Inv (X.blk s3 H3 scope ce fp) [] σ' H' s' → (∀ b ∈ fp, H' b = none) → ∀ b ∈ fp, FpOk (X.blk s3 H3 scope ce fp) [] H' b := fun {σ' H' s'} I' hn b hb =>
    ⟨hn b hb, (I'.ok.exf b hb).1, I'.ok.exfs b hb, .inl hb, fun x c e => (I'.ok.exf b hb).2 x c e, fun p hp => absurd (show p ∈ ([] : List (Addr × Obj)) ++ [] from hp) (by simp)⟩
  have loop : codeAny (model X.prog X.w) X.A (.compLoop (.ListComp elt [⟨tg, iter, ifs, 0⟩] scope pos) 0 (.ref it) (.ref D) ce) (compPost (model X.prog X.w) X.A X.xe use Qf (.ref D) s3.heap.objs.size) s4 := by
    refine compLoop_any (fun n s' => ∃ i H', Inv (X.blk s3 H3 scope ce fp) [] (wipe σ (own.map (·.2))) H' s' ∧ tn i s'.heap ∧ (∀ b ∈ fp, H' b = none) ∧ W i n H') ?_ m0 ⟨0, H3, I4, st4, nfp, w0⟩
    rintro n s5 ⟨i, H5, I5, st5, n5, w5⟩
    rcases turn i n H5 w5 with ⟨stop, qq⟩ | ⟨go, Nx, hNx, step⟩
    · have td := T.done (X.blk s3 H3 scope ce fp) rfl rfl rfl hc i [] s5 _ H5 (fun _ _ => False) I5 (stat I5 n5) st5 stop
      refine thnF td fun r s6 ⟨hr, I6⟩ => ?_
      subst hr
      -- back in the def's context
      have I7 : Inv X pins σ H5 s6 := I3.call' (ch := fp) I6.os I6.base I6.hok I6.bare fun b hb => ⟨(f3 b hb).1.2.2.2.1, (f3 b hb).1.2.1, (f3 b hb).1.2.2.2.2.1, (f3 b hb).1.2.2.2.2.2⟩
      have nC : H5 s3.heap.objs.size = none := by
        have z : H5 ce.locals = none := I6.free
        rw [cL] at z
        exact z
      obtain ⟨m, hn, _⟩ := I6.loc
      have hn : s6.heap.Ns ce.locals m := hn
      rw [cL] at hn
      exact hRR D s3.heap.objs.size s6 m H5 I7 qq hn (I3.fpOk (Nat.le_refl _) nC)
    · have ti := T.item (X.blk s3 H3 scope ce fp) rfl rfl rfl hc i [] s5 _ H5 (fun _ _ => False) I5 (stat I5 n5) st5 go
      refine thnF ti fun r s6 ⟨u, hr, h6⟩ => ?_
      subst hr
      refine thnF h6 fun _ s7 ⟨x, H7, I7, r7, y7, st7, n7⟩ => ?_
      have I7' := I7.pinned (stat I7 n7) (T.obj _ _ st7)
      refine thnF (pg _ s7 _ H7 x u _ I7' r7 (step x H7 y7)) fun _ s8 ⟨σ8, H8, I8, hw8, q8⟩ => ?_
      refine thnF (pt _ s8 σ8 H8 _ I8 q8) fun b s9 ⟨H9, I9, q9⟩ => ?_
      -- the turn's end
      have fin : ∀ {s' : Shared} {H' : Hp}, Inv (X.blk s3 H3 scope ce fp) ([] ++ pinsAt fp s7.heap) σ8 H' s' → Nx H' → ∃ m, m < n ∧ ∃ i H', Inv (X.blk s3 H3 scope ce fp) [] (wipe σ (own.map (·.2))) H' s' ∧ tn i s'.heap ∧ (∀ b ∈ fp, H' b = none) ∧ W i m H' := fun {s' H'} I' nx => by
        obtain ⟨m', hm, w'⟩ := hNx H' nx
        have pin' : ∀ b ∈ fp, ∀ o, s7.heap.get? b = some o → s'.heap.get? b = some o ∧ H' b = none := fun b hb o e =>
          let z := I'.pin (b, o) (List.mem_append_right _ (List.mem_append_right _ (mem_pinsAt hb e)))
          ⟨z.1, z.2.1⟩
        have hl : (wipe σ (own.map (·.2))).length = σ8.length := by rw [← hw8, wipe_length]
        refine ⟨m', hm, i + 1, H', (I'.unpinned (pins := [])).weak hl (fun j v e => ?_), T.keep _ _ _ st7 fun b hb o e => (pin' b hb o e).1, fun b hb => ?_, w'⟩
        · rw [← hw8] at e
          exact (wipe_some e).1
        · obtain ⟨o, e, _⟩ := T.obj _ _ st7 b hb
          exact (pin' b hb o e).2
      cases b with
      | false =>
        simp only [Bool.false_eq_true, if_false] at q9 ⊢
        exact fin I9 q9
      | true =>
        simp only [if_true] at q9 ⊢
        refine thnF (pe _ s9 σ8 H9 _ I9 q9) fun z s10 ⟨yv, H10, I10, r10, acc, hD10, hz10, nx⟩ => ?_
        exact app_ok (X := X.blk s3 H3 scope ce fp) I10 hD10 hz10 r10 fun s11 I11 => fin I11 nx
  exact codeAny_compStart_list loop (T.self X.A 0 _ _ _ st4 loop)
theorem pe_lc {elt tg iter : Expr} {ifs : List Expr} {scope : Scope} {own : List (Str × Nat)} {pos : Pos} {wi : TI} {g : TG} {tt : TT} {te : TE} (hc : X.calm = true) (hN : X.N.Nodup) (hi : PI X tg iter wi) (ok : BlkOk X.N X.env.scope scope own)
    (hg : ∀ (s : Shared) (H : Hp) (C : Addr) (cl : List (Str × Addr)) (fp : List Addr), PG (X.blk s H scope (compEnvC scope cl C X.env) fp) tg g) (ht : ∀ (s : Shared) (H : Hp) (C : Addr) (cl : List (Str × Addr)) (fp : List Addr), PTs (X.blk s H scope (compEnvC scope cl C X.env) fp) ifs tt)
    (he : ∀ (s : Shared) (H : Hp) (C : Addr) (cl : List (Str × Addr)) (fp : List Addr), PE (X.blk s H scope (compEnvC scope cl C X.env) fp) elt te) (hs : ∀ x, foldedSetIterable iter X.env x = pure x := by intro _; rfl) :
    PE X (.ListComp elt [⟨tg, iter, ifs, 0⟩] scope pos) (tLc wi g tt te (own.map (·.2))) := by
  intro pins s σ H Q I h
  rw [eval_ListComp]
  refine lc_core hc hN I hi ok hg ht he hs h fun D C s' m H' I' q hn f => ⟨m, hn, fun h'' sb => ?_⟩
  obtain ⟨f0, f1, f2, f3, f4, f5⟩ := f
  exact ⟨.ref D, H', I'.turned (t' := s'.toks) (fun b o hb e => (sb.2 b hb).trans e) f0 f1 f3 f4 f5, rfl, q⟩
theorem ps_setLc {i : Nat} {y : Str} {py : Pos} {elt tg iter : Expr} {ifs : List Expr} {scope : Scope} {own : List (Str × Nat)} {pos spos : Pos} {wi : TI} {g : TG} {tt : TT} {te : TE} (hc : X.calm = true) (hN : X.N.Nodup) (hy : X.N[i]? = some y) (hyl : X.env.scope.names.lookup y = some .local)
    (hsw : swapsWith (.ListComp elt [⟨tg, iter, ifs, 0⟩] scope pos) (some (.Name y py)) spos.line X.env = pure true) (hi : PI X tg iter wi) (ok : BlkOk X.N X.env.scope scope own)
    (hg : ∀ (s : Shared) (H : Hp) (C : Addr) (cl : List (Str × Addr)) (fp : List Addr), PG (X.blk s H scope (compEnvC scope cl C X.env) fp) tg g) (ht : ∀ (s : Shared) (H : Hp) (C : Addr) (cl : List (Str × Addr)) (fp : List Addr), PTs (X.blk s H scope (compEnvC scope cl C X.env) fp) ifs tt)
    (he : ∀ (s : Shared) (H : Hp) (C : Addr) (cl : List (Str × Addr)) (fp : List Addr), PE (X.blk s H scope (compEnvC scope cl C X.env) fp) elt te) (hs : ∀ x, foldedSetIterable iter X.env x = pure x := by intro _; rfl) :
    PS X (.Assign [.Name y py] (.ListComp elt [⟨tg, iter, ifs, 0⟩] scope pos) spos) (tAsg (tLc wi g tt te (own.map (·.2))) (gName i)) := by
  intro pins s σ H D I h
  rw [exec_Assign_Name_used _ _ _ _ hsw]
  refine wpAny_bind (wpAny_standAt (wpAny_bind ?_))
  show wpAny _ X.A (do let _ ← comprehension (.ListComp elt [⟨tg, iter, ifs, 0⟩] scope pos) scope X.env (firstIterPos [⟨tg, iter, ifs, 0⟩] pos) (newList []) false (eval iter X.env) (some (assign (.Name y py) X.env))) _ _ s
  have h : tLc wi g tt te (own.map (·.2)) σ H (fun x H1 => gName i x σ H1 D.nx) := h
  refine wpAny_bind (thn (lc_core (Qf := fun _ s' => SP X pins D .next s') hc hN I hi ok hg ht he hs h fun L C s' m H' I' q hn f => ?_) fun _ s' hq => wpAny_pure (wpAny_pure hq))
  show wpAny _ _ (assign (.Name y py) X.env (.ref L)) _ _ _
  refine wpAny_assign_Name (store_ok2 (v := V.ref L) I' hN hy (.inl hyl) rfl (fun s2 I2 ⟨a, sb, ha⟩ => ?_) (.inr hyl))
  obtain ⟨f0, f1, f2, f3, f4, f5⟩ := f
  have haC : C ≠ a := by
    rcases ha with z | z
    · rw [z]; exact f1
    · exact fun e => f4 y a z e.symm
  refine ⟨m, hn.sameBut sb haC, fun h3 sb3 => ?_⟩
  exact ⟨_, H', I2.turned (t' := s2.toks) (fun b o hb e => (sb3.2 b hb).trans e) f0 f1 f3 f4 f5, q⟩
theorem sw_true {elt : Expr} {gs : List Comprehension} {scope : Scope} {pos py : Pos} {y : Str} {l : Nat} {env : Env} (hk : env.scope.kind = .function) (hy : env.scope.names.lookup y = some .local) (hl : (py.line == pos.line) = true)
    (ha : (scope.names.any fun (n, k) => n == y && (k == .local || k == .cell)) = false) : swapsWith (.ListComp elt gs scope pos) (some (.Name y py)) l env = pure true := by
  have ky : env.kindOf y = some .local := hy
  have hb : env.blockKind = .function := by unfold Env.blockKind; rw [hk]; rfl
  unfold swapsWith
  simp only [hb, ky, ha, Expr.pos, hl]
  rfl
end
theorem lc_range {lo : Int} {n : Nat} {g : TG} {tt : TT} {te : TE} {vs : List Nat} {σ : St} {H1 : Hp} {D : Addr} {Qd : Hp → Prop} (Pv : Nat → Hp → Prop) (h0 : Pv 0 (upd H1 D (.lst [])))
    (hs : ∀ i H, i < n → Pv i H → g (.int (lo + i)) (wipe σ vs) H fun σ2 H2 => wipe σ2 vs = wipe σ vs ∧ tt σ2 H2 fun b H3 =>
      if b = true then te σ2 H3 fun y H4 => ∃ acc, H4 D = some (.lst acc) ∧ acc.length < sizeLine ∧ Pv (i + 1) (upd H4 D (.lst (acc ++ [y]))) else Pv (i + 1) H3) (hd : ∀ H, Pv n H → Qd H) :
    ∃ W : Nat → Nat → Hp → Prop, (∃ m, W 0 m (upd H1 D (.lst []))) ∧ ∀ i m H, W i m H →
      ((Itr lo n).stop i H ∧ Qd H) ∨ ((Itr lo n).go i H ∧ ∃ Nx : Hp → Prop, (∀ H', Nx H' → ∃ m', m' < m ∧ W (i + 1) m' H') ∧ ∀ x H', (Itr lo n).yld i H x H' → g x (wipe σ vs) H' fun σ2 H2 => wipe σ2 vs = wipe σ vs ∧ tt σ2 H2 fun b H3 =>
        if b = true then te σ2 H3 fun y H4 => ∃ acc, H4 D = some (.lst acc) ∧ acc.length < sizeLine ∧ Nx (upd H4 D (.lst (acc ++ [y]))) else Nx H3) := by
  refine ⟨fun i m H => m = n - i ∧ i ≤ n ∧ Pv i H, ⟨n, by simp, Nat.zero_le _, h0⟩, ?_⟩
  rintro i m H ⟨rfl, hi, p⟩
  by_cases hlt : i < n
  · refine .inr ⟨hlt, Pv (i + 1), fun H' p' => ⟨n - (i + 1), by omega, rfl, hlt, p'⟩, fun x H' y => ?_⟩
    obtain ⟨e, y⟩ := y
    subst e y
    exact hs i _ hlt p
  · have e : i = n := by omega
    subst e
    exact .inl ⟨Nat.le_refl _, hd H p⟩
theorem lc_list {K : PySem.W.Frag} {a : Addr} {xs : List V} {g : TG} {tt : TT} {te : TE} {vs : List Nat} {σ : St} {H1 : Hp} {D : Addr} {Qd : Hp → Prop} (Pv : Nat → Hp → Prop) (h0 : Pv 0 (upd H1 D (.lst []))) (hl : ∀ i H, i ≤ xs.length → Pv i H → SqL K H a xs)
    (hs : ∀ i x H, xs[i]? = some x → Pv i H → g x (wipe σ vs) H fun σ2 H2 => wipe σ2 vs = wipe σ vs ∧ tt σ2 H2 fun b H3 =>
      if b = true then te σ2 H3 fun y H4 => ∃ acc, H4 D = some (.lst acc) ∧ acc.length < sizeLine ∧ Pv (i + 1) (upd H4 D (.lst (acc ++ [y]))) else Pv (i + 1) H3) (hd : ∀ H, Pv xs.length H → Qd H) :
    ∃ W : Nat → Nat → Hp → Prop, (∃ m, W 0 m (upd H1 D (.lst []))) ∧ ∀ i m H, W i m H →
      ((Itl K a).stop i H ∧ Qd H) ∨ ((Itl K a).go i H ∧ ∃ Nx : Hp → Prop, (∀ H', Nx H' → ∃ m', m' < m ∧ W (i + 1) m' H') ∧ ∀ x H', (Itl K a).yld i H x H' → g x (wipe σ vs) H' fun σ2 H2 => wipe σ2 vs = wipe σ vs ∧ tt σ2 H2 fun b H3 =>
        if b = true then te σ2 H3 fun y H4 => ∃ acc, H4 D = some (.lst acc) ∧ acc.length < sizeLine ∧ Nx (upd H4 D (.lst (acc ++ [y]))) else Nx H3) := by
  refine ⟨fun i m H => m = xs.length - i ∧ i ≤ xs.length ∧ Pv i H, ⟨xs.length, by simp, Nat.zero_le _, h0⟩, ?_⟩
  rintro i m H ⟨rfl, hi, p⟩
  have q := hl i H hi p
  by_cases hlt : i < xs.length
  · refine .inr ⟨⟨xs, xs[i], q, by simp [hlt]⟩, Pv (i + 1), fun H' p' => ⟨xs.length - (i + 1), by omega, rfl, hlt, p'⟩, fun x H' y => ?_⟩
    obtain ⟨e, y⟩ := y
    subst e
    exact hs i x _ (y xs q) p
  · have e : i = xs.length := by omega
    subst e
    exact .inl ⟨⟨xs, q, Nat.le_refl _⟩, hd H p⟩
def blkC (N : List Str) (sc scope : Scope) (own : List (Str × Nat)) : Bool :=
  (match scope.kind with | .function => true | _ => false) && (scope.names.all fun y => decide (scope.names.lookup y.1 = some y.2)) && (own.all fun p => decide (N[p.2]? = some p.1)) &&
    (scope.names.all fun y => match y.2 with
      | .free => (match sc.names.lookup y.1 with | some .cell => true | some .free => true | _ => false)
      | .local => decide (y.1 ∈ own.map (·.1)) || decide (y.1 ∉ N)
      | .cell => decide (y.1 ∈ own.map (·.1)) || decide (y.1 ∉ N)
      | _ => true)
theorem blkOk_by {N : List Str} {sc scope : Scope} {own : List (Str × Nat)} (h : blkC N sc scope own = true) : BlkOk N sc scope own := by
  unfold blkC at h
  simp only [Bool.and_eq_true, List.all_eq_true, decide_eq_true_eq] at h
  obtain ⟨⟨⟨h1, h2⟩, h3⟩, h4⟩ := h
  refine ⟨?_, h2, h3, fun y hy e => ?_, fun y hy e => ?_⟩
  · split at h1
    · assumption
    · cases h1
  · have q := h4 y hy
    simp only [e] at q
    split at q <;> first | exact .inl (by assumption) | exact .inr (by assumption) | cases q
  · have q := h4 y hy
    rcases e with e | e <;> (simp only [e, Bool.or_eq_true, decide_eq_true_eq] at q; exact q)
end L2
namespace L2
open PySem PySem.Spec PyProof.Rows
section
variable {prog : Program} {w : World} {A : Around} {R : Result → Shared → Prop} {s : Shared} {elt t0 i0 t1 i1 : Expr} {ifs0 ifs1 : List Expr} {scope : Scope} {pos : Pos} {it acc : Value} {env : Env}
end
section
variable {X : Cx}
end
end L2
namespace L2
open PySem PySem.Spec PyProof.Rows
section
variable {κ : Type} [DecidableEq κ]
def valV (kvs : List (κ × V)) (k : κ) : Option V := (kvs.find? fun kv => decide (kv.1 = k)).map (·.2)
def putK (kvs : List (κ × V)) (k : κ) (v : V) : List (κ × V) :=
  if (kvs.any fun kv => decide (kv.1 = k)) = true then kvs.map (fun kv => if kv.1 = k then (kv.1, v) else kv) else kvs ++ [(k, v)]
def dropK (kvs : List (κ × V)) (k : κ) : List (κ × V) := kvs.filter fun kv => decide (kv.1 ≠ k)
theorem valV_pos {p : κ × V} {r : List (κ × V)} {k : κ} (e : p.1 = k) : valV (p :: r) k = some p.2 := by simp [valV, List.find?_cons, e]
theorem valV_neg {p : κ × V} {r : List (κ × V)} {k : κ} (e : ¬ p.1 = k) : valV (p :: r) k = valV r k := by simp [valV, List.find?_cons, e]
theorem valV_any (k : κ) : ∀ kvs : List (κ × V), (kvs.any fun kv => decide (kv.1 = k)) = (valV kvs k).isSome
  | [] => rfl
  | p :: r => by
    rw [List.any_cons]
    by_cases e : p.1 = k
    · simp only [valV_pos e, decide_eq_true e, Bool.true_or, Option.isSome_some]
    · rw [valV_neg e, decide_eq_false e, Bool.false_or]; exact valV_any k r
theorem valV_map (k j : κ) (y : V) : ∀ kvs : List (κ × V), valV (kvs.map fun kv => if kv.1 = k then (kv.1, y) else kv) j = (valV kvs j).map fun x => if j = k then y else x
  | [] => rfl
  | p :: r => by
    have ih := valV_map k j y r
    rw [List.map_cons]
    by_cases h : p.1 = k
    · rw [if_pos h]
      by_cases e : p.1 = j
      · rw [valV_pos (p := (p.1, y)) e, valV_pos e, Option.map_some, if_pos (e.symm.trans h)]
      · rw [valV_neg (p := (p.1, y)) e, valV_neg e, ih]
    · rw [if_neg h]
      by_cases e : p.1 = j
      · rw [valV_pos (p := p) e, valV_pos e, Option.map_some, if_neg (fun z => h (e.trans z))]
      · rw [valV_neg (p := p) e, valV_neg e, ih]
theorem valV_snoc (k j : κ) (y : V) : ∀ kvs : List (κ × V), valV kvs k = none → valV (kvs ++ [(k, y)]) j = if j = k then some y else valV kvs j
  | [], _ => by
    by_cases e : k = j
    · rw [if_pos e.symm]; exact valV_pos (p := (k, y)) e
    · rw [if_neg (fun z => e z.symm)]; exact valV_neg (p := (k, y)) e
  | p :: r, hn => by
    rw [List.cons_append]
    have hk : ¬ p.1 = k := fun z => by rw [valV_pos z] at hn; cases hn
    rw [valV_neg hk] at hn
    have ih := valV_snoc k j y r hn
    by_cases e : p.1 = j
    · rw [valV_pos e, valV_pos e, if_neg (fun z => hk (e.trans z))]
    · rw [valV_neg e, valV_neg e, ih]
theorem valV_put (kvs : List (κ × V)) (k j : κ) (y : V) : valV (putK kvs k y) j = if j = k then some y else valV kvs j := by
  unfold putK
  by_cases a : (kvs.any fun kv => decide (kv.1 = k)) = true
  · rw [if_pos a, valV_map]
    rw [valV_any] at a
    by_cases e : j = k
    · obtain ⟨x, hx⟩ := Option.isSome_iff_exists.mp a
      rw [if_pos e, e, hx, Option.map_some, if_pos rfl]
    · rw [if_neg e]
      cases valV kvs j with
      | none => rfl
      | some x => rw [Option.map_some, if_neg e]
  · rw [if_neg a]
    refine valV_snoc k j y kvs ?_
    rw [valV_any] at a
    cases q : valV kvs k with
    | none => rfl
    | some x => rw [q] at a; exact (a rfl).elim
theorem length_putK (kvs : List (κ × V)) (k : κ) (v : V) : (putK kvs k v).length ≤ kvs.length + 1 := by
  unfold putK
  split
  · rw [List.length_map]; omega
  · rw [List.length_append, List.length_cons, List.length_nil]; omega
theorem RelO.isSome_eq {o : Option V} {u : Option Value} (r : RelO o u) : o.isSome = u.isSome := by
  cases o with
  | none => cases u with
    | none => rfl
    | some _ => exact (show False from r).elim
  | some _ => cases u with
    | none => exact (show False from r).elim
    | some _ => rfl
theorem RelO.getD {o : Option V} {u : Option Value} {d : V} {d' : Value} (r : RelO o u) (rd : RelV d d') : RelV (o.getD d) (u.getD d') := by
  cases o with
  | none => cases u with
    | none => exact rd
    | some _ => exact (show False from r).elim
  | some _ => cases u with
    | none => exact (show False from r).elim
    | some _ => exact r
theorem KV.val {kvs : List (κ × V)} {vs : List (κ × Value)} (r : KV kvs vs) (k : κ) : RelO (valV kvs k) (valueAt vs k) := by
  unfold KV at r
  induction r with
  | nil => exact True.intro
  | @cons p q ps qs h t ih =>
    obtain ⟨h1, h2⟩ := h
    by_cases e : p.1 = k
    · have e' : q.1 = k := h1.symm.trans e
      have b : valueAt (q :: qs) k = some q.2 := by simp [valueAt, List.find?_cons, e']
      rw [valV_pos e, b]; exact h2
    · have e' : ¬ q.1 = k := fun z => e (h1.trans z)
      have b : valueAt (q :: qs) k = valueAt qs k := by simp [valueAt, List.find?_cons, e']
      rw [valV_neg e, b]; exact ih
theorem KV.any {kvs : List (κ × V)} {vs : List (κ × Value)} (r : KV kvs vs) (k : κ) : (kvs.any fun kv => decide (kv.1 = k)) = vs.any fun kv => decide (kv.1 = k) := by
  unfold KV at r
  induction r with
  | nil => rfl
  | cons h t ih => rw [List.any_cons, List.any_cons, ih, h.1]
theorem KV.repl {kvs : List (κ × V)} {vs : List (κ × Value)} (r : KV kvs vs) (k : κ) {y : V} {u : Value} (ry : RelV y u) :
    KV (kvs.map fun kv => if kv.1 = k then (kv.1, y) else kv) (vs.map fun kv => if kv.1 = k then (kv.1, u) else kv) := by
  unfold KV at r ⊢
  induction r with
  | nil => exact .nil
  | @cons p q ps qs h t ih =>
    rw [List.map_cons, List.map_cons]
    refine .cons ?_ ih
    obtain ⟨h1, h2⟩ := h
    by_cases e : p.1 = k
    · rw [if_pos e, if_pos (h1.symm.trans e)]; exact ⟨h1, ry⟩
    · rw [if_neg e, if_neg (fun z => e (h1.trans z))]; exact ⟨h1, h2⟩
theorem KV.put {kvs : List (κ × V)} {vs : List (κ × Value)} (r : KV kvs vs) (k : κ) {y : V} {u : Value} (ry : RelV y u) : KV (putK kvs k y) (stored vs k u) := by
  unfold putK stored
  rw [r.any k]
  by_cases e : (vs.any fun kv => decide (kv.1 = k)) = true
  · rw [if_pos e, if_pos e]; exact r.repl k ry
  · rw [if_neg e, if_neg e]; exact Paired.snoc r ⟨rfl, ry⟩
theorem KV.drop {kvs : List (κ × V)} {vs : List (κ × Value)} (r : KV kvs vs) (k : κ) : KV (dropK kvs k) (without vs k) := by
  unfold KV at r ⊢
  unfold dropK without
  induction r with
  | nil => exact .nil
  | @cons p q ps qs h t ih =>
    obtain ⟨h1, h2⟩ := h
    rw [List.filter_cons, List.filter_cons]
    by_cases e : p.1 = k
    · have a : ¬ decide (p.1 ≠ k) = true := by simp [e]
      have b : ¬ decide (q.1 ≠ k) = true := by simp [h1.symm.trans e]
      rw [if_neg a, if_neg b]; exact ih
    · have e' : ¬ q.1 = k := fun z => e (h1.trans z)
      have a : decide (p.1 ≠ k) = true := by simp [e]
      have b : decide (q.1 ≠ k) = true := by simp [e']
      rw [if_pos a, if_pos b]; exact .cons ⟨h1, h2⟩ ih
theorem KV.keys {kvs : List (κ × V)} {vs : List (κ × Value)} (r : KV kvs vs) : kvs.map (·.1) = vs.map (·.1) := by
  unfold KV at r
  induction r with
  | nil => rfl
  | cons h t ih => rw [List.map_cons, List.map_cons, ih, h.1]
theorem KV.length {kvs : List (κ × V)} {vs : List (κ × Value)} (r : KV kvs vs) : kvs.length = vs.length := Paired.length r
end
theorem kV_is {P : Program} {w : World} {k : Key} {u : Value} (r : RelV (kV k) u) : (mixKind P w).is k u = true := by
  cases k with
  | inl i => obtain ⟨t, e⟩ := (show ∃ t, u = Value.int i t from r); subst e; exact mixKind_int P w i t
  | inr x => obtain ⟨t, e⟩ := (show ∃ t, u = Value.str x t from r); subst e; exact mixKind_str P w x t
theorem items_are {P : Program} {w : World} : ∀ {ks : List Key} {us : List Value}, Vals (ks.map kV) us → ItemsAre (mixKind P w) ks us
  | [], _, r => by rw [List.map_nil] at r; cases r; exact .nil
  | k :: ks, _, r => by
    rw [List.map_cons] at r
    cases r with
    | cons h t => exact .cons (kV_is h) (items_are t)
abbrev KT (H : Hp) : List (List Key × V) → List (List Key × Addr × Value) → Prop := Paired fun p q => p.1 = q.1 ∧ H q.2.1 = some (.tup (p.1.map kV)) ∧ RelV p.2 q.2.2
theorem KT.val {H : Hp} {kvs : List (List Key × V)} {xs : List (List Key × Addr × Value)} (r : KT H kvs xs) (k : List Key) : RelO (valV kvs k) ((atKey xs k).map (·.2)) := by
  induction r with
  | nil => exact True.intro
  | @cons p q ps qs h t ih =>
    obtain ⟨h1, _, h2⟩ := h
    by_cases e : p.1 = k
    · have e' : q.1 = k := h1.symm.trans e
      have b : atKey (q :: qs) k = some q.2 := by simp [atKey, List.find?_cons, e']
      rw [valV_pos e, b]; exact h2
    · have e' : ¬ q.1 = k := fun z => e (h1.trans z)
      have b : atKey (q :: qs) k = atKey qs k := by simp [atKey, List.find?_cons, e']
      rw [valV_neg e, b]; exact ih
theorem KT.repl {H : Hp} {kvs : List (List Key × V)} {xs : List (List Key × Addr × Value)} (r : KT H kvs xs) (k : List Key) {y : V} {u : Value} (ry : RelV y u) :
    KT H (kvs.map fun kv => if kv.1 = k then (kv.1, y) else kv) (xs.map (putAt k u)) := by
  induction r with
  | nil => exact .nil
  | @cons p q ps qs h t ih =>
    rw [List.map_cons, List.map_cons]
    refine .cons ?_ ih
    obtain ⟨h1, h2, h3⟩ := h
    unfold putAt
    by_cases e : p.1 = k
    · rw [if_pos e, if_pos (h1.symm.trans e)]; exact ⟨h1, h2, ry⟩
    · rw [if_neg e, if_neg (fun z => e (h1.trans z))]; exact ⟨h1, h2, h3⟩
theorem KT.put {H : Hp} {kvs : List (List Key × V)} {xs : List (List Key × Addr × Value)} (r : KT H kvs xs) (k : List Key) {b : Addr} {y : V} {u : Value} (hb : H b = some (.tup (k.map kV))) (ry : RelV y u) :
    KT H (putK kvs k y) (storedH xs k b u) := by
  have e : (kvs.any fun kv => decide (kv.1 = k)) = (atKey xs k).isSome := by
    rw [valV_any, (r.val k).isSome_eq, Option.isSome_map]
  unfold putK storedH
  rw [e]
  by_cases q : (atKey xs k).isSome = true
  · rw [if_pos q, if_pos q]; exact r.repl k ry
  · rw [if_neg q, if_neg q]; exact Paired.snoc r ⟨rfl, hb, ry⟩
theorem KT.keeps {H H' : Hp} {kvs : List (List Key × V)} {xs : List (List Key × Addr × Value)} (r : KT H kvs xs) (ht : ∀ b ys, H b = some (.tup ys) → H' b = some (.tup ys)) : KT H' kvs xs :=
  Paired.mapP r fun _ _ z => ⟨z.1, ht _ _ z.2.1, z.2.2⟩
section
variable {P : Program} {w : World} {H : Hp} {h : Heap} {a : Addr}
theorem rd_of {u : HO} (ok : HOk P w H h) (e : Rd H a u) : ObjOk P w H h a u := e.ok ok
theorem dk_rd {kvs : List (Key × V)} (ok : HOk P w H h) (e : Rd H a (.dK kvs)) : kvs.length ≤ sizeLine ∧ (a == sysModules) = false ∧ ∃ vs, KV kvs vs ∧ h.DictOf (mixKind P w) a vs :=
  show ObjOk P w H h a (.dK kvs) from rd_of ok e
theorem dk_of {kvs : List (Key × V)} (ok : HOk P w H h) (e : H a = some (.dK kvs)) : kvs.length ≤ sizeLine ∧ (a == sysModules) = false ∧ ∃ vs, KV kvs vs ∧ h.DictOf (mixKind P w) a vs := dk_rd ok (.inl e)
theorem key_of {ks : List Key} (ok : HOk P w H h) (e : H a = some (.tup (ks.map kV))) : (tupleKind (mixKind P w)).is h ks a := by
  obtain ⟨_, its, r, o, h1, h2, n, h3⟩ := (show ObjOk P w H h a (.tup (ks.map kV)) from ok a _ e)
  exact ⟨o, its.toArray, n, h1, h2, h3, by simpa using items_are r⟩
theorem dt_rd {kvs : List (List Key × V)} (ok : HOk P w H h) (e : Rd H a (.dT kvs)) : kvs.length ≤ sizeLine ∧ (a == sysModules) = false ∧
    ∃ xs, KT H kvs xs ∧ h.DictOfH (tupleKind (mixKind P w)) a xs := by
  obtain ⟨z, y, xs, r, o, es, ep, h1, h2, h3, h4, h5⟩ := (show ObjOk P w H h a (.dT kvs) from rd_of ok e)
  refine ⟨z, y, xs, r, o, es, ep, h1, h2, h3, h4, fun x hx => ?_, h5⟩
  have all : ∀ {l : List (List Key × V)} {m : List (List Key × Addr × Value)}, KT H l m → ∀ x ∈ m, (tupleKind (mixKind P w)).is h x.1 x.2.1 := by
    intro l m q
    induction q with
    | nil => intro x hx; exact nomatch hx
    | @cons p q ps qs hq t ih =>
      intro x hx
      rcases List.mem_cons.mp hx with e | hx
      · subst e
        exact key_of ok (by rw [← hq.1]; exact hq.2.1)
      · exact ih x hx
  exact all r x hx
theorem dt_of {kvs : List (List Key × V)} (ok : HOk P w H h) (e : H a = some (.dT kvs)) : kvs.length ≤ sizeLine ∧ (a == sysModules) = false ∧
    ∃ xs, KT H kvs xs ∧ h.DictOfH (tupleKind (mixKind P w)) a xs := dt_rd ok (.inl e)
end
def DGet (H : Hp) (a : Addr) (y : V) (r : Option V) : Prop :=
  (∃ kvs k, Rd H a (.dK kvs) ∧ y = kV k ∧ r = valV kvs k) ∨ ∃ kvs k b, Rd H a (.dT kvs) ∧ y = .ref b ∧ H b = some (.tup (k.map kV)) ∧ r = valV kvs k
def DPut (H : Hp) (a : Addr) (y v : V) (H' : Hp) : Prop :=
  (∃ kvs k, H a = some (.dK kvs) ∧ y = kV k ∧ kvs.length < sizeLine ∧ H' = upd H a (.dK (putK kvs k v))) ∨
  ∃ kvs k b, H a = some (.dT kvs) ∧ y = .ref b ∧ H b = some (.tup (k.map kV)) ∧ kvs.length < sizeLine ∧ H' = upd H a (.dT (putK kvs k v))
theorem DGet.k {H : Hp} {a : Addr} {kvs : List (Key × V)} {k : Key} (e : H a = some (.dK kvs)) : DGet H a (kV k) (valV kvs k) := .inl ⟨kvs, k, .inl e, rfl, rfl⟩
theorem DGet.t {H : Hp} {a b : Addr} {kvs : List (List Key × V)} {k : List Key} (e : H a = some (.dT kvs)) (eb : H b = some (.tup (k.map kV))) : DGet H a (.ref b) (valV kvs k) := .inr ⟨kvs, k, b, .inl e, rfl, eb, rfl⟩
theorem DPut.k {H : Hp} {a : Addr} {kvs : List (Key × V)} {k : Key} {v : V} (e : H a = some (.dK kvs)) (hl : kvs.length < sizeLine) : DPut H a (kV k) v (upd H a (.dK (putK kvs k v))) := .inl ⟨kvs, k, e, rfl, hl, rfl⟩
theorem DPut.t {H : Hp} {a b : Addr} {kvs : List (List Key × V)} {k : List Key} {v : V} (e : H a = some (.dT kvs)) (eb : H b = some (.tup (k.map kV))) (hl : kvs.length < sizeLine) :
    DPut H a (.ref b) v (upd H a (.dT (putK kvs k v))) := .inr ⟨kvs, k, b, e, rfl, eb, hl, rfl⟩
section
variable {X : Cx} {pins : List (Addr × Obj)} {σ : St} {H : Hp} {s : Shared} {a : Addr} {y v : V} {u r : Value} {o : Option V} {A : Around} {E : Value → Shared → Prop}
theorem Inv.big (I : Inv X pins σ H s) : sysModules < s.heap.objs.size := by
  have h : mainGlobals < s.heap.objs.size := (I.mod.glob.keeps I.bk).lt
  exact Nat.lt_trans (by decide) h
theorem d_notIn {Q : Value → Shared → Prop} (hu : A.units + 1 < cLine) (I : Inv X pins σ H s) (g : DGet H a y o) (ry : RelV y u) (h : ∀ s', Inv X pins σ H s' → Q (.bool (!o.isSome)) s') :
    wpAny (model X.prog X.w) A (compareOp .NotIn u (.ref a)) Q E s := by
  rcases g with ⟨kvs, k, e, ey, l⟩ | ⟨kvs, k, b, e, ey, eb, l⟩
  · subst ey
    obtain ⟨z, hd, vs, rel, dd⟩ := dk_rd I.hok e
    refine wpAny_notIn_of (kV_is ry) hd dd.mapOf ?_
    rw [← (rel.val k).isSome_eq, ← l]
    exact h _ (I.tok _)
  · subst ey
    cases (show u = Value.ref b from ry)
    obtain ⟨z, hd, xs, rel, dd⟩ := dt_rd I.hok e
    refine wpAny_notIn_heap (tupleKind_room_in1 hu) (key_of I.hok eb) hd dd ?_
    have q := (rel.val k).isSome_eq
    rw [Option.isSome_map] at q
    rw [← q, ← l]
    exact h _ (I.tok _)
theorem d_write {h' : Heap} {t' : Nat} {ob : HO} (I : Inv X pins σ H s) (mu : Mut (H a)) (hs : Heap.SameBut a s.heap h') (he : ∃ q, h'.get? a = some q) (new : ObjOk X.prog X.w (upd H a ob) h' a ob) :
    Inv X pins σ (upd H a ob) { s with heap := h', toks := t' } :=
  I.write (x := a) (e := a) mu (.inl rfl) (fun b q hb z => (hs.2 b hb).trans z) he new
theorem dk_new {P : Program} {w : World} {H' : Hp} {h' : Heap} {kvs : List (Key × V)} {vs : List (Key × Value)} (z : kvs.length ≤ sizeLine) (hd : (a == sysModules) = false) (rel : KV kvs vs) (dd : h'.DictOf (mixKind P w) a vs) :
    ObjOk P w H' h' a (.dK kvs) := ⟨z, hd, vs, rel, dd⟩
theorem d_setItem {H' : Hp} {Q : Unit → Shared → Prop} (hu : A.units + 1 < cLine) (I : Inv X pins σ H s) (g : DPut H a y v H') (ry : RelV y u) (rv : RelV v r) (h : ∀ s', Inv X pins σ H' s' → Q () s') :
    wpAny (model X.prog X.w) A (setItem (.ref a) u r) Q E s := by
  rcases g with ⟨kvs, k, e, ey, l, eH⟩ | ⟨kvs, k, b, e, ey, eb, l, eH⟩
  · subst ey eH
    obtain ⟨z, hd, vs, rel, dd⟩ := dk_of I.hok e
    have hz : vs.length ≤ sizeLine := by rw [← rel.length]; exact z
    have hl : (putK kvs k v).length ≤ sizeLine := by have := length_putK kvs k v; omega
    refine wpAny_setItem_pairs (hsz := hz) (kV_is ry) dd fun h' dd' hs => h _ ?_
    have he : ∃ q, h'.get? a = some q := let ⟨q, _, _, hq, _⟩ := dd'; ⟨q, hq⟩
    exact d_write I (by rw [e]; exact True.intro) hs he (dk_new hl hd (rel.put k rv) dd')
  · subst ey eH
    cases (show u = Value.ref b from ry)
    obtain ⟨z, hd, xs, rel, dd⟩ := dt_of I.hok e
    have hz : xs.length ≤ sizeLine := by rw [← Paired.length rel]; exact z
    have hl : (putK kvs k v).length ≤ sizeLine := by have := length_putK kvs k v; omega
    refine wpAny_setItem_heap (hsz := hz) (tupleKind_room_in1 hu) (key_of I.hok eb) dd fun h' dd' hs => h _ ?_
    obtain ⟨q, es, ep, hq, h2, h3, h4, _, h5⟩ := dd'
    refine d_write I (by rw [e]; exact True.intro) hs ⟨q, hq⟩ ⟨hl, hd, _, (rel.put k eb rv).keeps fun c ys ec => ?_, q, es, ep, hq, h2, h3, h4, h5⟩
    rw [upd_ne (ne_of ec e (fun z => nomatch z))]
    exact ec
end
section
variable {X : Cx} {pins : List (Addr × Obj)} {σ : St} {H : Hp} {s : Shared} {a : Addr} {kvs : List (Key × V)} {k : Key} {u : Value} {A : Around} {E : Value → Shared → Prop}
end
def tDNotIn (ty td : TE) : TE := fun σ H Q => ty σ H fun y H1 => td σ H1 fun x H2 => ∃ a o, x = .ref a ∧ DGet H2 a y o ∧ Q (.bl (!o.isSome)) H2
def sDPut (td ty tv : TE) : TS := fun D σ H => tv σ H fun v H1 => td σ H1 fun x H2 => ty σ H2 fun y H3 => ∃ a H4, x = .ref a ∧ DPut H3 a y v H4 ∧ D.nx σ H4
section
variable {X : Cx} {o i e value : Expr} {pos pos' tpos : Pos} {td ty tv : TE}
theorem pc_dnotin (hu : X.A.units + 1 < cLine) (hi : PE X i ty) (ho : PE X o td) : PC X .NotIn i o (tDNotIn ty td) := by
  intro pins s σ H Q I h
  refine thn (hi pins s σ H _ I h) fun iv s1 ⟨y, H1, I1, ry, q1⟩ => thn (ho pins s1 σ H1 _ I1 q1) fun u s2 ⟨x, H2, I2, rx, a, ov, ex, g, q2⟩ => ?_
  subst ex
  obtain rfl : u = Value.ref a := rx
  exact d_notIn hu I2 g ry fun s3 I3 => ⟨.bl (!ov.isSome), H2, I3, rfl, q2⟩
theorem ps_dput (hu : X.A.units + 1 < cLine) (ho : PE X o td) (hi : PE X i ty) (hv : PE X value tv) (hs : swapsWith value (some (.Subscript o i pos')) pos.line X.env = pure false) :
    PS X (.Assign [.Subscript o i pos'] value pos) (sDPut td ty tv) := by
  intro pins s σ H D I h
  refine wpAny_Assign_Subscript (thn (hv pins s σ H _ I h) fun r s1 ⟨v, H1, I1, rv, q1⟩ => thn (ho pins s1 σ H1 _ I1 q1) fun u s2 ⟨x, H2, I2, rx, q2⟩ => thn (hi pins s2 σ H2 _ I2 q2) fun iv s3 ⟨y, H3, I3, ry, a, H4, ex, g, q3⟩ => ?_) hs
  subst ex
  obtain rfl : u = Value.ref a := rx
  exact d_setItem hu I3 g ry rv fun s4 I4 => ⟨σ, H4, I4, q3⟩
end
theorem dk_empty {P : Program} {w : World} {H : Hp} (h : Heap) (hb : sysModules < h.objs.size) : ObjOk P w H (h.push { cls := .type "dict", data := .dict #[] }) h.objs.size (.dK []) :=
  ⟨Nat.zero_le _, beq_eq_false_iff_ne.mpr (Ne.symm (Nat.ne_of_lt hb)), [], .nil, Heap.DictOf.new h⟩
section
variable {X : Cx} {pos : Pos}
end
def tPairs : List (TE × TE) → St → Hp → (List (V × V) → Hp → Prop) → Prop
  | [], _, H, Q => Q [] H
  | (tk, tv) :: r, σ, H, Q => tk σ H fun x H1 => tv σ H1 fun y H2 => tPairs r σ H2 fun ps H3 => Q ((x, y) :: ps) H3
abbrev VV : List (V × V) → List (Value × Value) → Prop := Paired fun p q => RelV p.1 q.1 ∧ RelV p.2 q.2
def PPs (X : Cx) (pos : Pos) (keys : List (Option Expr)) (values : List Expr) (trs : List (TE × TE)) : Prop :=
  ∀ (pins : List (Addr × Obj)) (s : Shared) (σ : St) (H : Hp) (Q : List (V × V) → Hp → Prop), Inv X pins σ H s → tPairs trs σ H Q →
    wpAny (model X.prog X.w) X.A (evalPairs (pairTrees keys values X.env pos)) (fun vs s' => ∃ ps H', Inv X pins σ H' s' ∧ VV ps vs ∧ Q ps H') X.xe s
theorem pps_nil {X : Cx} {pos : Pos} : PPs X pos [] [] [] := fun pins s σ H Q I h => pairTrees_nil_walk ⟨[], H, I, .nil, h⟩
theorem pps_cons {X : Cx} {pos : Pos} {k v : Expr} {ks : List (Option Expr)} {vs : List Expr} {tk tv : TE} {trs : List (TE × TE)} (hk : PE X k tk) (hv : PE X v tv) (hr : PPs X pos ks vs trs) :
    PPs X pos (some k :: ks) (v :: vs) ((tk, tv) :: trs) := fun pins s σ H Q I h =>
  pairTrees_cons_walk (thn (hk pins s σ H _ I h) fun u s1 ⟨x, H1, I1, rx, q1⟩ => thn (hv pins s1 σ H1 _ I1 q1) fun w2 s2 ⟨y, H2, I2, ry, q2⟩ =>
    thn (hr pins s2 σ H2 _ I2 q2) fun ws s3 ⟨ps, H3, I3, rel, q3⟩ => ⟨(x, y) :: ps, H3, I3, .cons ⟨rx, ry⟩ rel, q3⟩)
def mergeK (kvs more : List (Key × V)) : List (Key × V) := more.foldl (fun acc kv => putK acc kv.1 kv.2) kvs
theorem KV.merge : ∀ {more : List (Key × V)} {rs : List (Key × Value)} {kvs : List (Key × V)} {vs : List (Key × Value)}, KV more rs → KV kvs vs → KV (mergeK kvs more) (merged vs rs) := by
  intro more rs kvs vs r
  unfold KV at r
  induction r generalizing kvs vs with
  | nil => intro q; exact q
  | @cons p q ps qs h t ih =>
    intro r0
    have e : KV (putK kvs p.1 p.2) (stored vs q.1 q.2) := by
      have := r0.put p.1 h.2
      rw [← h.1]; exact this
    exact ih e
theorem length_mergeK : ∀ (more kvs : List (Key × V)), (mergeK kvs more).length ≤ kvs.length + more.length
  | [], kvs => by show kvs.length ≤ kvs.length + 0; omega
  | p :: r, kvs => by
    have h1 := length_mergeK r (putK kvs p.1 p.2)
    have h2 := length_putK kvs p.1 p.2
    show (mergeK (putK kvs p.1 p.2) r).length ≤ _
    rw [List.length_cons]; omega
theorem carries_of {P : Program} {w : World} : ∀ {kvs : List (Key × V)} {ws : List (Value × Value)}, VV (kvs.map fun kv => (kV kv.1, kv.2)) ws → ∃ rs, Carries (mixKind P w) ws rs ∧ KV kvs rs
  | [], _, r => by rw [List.map_nil] at r; cases r; exact ⟨[], True.intro, .nil⟩
  | p :: kvs, _, r => by
    rw [List.map_cons] at r
    cases r with
    | @cons a b as bs h t =>
      obtain ⟨rs, c, q⟩ := carries_of (P := P) (w := w) t
      obtain ⟨b1, b2⟩ := b
      exact ⟨(p.1, b2) :: rs, ⟨kV_is h.1, rfl, c⟩, .cons ⟨rfl, h.2⟩ q⟩
def tDisp (trs : List (TE × TE)) : TE := fun σ H Q => ∀ p, H p = none → tPairs trs σ (upd H p (.dK [])) fun ps H2 => H2 p = some (.dK []) ∧ ∃ kvs : List (Key × V), ps = kvs.map (fun kv => (kV kv.1, kv.2)) ∧ kvs.length ≤ 15 ∧ Q (.ref p) (upd H2 p (.dK (mergeK [] kvs)))
theorem pe_disp {X : Cx} {pos : Pos} {keys : List (Option Expr)} {values : List Expr} {trs : List (TE × TE)} (h : PPs X pos keys values trs) (hall : keys.all (·.isSome) = true) (hl : keys.length = values.length) (h0 : keys ≠ [])
    (h15 : keys.length ≤ 15) : PE X (.Dict keys values pos) (tDisp trs) := by
  intro pins s σ H Q I q
  have hn := I.hok.fresh (Nat.le_refl s.heap.objs.size)
  have I1 := I.laid (a := s.heap.objs.size) (o := .dK []) (h' := s.heap.push { cls := .type "dict", data := .dict #[] }) (t' := s.toks) (fun _ _ q => Heap.get?_push_of_some _ q) (Nat.le_refl _) (dk_empty s.heap I.big)
  refine wpAny_Dict_walk (knd := mixKind X.prog X.w) hall hl h0 h15 (thn (h pins _ σ _ _ I1 (q _ hn)) fun ws s2 ⟨ps, H2, I2, rel, e, kvs, ep, lk, q2⟩ => ?_)
  subst ep
  obtain ⟨rs, c, rk⟩ := carries_of (P := X.prog) (w := X.w) rel
  obtain ⟨z, hd, vs0, r0, dd⟩ := dk_of I2.hok e
  cases r0
  refine ⟨rs, c, dd, fun h' dd' hs => ⟨.ref s.heap.objs.size, _, ?_, rfl, q2⟩⟩
  have hz : (mergeK [] kvs).length ≤ sizeLine := by
    have h1 := length_mergeK kvs []
    rw [List.length_nil] at h1
    rw [sizeLine_eq]; omega
  have he : ∃ q, h'.get? s.heap.objs.size = some q := let ⟨q, _, _, hq, _⟩ := dd'; ⟨q, hq⟩
  exact d_write I2 (by rw [e]; exact True.intro) hs he (dk_new hz hd (rk.merge .nil) dd')
structure M1 (X : Cx) (o : Expr) (m : Str) (apos : Pos) (e : Expr) (cpos : Pos) : Prop where
  base : attributeBase o m X.env (eval o X.env) = eval o X.env
  few : ((backTo cpos (starEach [e] X.env)).all (fun x => !x.1) && (backToKw cpos (keywordEach [] X.env)).all (fun x => x.1.isSome)
    && decide (([e] : List Expr).length + ([] : List Keyword).length + (if ([] : List Keyword).isEmpty then 0 else 1) < 30)) = true
  line : (apos.endLine == cpos.line) = true
  trees : backTo cpos (starEach [e] X.env) = [(false, eval e X.env)]
structure M2 (X : Cx) (o : Expr) (m : Str) (apos : Pos) (e f : Expr) (cpos : Pos) : Prop where
  base : attributeBase o m X.env (eval o X.env) = eval o X.env
  few : ((backTo cpos (starEach [e, f] X.env)).all (fun x => !x.1) && (backToKw cpos (keywordEach [] X.env)).all (fun x => x.1.isSome)
    && decide (([e, f] : List Expr).length + ([] : List Keyword).length + (if ([] : List Keyword).isEmpty then 0 else 1) < 30)) = true
  line : (apos.endLine == cpos.line) = true
  trees : backTo cpos (starEach [e, f] X.env) = [(false, eval e X.env), (false, eval f X.env)]
section
variable {X : Cx} {pins : List (Addr × Obj)} {σ : St} {H : Hp} {s : Shared} {a : Addr} {y d : V} {u r : Value} {o : Option V} {A : Around} {E : Value → Shared → Prop}
end
section
variable {X : Cx} {o e f : Expr} {apos cpos : Pos} {td ty tx : TE}
end
section
variable {X : Cx} {pins : List (Addr × Obj)} {σ : St} {H : Hp} {s : Shared} {a : Addr} {kvs : List (Key × V)} {A : Around} {E : Value → Shared → Prop}
end
section
variable {X : Cx} {pins : List (Addr × Obj)} {σ : St} {H : Hp} {s : Shared} {a : Addr} {y : V} {u : Value} {A : Around} {E : Value → Shared → Prop}
end
end L2
namespace L2
open PySem PySem.Spec PyProof.Rows
section
variable {prog : Program} {w : World} {A : Around} {E : Value → Shared → Prop}
end
section
variable {X : Cx}
end
end L2
namespace L2
open PySem PySem.Spec PyProof.Rows
section
variable {X : Cx} {pins : List (Addr × Obj)} {σ : St} {H : Hp} {s : Shared} {h' : Heap}
theorem Inv.turnedNew {t' : Nat} {ch : List Addr} {T : Addr} {ob : HO} (I : Inv X pins σ H s) (k : ∀ b o, b ∉ ch → s.heap.get? b = some o → h'.get? b = some o) (hf : ∀ b ∈ ch, FpOk X pins H b) (hT : s.heap.objs.size ≤ T)
    (new : ObjOk X.prog X.w (upd H T ob) h' T ob) : Inv X pins σ (upd H T ob) { s with heap := h', toks := t' } := by
  have hn : H T = none := I.hok.fresh hT
  have nit : ∀ b u, H b = some u → b ∉ ch := fun b u e z => by
    have q := (hf b z).1
    rw [q] at e; cases e
  refine I.step (g' := s.gens) (d' := s.drawn) (ch := ch) (fun b hb => ⟨(hf b hb).2.2.2.1, (hf b hb).2.1, (hf b hb).2.2.2.2.1, (hf b hb).2.2.2.2.2⟩) (fun b o _ _ hc e _ => k b o hc e) (fun b o _ _ hc e _ => ⟨o.slots, k b o hc e⟩)
    (fun b o _ e n => ?_) (fun b o hc e => ⟨o, k b o hc e⟩) (fun b xs e => ?_) (fun b o u e => ?_) (fun b ps e => ⟨#[], ?_⟩) (fun m hm => ?_) (fun b u e => ?_) I.bare
  · rw [upd_ne (Nat.ne_of_lt (Nat.lt_of_lt_of_le (Heap.lt_size e) hT))]; exact n
  · rw [upd_ne (ne_of_none e hn)]; exact e
  · rw [upd_ne (ne_of_none e hn)]; exact e
  · rw [upd_ne (ne_of_none e hn), e]; simp
  · obtain ⟨o, es, ep, ho, r⟩ := hm
    exact ⟨o, es, ep, k _ o (fun z => (hf _ z).2.1 rfl) ho, r⟩
  · by_cases hb : b = T
    · subst hb
      rw [upd_same] at e
      cases e
      exact new
    · rw [upd_ne hb] at e
      refine (I.hok b u e).stay (fun c v hc q => k c v ?_ q) (fun c q => by rw [upd_ne (ne_of_none q hn)]; exact q) fun c xs q => by rw [upd_ne (ne_of_none q hn)]; exact q
      rcases hc with z | z
      · rw [z]; exact nit b u e
      · exact nit c _ z
end
section
variable {X : Cx}
end
section
variable {X : Cx} {tg : Expr}
end
section
variable {X : Cx} {tg : Expr}
end
section
variable {prog : Program} {w : World} {A : Around} {E : Value → Shared → Prop} {s : Shared}
end
section
variable {X : Cx} {pins : List (Addr × Obj)} {σ : St} {H : Hp} {s : Shared} {d : Addr} {o : Obj}
end
section
variable {P : Program} {w : World} {K : PySem.W.Frag} {tg : Expr} {d : Addr} {o : Obj} {es : Array DictEntry} {ep : Nat}
end
section
variable {X : Cx} {tg e : Expr} {td : TE} {apos cpos : Pos}
end
def Ite (K : PySem.W.Frag) (a : Addr) : It :=
  ⟨fun i H => ∃ (xs : List V) (x : V), SqL K H a xs ∧ xs[i]? = some x, fun i H v H' => ∃ T x, v = .ref T ∧ H T = none ∧ H' = upd H T (.tup [.int (i : Nat), x]) ∧ ∀ xs, SqL K H a xs → xs[i]? = some x, fun i H => ∃ xs : List V, SqL K H a xs ∧ xs.length ≤ i⟩
theorem turn_enum {P : Program} {w : World} {K : PySem.W.Frag} {elts : List Expr} {kk : Nat} {tpos : Pos} (a e it : Addr) :
    Turn P w K (.Tuple elts kk tpos) (Ite K a) [e, it] e (fun i h => (∃ old, IsEnum h e it ((i : Nat) : Int) old) ∧ h.IsListIter it a i ∧ e ≠ it) where
  mem := by simp
  obj := fun i h st b hb => by
    obtain ⟨⟨old, he⟩, ⟨o, ho, hc, hd⟩, _⟩ := st
    have e' : b = e ∨ b = it := by simpa using hb
    rcases e' with z | z
    · rw [z]; exact ⟨_, he, fun v q => nomatch q⟩
    · rw [z]; exact ⟨o, ho, fun v q => by rw [hd] at q; cases q⟩
  keep := fun i h h' st k => let ⟨⟨old, he⟩, hi, hne⟩ := st; ⟨⟨old, k e (by simp) _ he⟩, hi.at fun o q => k it (by simp) o q, hne⟩
  item := by
    intro X hP hw hK hc i pins s σ H E I hf st hg
    subst hP hw hK
    obtain ⟨⟨old, he⟩, hit, hne⟩ := st
    obtain ⟨xs, x, hq, hx⟩ := hg
    obtain ⟨its, rv, p, hz⟩ := I.list hq
    obtain ⟨u, hu, ru⟩ := rv.get hx
    have hel : e < s.heap.objs.size := Heap.lt_size he
    have hil : it < s.heap.objs.size := by obtain ⟨_, q, _⟩ := hit; exact Heap.lt_size q
    refine wpAny_pyNext_enum_item he hit p.isList (x := u) (by simpa using hu) hne fun h' ho hit' hT hsz hk => ?_
    refine ⟨_, rfl, wpAny_letOwnedTupleGo_enum (s := { s with heap := h', toks := s.toks + 1 }) ho fun h'' he' sb => ?_⟩
    have hT2 : h''.get? s.heap.objs.size = some { cls := .type "tuple", data := .seq #[.int i s.toks, u] } := (sb.2 _ (Nat.ne_of_gt hel)).trans hT
    have new : ObjOk X.prog X.w (upd H s.heap.objs.size (.tup [.int (i : Nat), x])) h'' s.heap.objs.size (.tup [.int (i : Nat), x]) :=
      ⟨by show 2 ≤ sizeLine; decide, [.int i s.toks, u], .cons ⟨_, rfl⟩ (.cons ru .nil), ⟨_, hT2, rfl, _, rfl⟩⟩
    have I1 : Inv X pins σ (upd H s.heap.objs.size (.tup [.int (i : Nat), x])) { s with heap := h'', toks := s.toks + 1 } :=
      I.turnedNew (ch := [e, it]) (fun b ob hb q => (sb.2 b (fun z => hb (by simp [z]))).trans (hk b ob (fun z => hb (by simp [z])) (fun z => hb (by simp [z])) q)) hf (Nat.le_refl _) new
    refine ⟨.ref s.heap.objs.size, _, I1, rfl, ⟨_, x, rfl, I.hok.fresh (Nat.le_refl _), rfl, fun ys hy => by rw [I.list_inj hy hq]; exact hx⟩, ⟨⟨u, ?_⟩, hit'.at fun o q => (sb.2 it (Ne.symm hne)).trans q, hne⟩, fun b hb => ?_⟩
    · have e1 : ((i + 1 : Nat) : Int) = (i : Int) + 1 := by omega
      rw [e1]; exact he'
    · have hb' : b < s.heap.objs.size := by
        have e' : b = e ∨ b = it := by simpa using hb
        rcases e' with z | z
        · rw [z]; exact hel
        · rw [z]; exact hil
      rw [upd_ne (Nat.ne_of_lt hb')]
      exact (hf b hb).1
  done := by
    intro X hP hw hK hc i pins s σ H E I hf st hg
    subst hP hw hK
    obtain ⟨⟨old, he⟩, hit, hne⟩ := st
    obtain ⟨xs, hq, hx⟩ := hg
    obtain ⟨its, rv, p, hz⟩ := I.list hq
    obtain ⟨f0, f1, f2, f3, f4, f5⟩ := hf it (by simp)
    have hl := rv.length
    exact wpAny_pyNext_enum_end (I.ok.hd hc) he hit p.isList (by simp; omega) fun h' eb => ⟨rfl, I.turned (t' := s.toks) (fun b o hb q => eb b o hb q) f0 f1 f3 f4 f5⟩
  self := fun A i s Q E st h => let ⟨⟨_, he⟩, _⟩ := st; wpAny_pyIter_enum he h
def iEnum (K : PySem.W.Frag) (ta : TA) : TI := fun σ H R => ta σ H fun vs H1 => ∃ a xs, vs = [.ref a] ∧ SqL K H1 a xs ∧ R (Ite K a) H1
theorem pi_enum {X : Cx} {e : Expr} {ta : TA} {p pos tpos : Pos} {elts : List Expr} {kk : Nat} (hg : Gl X "enumerate") (hm : X.mg "enumerate" = none) (ha : PA X [e] ta) (hs : starEach [e] X.env = [(false, eval e X.env)] := by rfl) :
    PI X (.Tuple elts kk tpos) (.Call (.Name "enumerate" p) [e] [] pos) (iEnum X.K ta) := by
  intro pins s σ H R I h
  refine Call_ (ld_blt I hg hm boot_enumerate (PyProof.Rows.callWith_type1 (thn (ha pos pins s σ H _ I h) fun us s1 ⟨vs, H1, I1, r1, q1⟩ => ?_) hs rfl))
  obtain ⟨a, xs, ex, hq, q⟩ := q1
  subst ex
  cases r1 with
  | cons r rr =>
    cases rr
    cases r
    obtain ⟨its, rv, p', hz⟩ := I1.list hq
    refine call_enumerate_list p'.isList fun h' he hit hsz hk => wpAny_pyIter_enum he ?_
    have I2 : Inv X pins σ H1 { s1 with heap := h' } := I1.kept (t' := s1.toks) hk
    refine ⟨s1.heap.objs.size + 1, [s1.heap.objs.size + 1, s1.heap.objs.size], _, _, H1, rfl, I2, turn_enum a (s1.heap.objs.size + 1) s1.heap.objs.size, ⟨⟨.none, he⟩, hit, Nat.succ_ne_self _⟩, fun b hb => ?_, q⟩
    have e' : b = s1.heap.objs.size + 1 ∨ b = s1.heap.objs.size := by simpa using hb
    have hle : s1.heap.objs.size ≤ b := by
      rcases e' with z | z
      · rw [z]; exact Nat.le_add_right _ _
      · rw [z]; exact Nat.le_refl _
    exact I1.fpOk hle (I1.hok.fresh hle)
end L2
section 
namespace Bits
open PySem PyProof.Rows
end Bits
end 
section 
namespace TL
open PySem PySem.Builtin PySem.Builtin.Str PySem.StrLaws
abbrev tl (x : Str) : List Nat := x.cps.toList
def pre (S l : List Nat) : Bool := l.take S.length == S
def par (S : List Nat) : List Nat → List Nat → Option (List Nat × List Nat)
  | _, [] => none
  | acc, c :: r => if pre S (c :: r) = true then some (acc, (c :: r).drop S.length) else par S (acc ++ [c]) r
end TL
end 
namespace L2
open PySem PySem.Spec PyProof.Rows
section
variable {X : Cx} {pins : List (Addr × Obj)} {σ : St} {H : Hp} {s : Shared} {Q : VK}
end
section
variable {X : Cx}
end
section
variable {X : Cx} {o e : Expr} {to te : TE}
end
end L2
namespace L2
open PySem PySem.Spec PyProof.Rows
section
variable {X : Cx}
end
theorem IsPart.raw {v : Value} {o : Option Int} (p : IsPart v o) : ∃ l : Option (Int × Tok), v = partValue l ∧ l.map (·.1) = o := by
  cases p with
  | none => exact ⟨none, rfl, rfl⟩
  | int i t => exact ⟨some (i, t), rfl, rfl⟩
end L2
namespace Att
open PySem PySem.W PySem.Calls PyProof.Rows
section
variable {prog : Program} {w : World} {A : Around} {E : Value → Shared → Prop} {s : Shared} {K : Frag}
end
end Att
namespace L2
open PySem PySem.Spec PyProof.Rows
end L2
namespace L2
open PySem PySem.Spec PyProof.Rows
end L2
namespace L2
open PySem PySem.Spec PyProof.Rows
def inClass (s : Stmt) (j : Nat) : Stmt := match s with
  | .ClassDef _ _ _ body _ _ _ _ _ _ _ => body.getD j (.Pass ⟨0, 0, 0, 0⟩)
  | _ => .Pass ⟨0, 0, 0, 0⟩
def defArgs (s : Stmt) : Arguments := match s with
  | .FunctionDef _ a _ _ _ _ _ _ _ _ => a
  | _ => { posonlyargs := [], args := [], vararg := none, kwonlyargs := [], kw_defaults := [], kwarg := none, defaults := [] }
def defBody (s : Stmt) : List Stmt := match s with
  | .FunctionDef _ _ b _ _ _ _ _ _ _ => b
  | _ => []
def defScope (s : Stmt) : Scope := match s with
  | .FunctionDef _ _ _ _ _ _ sc _ _ _ => sc
  | _ => { kind := .function, names := [], isGenerator := false, isCoroutine := false }
abbrev CX0 : CXT := fun _ _ _ _ _ _ => False
abbrev E0 : XK := fun _ _ _ => False
theorem pass0 {X : Cx} : Passes CX0 X E0 := fun _ _ _ _ _ _ _ h => h.elim
structure Fun (K : PySem.W.Frag) (x qual : Str) (st : Stmt) (f : Addr) (fd : FuncData) : Prop where
  ex : ∃ (oc : Value) (od : Option Addr) (kV doc pm : Value) (an : Option Addr) (cdv ct : Value) (osl : Array (Option Value)),
    fd = PySem.W.fnOf x qual (defArgs st) (defBody st) (defScope st) .none kV doc pm an cdv ct ∧ K.lookup f = some ⟨oc, od, .func fd, osl⟩ ∧ PySem.W.codeIn K cdv qual = true
  kp : PySem.W.keepIn K (.ref f) = true
section
variable {P : Program} {w : World} {K : PySem.W.Frag} {mg : Str → Option Value} {base : Heap}
theorem Fun.ok {x qual : Str} {st : Stmt} {f : Addr} {fd : FuncData} {N ps : List Str} {k : Nat} {sp : Sp} (F : Fun K x qual st f fd) (S : FnScope N ps (defScope st)) (len : ∀ vs H Q E, sp vs H Q E → vs.length = ps.length)
    (hbody : ∀ (cdv : Value) (A : Around) (outer : List Env) (s : Shared) (H : Hp) (vs : List V) (Q : VK) (E : XK), Room k (A.deeper (envOfC qual (defScope st) s.heap.objs.size f cdv)) → sp vs H Q E →
      ∃ t, PSs (cxOf CX0 P w K mg base N qual (defScope st) f cdv A outer s H E).nox (defBody st) t ∧ t { nx := fun _ H' => Q .non H', rt := Q } (start N vs) H) : FnOk P w K mg base CX0 (k + 1) f fd ps sp := by
  obtain ⟨oc, od, kV, doc, pm, an, cdv, ct, osl, rfl, lk, hcd⟩ := F.ex
  refine fn_of lk hcd S len fun A outer s H vs Q E hr hsp => ?_
  obtain ⟨t, h, q⟩ := hbody cdv A outer s H vs Q E hr hsp
  exact ⟨t, h.nox, q⟩
theorem Fun.binds {x qual : Str} {st : Stmt} {f : Addr} {fd : FuncData} {ps : List Str} (F : Fun K x qual st f fd)
    (h : ∀ (kV doc pm : Value) (an : Option Addr) (cdv ct : Value) (us : List Value), us.length = ps.length → bindArgs (PySem.W.fnOf x qual (defArgs st) (defBody st) (defScope st) .none kV doc pm an cdv ct) ⟨us, []⟩ = pure (ps.zip us)) : Binds K fd ps [] := by
  obtain ⟨oc, od, kV, doc, pm, an, cdv, ct, osl, rfl, lk, hcd⟩ := F.ex
  exact .all (h kV doc pm an cdv ct)
theorem fun_mk {x qual : Str} {st : Stmt} {f : Addr} {oc : Value} {od an : Option Addr} {osl : Array (Option Value)} {kV doc pm cdv ct : Value} (l : K.lookup f = some ⟨oc, od, .func (PySem.W.fnOf x qual (defArgs st) (defBody st) (defScope st) .none kV doc pm an cdv ct), osl⟩)
    (c : PySem.W.codeIn K cdv qual = true) (k : PySem.W.keepIn K (.ref f) = true) : Fun K x qual st f (PySem.W.fnOf x qual (defArgs st) (defBody st) (defScope st) .none kV doc pm an cdv ct) := ⟨⟨oc, od, kV, doc, pm, an, cdv, ct, osl, rfl, l, c⟩, k⟩
end
theorem hu_of {A : Around} {k : Nat} (hr : Room k A) : A.units + 1 < cLine := Nat.lt_of_le_of_lt (Nat.add_le_add_left (by decide : 1 ≤ 64) _) hr.units
theorem small1000 {n : Nat} (h : n ≤ 1000) : n < sizeLine := Nat.lt_of_le_of_lt h (by decide)
section
variable {X : Cx}
theorem pv (i : Nat) {x : Str} {pos : Pos} (hN : X.N[i]? = some x := by rfl) (hv : Vis X.env.scope x := by first | exact Or.inl rfl | exact Or.inr (Or.inl rfl) | exact Or.inr (Or.inr rfl)) (hd : (x == ("__debug__" : Str)) = false := by decide)
    (hcd : (x == ("__classdict__" : Str)) = false := by decide) : PE X (.Name x pos) (tVar i) := pe_var hN hv hd hcd
end
theorem iteF {A B : Prop} (h : B) : if false = true then A else B := by
  rw [if_neg Bool.false_ne_true]
  exact h
theorem iteT {A B : Prop} (h : A) : if true = true then A else B := by
  rw [if_pos rfl]
  exact h
theorem ite2 {c A B : Prop} [Decidable c] (h1 : c → A) (h2 : ¬ c → B) : if c then A else B := by
  by_cases h : c
  · rw [if_pos h]
    exact h1 h
  · rw [if_neg h]
    exact h2 h
def Same (H H' : Hp) : Prop := ∀ b o, H b = some o → H' b = some o
theorem Same.refl (H : Hp) : Same H H := fun _ _ h => h
theorem Same.trans {H H1 H2 : Hp} (a : Same H H1) (b : Same H1 H2) : Same H H2 := fun c o h => b c o (a c o h)
theorem Same.free {H H' : Hp} (e : Same H H') {l : Addr} (h : H' l = Option.none) : H l = Option.none := by
  cases q : H l with
  | none => rfl
  | some o =>
    rw [e l o q] at h
    cases h
theorem Same.seq {K : PySem.W.Frag} {H H' : Hp} {a : Addr} {xs : List V} (e : Same H H') (h : SqL K H a xs) : SqL K H' a xs := by
  rcases h with (h | ⟨o, h⟩) | h
  · exact .inl (.inl (e _ _ h))
  · exact .inl (.inr ⟨o, e _ _ h⟩)
  · exact .inr h
section
variable {κ : Type} [DecidableEq κ]
theorem nd_snoc : ∀ {l : List κ} {k : κ}, l.Nodup → ¬ k ∈ l → (l ++ [k]).Nodup
  | [], k, _, _ => by simp
  | a :: r, k, h, hk => by
    obtain ⟨h1, h2⟩ := List.nodup_cons.mp h
    show (a :: (r ++ [k])).Nodup
    refine List.nodup_cons.mpr ⟨fun m => ?_, nd_snoc h2 fun m => hk (List.mem_cons.mpr (Or.inr m))⟩
    rcases List.mem_append.mp m with q | q
    · exact h1 q
    · exact hk (List.mem_cons.mpr (Or.inl (List.mem_singleton.mp q).symm))
end
theorem at_of {xs : List V} {z : Int} {j : Nat} {v : V} (e : z = (j : Int)) (h : xs[j]? = some v) : atI xs z = some v := by
  rw [e]
  exact atI_nat h
theorem nd_ix {α : Type} {l : List α} (hN : l.Nodup) {i j : Nat} {x : α} (a : l[i]? = some x) (b : l[j]? = some x) : i = j := by
  obtain ⟨h1, e1⟩ := List.getElem?_eq_some_iff.mp a
  obtain ⟨h2, e2⟩ := List.getElem?_eq_some_iff.mp b
  exact (List.getElem_inj hN).mp (e1.trans e2.symm)
theorem Same.made {H H1 : Hp} {x dx C : Addr} (nx : H x = Option.none) (nd : H dx = Option.none) (k : ∀ b o, (upd (upd H dx (.own x)) x (.ins C dx [])) b = some o → b ≠ x → H1 b = some o) : Same H H1 := fun b o e =>
  k b o (by rw [upd_ne (ne_of_none e nx), upd_ne (ne_of_none e nd)]; exact e) (ne_of_none e nx)
end L2
section
set_option Elab.async false
set_option linter.all false
set_option maxRecDepth 100000
set_option maxHeartbeats 2000000
namespace L2
open PySem PySem.Spec PyProof.Rows
open PySem.W (WData Codec OpenSpec Well WellAll ReadsW ReadsAllW)
mutual
inductive Dw (K : PySem.W.Frag) (H : Hp) : V → WData → Prop
  | non : Dw K H .non .none
  | bl (b : Bool) : Dw K H (.bl b) (.bool b)
  | int (i : Int) : Dw K H (.int i) (.int i)
  | str (x : Str) : Dw K H (.str x) (.str x)
  | byt (b : Array UInt8) : Dw K H (.byt b) (.bytes b.toList)
  | lst {a : Addr} {xs : List V} {ds : List WData} : SqL K H a xs → DwAll K H xs ds → Dw K H (.ref a) (.list ds)
  | tup {a : Addr} {xs : List V} {ds : List WData} : SqT K H a xs → DwAll K H xs ds → Dw K H (.ref a) (.tuple ds)
inductive DwAll (K : PySem.W.Frag) (H : Hp) : List V → List WData → Prop
  | nil : DwAll K H [] []
  | cons {v : V} {vs : List V} {d : WData} {ds : List WData} : Dw K H v d → DwAll K H vs ds → DwAll K H (v :: vs) (d :: ds)
end
theorem dw_ints {K : PySem.W.Frag} {H : Hp} : ∀ ns : List Int, DwAll K H (ns.map V.int) (ns.map WData.int)
  | [] => .nil
  | n :: r => .cons (.int n) (dw_ints r)
theorem ints_dw {K : PySem.W.Frag} {H : Hp} : ∀ (ns : List Int) (xs : List V), DwAll K H xs (ns.map WData.int) → xs = ns.map V.int
  | [], xs, h => by
    cases h
    rfl
  | n :: r, xs, h => by
    cases h with
    | cons h1 h2 =>
      cases h1
      rw [ints_dw r _ h2] <;> rfl
section
variable {P : Program} {w : World} {K : PySem.W.Frag} {H : Hp} {h : Heap} {R : PySem.W.WRecords} {cl : Str → Option Addr}
theorem sqL_at {a : Addr} {xs : List V} (hok : HOk P w H h) (KX : K.In h) (q : SqL K H a xs) : ∃ (its : List Value) (o : Obj) (n : Nat), Vals xs its ∧ h.get? a = some o ∧ o.cls = .type "list" ∧ o.data = .seq its.toArray n := by
  rcases q with q | ⟨o, its, n, e, hc, _, hd, _, hv⟩
  · obtain ⟨_, its, n, hv, e⟩ := (show ObjOk P w H h a (.lst xs) from q.ok hok)
    exact ⟨its, _, n, hv, e, rfl, rfl⟩
  · exact ⟨its.toList, o, n, hv, KX _ _ e, hc, by simp [hd]⟩
theorem sqT_at {a : Addr} {xs : List V} (hok : HOk P w H h) (KX : K.In h) (q : SqT K H a xs) : ∃ (its : List Value) (o : Obj) (n : Nat), Vals xs its ∧ h.get? a = some o ∧ o.cls = .type "tuple" ∧ o.data = .seq its.toArray n := by
  rcases q with q | ⟨o, its, n, e, hc, hd, _, hv⟩
  · obtain ⟨_, its, hv, o, e, hc, n, hd⟩ := (show ObjOk P w H h a (.tup xs) from q.ok hok)
    exact ⟨its, o, n, hv, e, hc, hd⟩
  · exact ⟨its.toList, o, n, hv, KX _ _ e, hc, by simp [hd]⟩
mutual
theorem Dw.reads (hok : HOk P w H h) (KX : K.In h) : ∀ (d : WData) (v : V) (u : Value), Dw K H v d → RelV v u → ∃ as, ReadsW R cl h u d as
  | .none, _, _, x, r => by
    cases x
    cases r
    exact ⟨_, ReadsW.none⟩
  | .bool b, _, _, x, r => by
    cases x
    cases r
    exact ⟨_, ReadsW.bool b⟩
  | .int i, _, _, x, r => by
    cases x
    obtain ⟨t, rfl⟩ := r
    exact ⟨_, ReadsW.int i t⟩
  | .str s, _, _, x, r => by
    cases x
    obtain ⟨t, rfl⟩ := r
    exact ⟨_, ReadsW.str s t⟩
  | .bytes b, _, _, x, r => by
    cases x
    obtain ⟨t, rfl⟩ := r
    exact ⟨_, ReadsW.bytes _ t⟩
  | .list ds, _, _, x, r => by
    cases x with
    | lst hs ha =>
      cases r
      obtain ⟨its, o, n, rv, ho, hc, hd⟩ := sqL_at hok KX hs
      obtain ⟨as, hr⟩ := Dw.readsAll hok KX ds _ its ha rv
      exact ⟨_, ReadsW.list ho hc hd hr⟩
  | .tuple ds, _, _, x, r => by
    cases x with
    | tup hs ha =>
      cases r
      obtain ⟨its, o, n, rv, ho, hc, hd⟩ := sqT_at hok KX hs
      obtain ⟨as, hr⟩ := Dw.readsAll hok KX ds _ its ha rv
      exact ⟨_, ReadsW.tuple ho hc hd hr⟩
  | .float _, _, _, x, _ => by cases x
  | .dict _, _, _, x, _ => by cases x
  | .bytearray _, _, _, x, _ => by cases x
  | .set _, _, _, x, _ => by cases x
  | .frozenset _, _, _, x, _ => by cases x
  | .obj _ _, _, _, x, _ => by cases x
theorem Dw.readsAll (hok : HOk P w H h) (KX : K.In h) : ∀ (ds : List WData) (vs : List V) (us : List Value), DwAll K H vs ds → Vals vs us → ∃ as, ReadsAllW R cl h us ds as
  | [], _, _, x, r => by
    cases x
    cases r
    exact ⟨_, ReadsAllW.nil⟩
  | d :: ds, _, _, x, r => by
    cases x with
    | cons h1 h2 =>
      cases r with
      | cons r1 r2 =>
        obtain ⟨as, q1⟩ := Dw.reads hok KX d _ _ h1 r1
        obtain ⟨bs, q2⟩ := Dw.readsAll hok KX ds _ _ h2 r2
        exact ⟨_, ReadsAllW.cons q1 q2⟩
end
end
mutual
def plW : WData → Bool
  | .none => true
  | .bool _ => true
  | .int _ => true
  | .str _ => true
  | .bytes _ => true
  | .list xs => plWs xs
  | .tuple xs => plWs xs
  | _ => false
def plWs : List WData → Bool
  | [] => true
  | x :: r => plW x && plWs r
end
theorem plWs_map {α : Type} {f : α → WData} (h : ∀ a, plW (f a) = true) : ∀ l : List α, plWs (l.map f) = true
  | [] => rfl
  | x :: r => by
    show (plW (f x) && plWs (r.map f)) = true
    rw [h x, plWs_map h r] <;> rfl
theorem pl_enc : ∀ (c : Codec) (a : c.denote), plW (c.enc a) = true
  | .unit, _ => rfl
  | .bool, _ => rfl
  | .int _ _, _ => rfl
  | .nat _ _, _ => rfl
  | .u8, _ => rfl
  | .bytes _ _, _ => rfl
  | .text _ _ _ _, _ => rfl
  | .list _ _ c, a => plWs_map (fun x => pl_enc c x) a
  | .pair c d, a => by
    show (plW (c.enc a.1) && (plW (d.enc a.2) && true)) = true
    rw [pl_enc c a.1, pl_enc d a.2] <;> rfl
  | .triple c d e, a => by
    show (plW (c.enc a.1) && (plW (d.enc a.2.1) && (plW (e.enc a.2.2) && true))) = true
    rw [pl_enc c a.1, pl_enc d a.2.1, pl_enc e a.2.2] <;> rfl
  | .option c, none => rfl
  | .option c, some x => pl_enc c x
theorem pl_encAll : ∀ (cs : List Codec) (a : Codec.denoteAll cs), plWs (Codec.encAll cs a) = true
  | [], _ => rfl
  | c :: cs, a => by
    show (plW (c.enc a.1) && plWs (Codec.encAll cs a.2)) = true
    rw [pl_enc c a.1, pl_encAll cs a.2] <;> rfl
theorem weight_mem : ∀ {xs : List WData} {d : WData}, d ∈ xs → d.weight ≤ WData.weightAll xs
  | [], d, h => absurd h (by simp)
  | x :: r, d, h => by
    show d.weight ≤ x.weight + 1 + WData.weightAll r
    rcases List.mem_cons.mp h with e | m
    · rw [e]
      omega
    · have z := weight_mem m
      omega
def toV : Value → V
  | .none => .non
  | .bool b => .bl b
  | .int i _ => .int i
  | .str x _ => .str x
  | .bytes b _ => .byt b
  | .ref a => .ref a
  | _ => .non
def OkU (A : List Addr) : Value → Prop
  | .none => True
  | .bool _ => True
  | .int _ _ => True
  | .str _ _ => True
  | .bytes _ _ => True
  | .ref a => a ∈ A
  | _ => False
theorem OkU.mono {A B : List Addr} (h : ∀ a ∈ A, a ∈ B) : ∀ {u : Value}, OkU A u → OkU B u := fun {u} x => by
  cases u with
  | ref a => exact h a x
  | none => trivial
  | bool b => trivial
  | int i t => trivial
  | str s t => trivial
  | bytes b t => trivial
  | _ => exact False.elim x
theorem relV_toV {A : List Addr} {u : Value} (x : OkU A u) : RelV (toV u) u := by
  cases u with
  | ref a => rfl
  | none => rfl
  | bool b => rfl
  | int i t => exact ⟨t, rfl⟩
  | str s t => exact ⟨t, rfl⟩
  | bytes b t => exact ⟨t, rfl⟩
  | _ => exact False.elim x
theorem vals_toV {A : List Addr} : ∀ {vs : List Value}, (∀ u ∈ vs, OkU A u) → Vals (vs.map toV) vs
  | [], _ => .nil
  | u :: r, h => .cons (relV_toV (h u (List.mem_cons_self ..))) (vals_toV fun x hx => h x (List.mem_cons_of_mem _ hx))
def ArgOb (h : Heap) (A : List Addr) (a : Addr) : Prop := ∃ vs : List Value, vs.length ≤ sizeLine ∧ (∀ u ∈ vs, OkU A u) ∧
  (h.get? a = some { cls := .type "list", data := .seq vs.toArray } ∨ h.get? a = some { cls := .type "tuple", data := .seq vs.toArray })
theorem ArgOb.mono {h : Heap} {A B : List Addr} {a : Addr} (k : ∀ a ∈ A, a ∈ B) (x : ArgOb h A a) : ArgOb h B a := by
  obtain ⟨vs, h1, h2, h3⟩ := x
  exact ⟨vs, h1, fun u hu => (h2 u hu).mono k, h3⟩
theorem wellAll_len {P : Params} {h : Heap} : ∀ {vs : List Value} {ds : List WData}, WellAll P h vs ds → vs.length = ds.length
  | _, _, .nil => rfl
  | _, _, .cons _ b => by
    show _ + 1 = _ + 1
    rw [wellAll_len b]
theorem well_list {P : Params} {h : Heap} {v : Value} {ds : List WData} (x : Well P h v (.list ds)) : ∃ (a : Addr) (vs : List Value), v = .ref a ∧ h.get? a = some { cls := .type "list", data := .seq vs.toArray } ∧ WellAll P h vs ds := by
  cases x with
  | list ho hall => exact ⟨_, _, rfl, ho, hall⟩
theorem well_tuple {P : Params} {h : Heap} {v : Value} {ds : List WData} (x : Well P h v (.tuple ds)) : ∃ (a : Addr) (vs : List Value), v = .ref a ∧ h.get? a = some { cls := .type "tuple", data := .seq vs.toArray } ∧ WellAll P h vs ds := by
  cases x with
  | tuple ho hall => exact ⟨_, _, rfl, ho, hall⟩
theorem well_cons {P : Params} {h : Heap} {us : List Value} {d : WData} {ds : List WData} (x : WellAll P h us (d :: ds)) : ∃ (v : Value) (vs : List Value), us = v :: vs ∧ Well P h v d ∧ WellAll P h vs ds := by
  cases x with
  | cons a b => exact ⟨_, _, rfl, a, b⟩
theorem line_of {n : Nat} (h : n ≤ 1048576) : n ≤ sizeLine := Nat.le_trans h (by decide)
section
variable {P : Params} {h : Heap}
mutual
theorem area_one : ∀ (d : WData) (v : Value), Well P h v d → plW d = true → d.weight ≤ 1048576 → ∃ A : List Addr, OkU A v ∧ ∀ a ∈ A, ArgOb h A a
  | .none, _, x, _, _ => by
    cases x
    exact ⟨[], trivial, fun a m => absurd m (by simp)⟩
  | .bool b, _, x, _, _ => by
    cases x
    exact ⟨[], trivial, fun a m => absurd m (by simp)⟩
  | .int i, _, x, _, _ => by
    cases x
    exact ⟨[], trivial, fun a m => absurd m (by simp)⟩
  | .str s, _, x, _, _ => by
    cases x
    exact ⟨[], trivial, fun a m => absurd m (by simp)⟩
  | .bytes b, _, x, _, _ => by
    cases x
    exact ⟨[], trivial, fun a m => absurd m (by simp)⟩
  | .list ds, _, x, p, z => by
    obtain ⟨a, vs, rfl, ho, hall⟩ := well_list x
    have z2 : WData.weightAll ds ≤ 1048576 := z
    obtain ⟨A, h1, h2⟩ := area_all ds _ hall p fun d hd => Nat.le_trans (weight_mem hd) z2
    have k : ∀ b ∈ A, b ∈ a :: A := fun b hb => List.mem_cons_of_mem _ hb
    refine ⟨a :: A, List.mem_cons_self .., fun b hb => ?_⟩
    rcases List.mem_cons.mp hb with e | m
    · rw [e]
      exact ⟨vs, line_of (by rw [wellAll_len hall]; exact Nat.le_trans (PySem.W.length_le_weightAllW ds) z2), fun u hu => (h1 u hu).mono k, .inl ho⟩
    · exact (h2 b m).mono k
  | .tuple ds, _, x, p, z => by
    obtain ⟨a, vs, rfl, ho, hall⟩ := well_tuple x
    have z2 : WData.weightAll ds ≤ 1048576 := z
    obtain ⟨A, h1, h2⟩ := area_all ds _ hall p fun d hd => Nat.le_trans (weight_mem hd) z2
    have k : ∀ b ∈ A, b ∈ a :: A := fun b hb => List.mem_cons_of_mem _ hb
    refine ⟨a :: A, List.mem_cons_self .., fun b hb => ?_⟩
    rcases List.mem_cons.mp hb with e | m
    · rw [e]
      exact ⟨vs, line_of (by rw [wellAll_len hall]; exact Nat.le_trans (PySem.W.length_le_weightAllW ds) z2), fun u hu => (h1 u hu).mono k, .inr ho⟩
    · exact (h2 b m).mono k
  | .float _, _, _, p, _ => Bool.noConfusion (show false = true from p)
  | .dict _, _, _, p, _ => Bool.noConfusion (show false = true from p)
  | .bytearray _, _, _, p, _ => Bool.noConfusion (show false = true from p)
  | .set _, _, _, p, _ => Bool.noConfusion (show false = true from p)
  | .frozenset _, _, _, p, _ => Bool.noConfusion (show false = true from p)
  | .obj _ _, _, _, p, _ => Bool.noConfusion (show false = true from p)
theorem area_all : ∀ (ds : List WData) (vs : List Value), WellAll P h vs ds → plWs ds = true → (∀ d ∈ ds, d.weight ≤ 1048576) → ∃ A : List Addr, (∀ u ∈ vs, OkU A u) ∧ ∀ a ∈ A, ArgOb h A a
  | [], _, x, _, _ => by
    cases x
    exact ⟨[], fun u m => absurd m (by simp), fun a m => absurd m (by simp)⟩
  | d :: ds, _, x, p, z => by
    obtain ⟨v, vs, rfl, x1, x2⟩ := well_cons x
    have q : plW d = true ∧ plWs ds = true := Bool.and_eq_true_iff.mp p
    obtain ⟨A, a1, a2⟩ := area_one d v x1 q.1 (z d (List.mem_cons_self ..))
    obtain ⟨B, b1, b2⟩ := area_all ds vs x2 q.2 fun e he => z e (List.mem_cons_of_mem _ he)
    have kA : ∀ b ∈ A, b ∈ A ++ B := fun b hb => List.mem_append.mpr (.inl hb)
    have kB : ∀ b ∈ B, b ∈ A ++ B := fun b hb => List.mem_append.mpr (.inr hb)
    refine ⟨A ++ B, fun u hu => ?_, fun b hb => ?_⟩
    · rcases List.mem_cons.mp hu with e | m
      · rw [e]
        exact a1.mono kA
      · exact (b1 u m).mono kB
    · rcases List.mem_append.mp hb with m | m
      · exact (a2 b m).mono kA
      · exact (b2 b m).mono kB
end
end
def hoOf (o : Obj) : Option HO := match o.data with
  | .seq vs _ => if (o.cls == Value.type "list") = true then some (.frz o (.lst (vs.toList.map toV))) else some (.frz o (.tup (vs.toList.map toV)))
  | _ => none
def argH (K : PySem.W.Frag) (h : Heap) (A : List Addr) : Hp := fun b => if b ∈ A then (if (K.lookup b).isNone = true then (h.get? b).bind hoOf else none) else none
def OnlyF (H : Hp) : Prop := ∀ b, H b = none ∨ ∃ o u, H b = some (.frz o u)
theorem hoOf_lst (vs : List Value) : hoOf { cls := .type "list", data := .seq vs.toArray } = some (.frz { cls := .type "list", data := .seq vs.toArray } (.lst (vs.map toV))) := by
  show (if (Value.type "list" == Value.type "list") = true then some (HO.frz { cls := .type "list", data := .seq vs.toArray } (.lst (vs.toArray.toList.map toV))) else some (HO.frz { cls := .type "list", data := .seq vs.toArray } (.tup (vs.toArray.toList.map toV)))) = _
  rw [if_pos (beq_self_eq_true _)]
theorem hoOf_tup (vs : List Value) : hoOf { cls := .type "tuple", data := .seq vs.toArray } = some (.frz { cls := .type "tuple", data := .seq vs.toArray } (.tup (vs.map toV))) := by
  show (if (Value.type "tuple" == Value.type "list") = true then some (HO.frz { cls := .type "tuple", data := .seq vs.toArray } (.lst (vs.toArray.toList.map toV))) else some (HO.frz { cls := .type "tuple", data := .seq vs.toArray } (.tup (vs.toArray.toList.map toV)))) = _
  rw [if_neg (by decide)]
section
variable {P : Program} {w : World} {K : PySem.W.Frag} {h : Heap} {A : List Addr}
theorem argH_at {b : Addr} {o : Obj} (hb : b ∈ A) (hk : K.lookup b = none) (e : h.get? b = some o) : argH K h A b = hoOf o := by
  unfold argH
  rw [if_pos hb, hk, if_pos (show (none : Option Obj).isNone = true from rfl), e] <;> rfl
theorem of_argH {b : Addr} {u : HO} (q : argH K h A b = some u) : b ∈ A ∧ K.lookup b = none := by
  unfold argH at q
  by_cases hb : b ∈ A
  · rw [if_pos hb] at q
    cases hk : K.lookup b with
    | none => exact ⟨hb, rfl⟩
    | some o =>
      rw [hk, if_neg (by simp)] at q
      cases q
  · rw [if_neg hb] at q
    cases q
theorem argH_is (ar : ∀ a ∈ A, ArgOb h A a) {b : Addr} {u : HO} (q : argH K h A b = some u) : K.lookup b = none ∧ ∃ vs : List Value, vs.length ≤ sizeLine ∧ (∀ u ∈ vs, OkU A u) ∧
    ((h.get? b = some { cls := .type "list", data := .seq vs.toArray } ∧ u = .frz { cls := .type "list", data := .seq vs.toArray } (.lst (vs.map toV))) ∨
     (h.get? b = some { cls := .type "tuple", data := .seq vs.toArray } ∧ u = .frz { cls := .type "tuple", data := .seq vs.toArray } (.tup (vs.map toV)))) := by
  obtain ⟨hb, hk⟩ := of_argH q
  obtain ⟨vs, h1, h2, h3⟩ := ar b hb
  refine ⟨hk, vs, h1, h2, ?_⟩
  rcases h3 with e | e
  · rw [argH_at hb hk e, hoOf_lst] at q
    exact .inl ⟨e, (Option.some.inj q).symm⟩
  · rw [argH_at hb hk e, hoOf_tup] at q
    exact .inr ⟨e, (Option.some.inj q).symm⟩
theorem argH_only (ar : ∀ a ∈ A, ArgOb h A a) : OnlyF (argH K h A) := fun b => by
  cases q : argH K h A b with
  | none => exact .inl rfl
  | some u =>
    obtain ⟨_, vs, _, _, ⟨_, e⟩ | ⟨_, e⟩⟩ := argH_is ar q
    · exact .inr ⟨_, _, by rw [e]⟩
    · exact .inr ⟨_, _, by rw [e]⟩
theorem argH_ok (ar : ∀ a ∈ A, ArgOb h A a) : HOk P w (argH K h A) h := fun b u q => by
  obtain ⟨_, vs, h1, h2, ⟨e, rfl⟩ | ⟨e, rfl⟩⟩ := argH_is ar q
  · exact ⟨e, by rw [List.length_map]; exact h1, vs, _, vals_toV h2, e⟩
  · exact ⟨e, by rw [List.length_map]; exact h1, vs, vals_toV h2, _, e, rfl, _, rfl⟩
theorem seq_inj {c c' : Value} {vs us : List Value} (e : (some { cls := c, data := .seq vs.toArray } : Option Obj) = some { cls := c', data := .seq us.toArray }) : c = c' ∧ vs = us := by
  have e1 := Option.some.inj e
  have e2 : c = c' := congrArg Obj.cls e1
  have e3 : Data.seq vs.toArray = Data.seq us.toArray := congrArg Obj.data e1
  injection e3 with e4
  refine ⟨e2, ?_⟩
  have e5 := congrArg Array.toList e4
  simpa using e5
theorem argL (KX : K.In h) (ar : ∀ a ∈ A, ArgOb h A a) {a : Addr} {vs : List Value} (ha : a ∈ A) (e : h.get? a = some { cls := .type "list", data := .seq vs.toArray }) : (∀ u ∈ vs, OkU A u) ∧ SqL K (argH K h A) a (vs.map toV) := by
  obtain ⟨us, h1, h2, h3⟩ := ar a ha
  have hu : us = vs := by
    rcases h3 with q | q
    · rw [e] at q
      exact (seq_inj q).2.symm
    · rw [e] at q
      exact absurd (Value.type.inj (seq_inj q).1) (by decide)
  subst hu
  refine ⟨h2, ?_⟩
  cases hk : K.lookup a with
  | none => exact .inl (.inr ⟨_, by rw [argH_at ha hk e, hoOf_lst]⟩)
  | some o =>
    have e2 := KX a o hk
    rw [e] at e2
    obtain rfl := Option.some.inj e2
    exact .inr ⟨_, us.toArray, _, hk, rfl, rfl, rfl, by rw [List.size_toArray]; exact h1, by simpa using vals_toV h2⟩
theorem argT (KX : K.In h) (ar : ∀ a ∈ A, ArgOb h A a) {a : Addr} {vs : List Value} (ha : a ∈ A) (e : h.get? a = some { cls := .type "tuple", data := .seq vs.toArray }) : (∀ u ∈ vs, OkU A u) ∧ SqT K (argH K h A) a (vs.map toV) := by
  obtain ⟨us, h1, h2, h3⟩ := ar a ha
  have hu : us = vs := by
    rcases h3 with q | q
    · rw [e] at q
      exact absurd (Value.type.inj (seq_inj q).1) (by decide)
    · rw [e] at q
      exact (seq_inj q).2.symm
  subst hu
  refine ⟨h2, ?_⟩
  cases hk : K.lookup a with
  | none => exact .inl (.inr ⟨_, by rw [argH_at ha hk e, hoOf_tup]⟩)
  | some o =>
    have e2 := KX a o hk
    rw [e] at e2
    obtain rfl := Option.some.inj e2
    exact .inr ⟨_, us.toArray, _, hk, rfl, rfl, by rw [List.size_toArray]; exact h1, by simpa using vals_toV h2⟩
mutual
theorem dw_one {Pm : Params} (KX : K.In h) (ar : ∀ a ∈ A, ArgOb h A a) : ∀ (d : WData) (v : Value), Well Pm h v d → plW d = true → OkU A v → Dw K (argH K h A) (toV v) d
  | .none, _, x, _, _ => by
    cases x
    exact .non
  | .bool b, _, x, _, _ => by
    cases x
    exact .bl b
  | .int i, _, x, _, _ => by
    cases x
    exact .int i
  | .str s, _, x, _, _ => by
    cases x
    exact .str s
  | .bytes b, _, x, _, _ => by
    cases x
    have z := Dw.byt (K := K) (H := argH K h A) b.toArray
    exact z
  | .list ds, _, x, p, hu => by
    obtain ⟨a, vs, rfl, ho, hall⟩ := well_list x
    obtain ⟨h2, hs⟩ := argL KX ar hu ho
    exact .lst hs (dw_all KX ar ds _ hall p h2)
  | .tuple ds, _, x, p, hu => by
    obtain ⟨a, vs, rfl, ho, hall⟩ := well_tuple x
    obtain ⟨h2, hs⟩ := argT KX ar hu ho
    exact .tup hs (dw_all KX ar ds _ hall p h2)
  | .float _, _, _, p, _ => Bool.noConfusion (show false = true from p)
  | .dict _, _, _, p, _ => Bool.noConfusion (show false = true from p)
  | .bytearray _, _, _, p, _ => Bool.noConfusion (show false = true from p)
  | .set _, _, _, p, _ => Bool.noConfusion (show false = true from p)
  | .frozenset _, _, _, p, _ => Bool.noConfusion (show false = true from p)
  | .obj _ _, _, _, p, _ => Bool.noConfusion (show false = true from p)
theorem dw_all {Pm : Params} (KX : K.In h) (ar : ∀ a ∈ A, ArgOb h A a) : ∀ (ds : List WData) (vs : List Value), WellAll Pm h vs ds → plWs ds = true → (∀ u ∈ vs, OkU A u) → DwAll K (argH K h A) (vs.map toV) ds
  | [], _, x, _, _ => by
    cases x
    exact .nil
  | d :: ds, _, x, p, hu => by
    obtain ⟨v, vs, rfl, x1, x2⟩ := well_cons x
    have q : plW d = true ∧ plWs ds = true := Bool.and_eq_true_iff.mp p
    exact .cons (dw_one KX ar d v x1 q.1 (hu _ (List.mem_cons_self ..))) (dw_all KX ar ds vs x2 q.2 fun u m => hu u (List.mem_cons_of_mem _ m))
end
end
theorem spec_call {P : Program} {w : World} {K : PySem.W.Frag} {mg mb : Str → Option Value} {CX : CXT} {k : Nat} {fa : Addr} {fd : FuncData} {ps : List Str} {sp : Sp} {s₁ : Shared} {vals : List Value} {ds : List WData} {R : PySem.W.WRecords} {cl : Str → Option Addr} {d0 : WData}
    (KX : K.In s₁.heap) (hns : s₁.heap.Ns mainGlobals mg) (hb : s₁.heap.Ns builtinsNs mb) (hbb : ∀ x : Str, x ≠ "__name__" → mb x = bootBuiltins x) (hlim : s₁.heap.NoLimit) (hg : s₁.gens = #[])
    (hwl : WellAll w.params s₁.heap vals ds) (hpl : plWs ds = true) (hwt : ∀ d ∈ ds, d.weight ≤ 1048576) (hr : Room k callerA)
    (F : ∀ base : Heap, K.In base → base.Ns mainGlobals mg → FnOk P w K mg base CX k fa fd ps sp) (hbind : ∀ (s : Shared) (us : List Value), us.length = ps.length → BindsTo s fd ⟨us, []⟩ (ps.zip us)) (hlen : ds.length = ps.length)
    (hsp : ∀ (H : Hp) (xs : List V), OnlyF H → DwAll K H xs ds → sp xs H (fun v H' => Dw K H' v d0) fun _ _ _ => False)
    (hCX : ∀ H e s', CX [] H s₁ (fun _ _ _ => False) e s' → False) :
    codeAny (model P w) callerA (.call (.ref fa) ⟨vals, []⟩) (fun r s' => ∃ u as, r = .ok (.ret u) ∧ ReadsW R cl s'.heap u d0 as ∧ OldK s₁.heap s'.heap ∧ s'.os = s₁.os ∧ AllBare s'.gens) s₁ := by
  obtain ⟨A, ho, ar⟩ := area_all ds vals hwl hpl hwt
  have hO : OnlyF (argH K s₁.heap A) := argH_only ar
  have hok : HOk P w (argH K s₁.heap A) s₁.heap := argH_ok ar
  have hS := dw_all KX ar ds vals hwl hpl ho
  have hV := vals_toV ho
  have hK : ∀ b u, argH K s₁.heap A b = some u → K.lookup b = none := fun b u q => (argH_is ar q).1
  have noA : ∀ {b : Addr} {o : Obj} {es : Array DictEntry} {ep : Nat}, s₁.heap.get? b = some o → o.data = .dict es ep → argH K s₁.heap A b = none := fun {b o es ep} e d => by
    cases q : argH K s₁.heap A b with
    | none => rfl
    | some u =>
      obtain ⟨_, vs, _, _, ⟨e2, _⟩ | ⟨e2, _⟩⟩ := argH_is ar q
      · rw [e2] at e
        cases e
        have d' : Data.seq vs.toArray _ = Data.dict es ep := d
        cases d'
      · rw [e2] at e
        cases e
        have d' : Data.seq vs.toArray _ = Data.dict es ep := d
        cases d'
  generalize argH K s₁.heap A = H at hO hok hS hK noA
  have base_of : ∀ {b : Addr} {o : Obj}, s₁.heap.get? b = some o → H b = none → (hidT s₁.heap H).get? b = some o := fun e n => hidT_get e n
  have nsK : ∀ {b : Addr} {m : Str → Option Value}, s₁.heap.Ns b m → (hidT s₁.heap H).Ns b m := fun {b m} ⟨o, es, ep, e, d, r⟩ => ⟨o, es, ep, base_of e (noA e d), d, r⟩
  have nK : ∀ b o, K.lookup b = some o → H b = none := fun b o e => by
    cases q : H b with
    | none => rfl
    | some u =>
      rw [hK b u q] at e
      cases e
  have hKb : K.In (hidT s₁.heap H) := fun b o e => base_of (KX b o e) (nK b o e)
  have hM : Mod K mg (hidT s₁.heap H) := ⟨hKb, nsK hns, ⟨mb, nsK hb, hbb⟩, let ⟨mc, h1, h2⟩ := hlim; ⟨mc, nsK h1, h2⟩⟩
  have e0 : Env0 P w K mg (hidT s₁.heap H) callerA [] s₁ H := ⟨rfl, hM, fun b o e => of_hidT e, Nat.le_of_eq (hidT_size _ _), trivial, fun b hb => absurd (show b ∈ ([] : List Addr) from hb) (by simp), hok, .of_eq hg⟩
  have hl : vals.length = ps.length := by rw [wellAll_len hwl]; exact hlen
  refine codeAny_mono ((F _ hKb (nsK hns)).run callerA [] s₁ H ⟨vals, []⟩ vals (vals.map toV) _ _ hr e0 (hbind s₁ vals hl) hV (hsp H _ hO hS)) fun r s' x => ?_
  cases r with
  | error e => exact (hCX H e s' x).elim
  | ok fl =>
    cases fl with
    | next => exact False.elim x
    | brk => exact False.elim x
    | cont => exact False.elim x
    | ret u =>
      obtain ⟨v, H', os, bare, un, hok', r', q⟩ := x
      have kept : ∀ b o, s₁.heap.get? b = some o → s'.heap.get? b = some o := fun b o e => by
        cases q2 : H b with
        | none => exact un.keep b o e q2 (by intro z; exact absurd (show b ∈ ([] : List Addr) from z) (by simp)) (by simp)
        | some u2 =>
          rcases hO b with z | ⟨ob, u3, z⟩
          · rw [q2] at z
            cases z
          · have z2 := un.frzs b ob _ z
            obtain ⟨e1, _⟩ := hok b _ z
            obtain ⟨e2, _⟩ := hok' b _ z2
            rw [e] at e1
            cases e1
            exact e2
      have KX' : K.In s'.heap := fun b o e => kept b o (KX b o e)
      obtain ⟨as, hrd⟩ := Dw.reads (R := R) (cl := cl) hok' KX' d0 v u q r'
      exact ⟨u, as, rfl, hrd, OldK.of_keep kept, os, bare⟩
theorem layable_weight {ds : List WData} (h : WData.layableAll ds = true) : ∀ d ∈ ds, d.weight ≤ 1048576 := fun d hd =>
  (PySem.W.layableW_iff.mp (List.all_eq_true.mp h d hd)).2.2
theorem encAll_len : ∀ (cs : List Codec) (a : Codec.denoteAll cs), (Codec.encAll cs a).length = cs.length
  | [], _ => rfl
  | c :: cs, a => by
    show (Codec.encAll cs a.2).length + 1 = cs.length + 1
    rw [encAll_len cs a.2]
theorem walk_spec {r : OpenSpec} {k : Nat} {q : Program} {loose : List Str} {XP : (Str → Option Value) → Heap → Prop} {YP : World → Heap → Prop} {d : DefRec} {K : Params → PySem.W.Frag} {CX : World → CXT} {ps : List Str} {sp : World → Sp}
    (hwell : r.wellSaid = true) (hdf : d.params.defaults = []) (hlen : r.args.length = ps.length) (hr : Room k callerA)
    (hY : ∀ (w : World) (h : Heap), YP w h → (K w.params).In h)
    (F : ∀ (w : World) (mg : Str → Option Value) (fa : Addr) (h : Heap), YP w h → (K w.params).In h → h.Ns mainGlobals mg → mg d.name = some (.ref fa) →
      ∃ fd : FuncData, (∀ (s : Shared) (us : List Value), us.length = ps.length → BindsTo s fd ⟨us, []⟩ (ps.zip us)) ∧
        ∀ base : Heap, (K w.params).In base → base.Ns mainGlobals mg → FnOk r.prog w (K w.params) mg base (CX w) k fa fd ps (sp w))
    (hsp : ∀ (w : World) (H : Hp) (xs : List V) (a : Codec.denoteAll r.args), OnlyF H → Codec.withinAll r.args a = true → Codec.app r.args r.asked a = true → DwAll (K w.params) H xs (Codec.encAll r.args a) →
      sp w xs H (fun v H' => Dw (K w.params) H' v (r.ret.enc (Codec.app r.args r.f a))) fun _ _ _ => False)
    (hCX : ∀ (w : World) (H : Hp) (s : Shared) (e : Value) (s' : Shared), CX w [] H s (fun _ _ _ => False) e s' → False) :
    PySem.W.WalkOS q loose XP YP r d [] (fun f vs => PySem.call f vs) := by
  intro w s_0 s₁ mg mb G Y fa o pm cd doc dV kV ho hd hcd hD hmg hg args vals as hpre hlay hrd hwl hlo
  obtain ⟨a, e1, e2⟩ := PySem.W.os_pre_some hpre
  obtain ⟨e3, hwi⟩ := Codec.encAll_of_decAll r.args args a e1
  subst e3
  have KX := hY w _ Y
  obtain ⟨fd, hb, hF⟩ := F w mg fa _ Y KX G.T.g hmg
  refine PySem.W.enter_call (codeAny_mono (spec_call (R := []) (cl := classAt s_0.heap) (d0 := r.ret.enc (Codec.app r.args r.f a)) KX G.T.g G.T.b G.T.builtins G.T.nolimit hg hwl (pl_encAll _ _) (layable_weight hlay) hr hF hb (by rw [encAll_len]; exact hlen)
    (fun H xs hO hS => hsp w H xs a hO hwi e2 hS) fun H e s' => hCX w H s₁ e s') fun r' s' hq => ?_)
  obtain ⟨u, as', rfl, h1, h2, h3, h4⟩ := hq
  exact ⟨.inl ⟨u, _, as', rfl, fun _ => rfl, h1, (OpenSpec.post_iff hwell hwi _ _).mpr rfl, fun z => Bool.noConfusion (show false = true from z)⟩, h2, h3, h4⟩
theorem walk_specK {r : OpenSpec} {k : Nat} {q : Program} {loose : List Str} {XP : (Str → Option Value) → Heap → Prop} {YP : World → Heap → Prop} {d : DefRec} {K : Params → PySem.W.Frag} {CX : CXT} {ps : List Str} {sp : PySem.W.Frag → Sp}
    (hwell : r.wellSaid = true) (hdf : d.params.defaults = []) (hlen : r.args.length = ps.length) (hr : Room k callerA)
    (hY : ∀ (w : World) (h : Heap), YP w h → (K w.params).In h)
    (F : ∀ (w : World) (mg : Str → Option Value) (fa : Addr) (h : Heap), YP w h → (K w.params).In h → h.Ns mainGlobals mg → mg d.name = some (.ref fa) →
      ∃ fd : FuncData, (∀ (s : Shared) (us : List Value), us.length = ps.length → BindsTo s fd ⟨us, []⟩ (ps.zip us)) ∧
        ∀ base : Heap, (K w.params).In base → base.Ns mainGlobals mg → FnOk r.prog w (K w.params) mg base CX k fa fd ps (sp (K w.params)))
    (hsp : ∀ (K : PySem.W.Frag) (H : Hp) (xs : List V) (a : Codec.denoteAll r.args), OnlyF H → Codec.withinAll r.args a = true → Codec.app r.args r.asked a = true → DwAll K H xs (Codec.encAll r.args a) →
      sp K xs H (fun v H' => Dw K H' v (r.ret.enc (Codec.app r.args r.f a))) fun _ _ _ => False)
    (hCX : ∀ (H : Hp) (s : Shared) (e : Value) (s' : Shared), CX [] H s (fun _ _ _ => False) e s' → False) :
    PySem.W.WalkOS q loose XP YP r d [] (fun f vs => PySem.call f vs) :=
  walk_spec (K := K) (CX := fun _ => CX) (sp := fun w => sp (K w.params)) hwell hdf hlen hr hY F (fun w H xs a h1 h2 h3 h4 => hsp (K w.params) H xs a h1 h2 h3 h4) fun _ H s e s' => hCX H s e s'
end L2
-- rests on (row put in by the clerk, for the bench that shows a file only what it spells): KE.SpHead KE.OsShapes
end
set_option Elab.async false
set_option linter.all false
set_option maxRecDepth 100000

namespace Ck
open PySem PySem.Spec PyProof.Rows L2
def top (i : Nat) : Stmt := PySem.Challenge.pw_clocksroom_s01_answers.main.body.getD i (.Pass ⟨0, 0, 0, 0⟩)
abbrev s_era_bound : Stmt := top 2
abbrev s_clock_bound : Stmt := top 3
abbrev s_bound_sum : Stmt := top 4
abbrev s_bound_least : Stmt := top 5
abbrev s_row_by_way : Stmt := top 6
abbrev s_with_bound : Stmt := top 7
abbrev s_clock_row : Stmt := top 8
abbrev s_own_clock_bounds : Stmt := top 9
abbrev s_clock_table : Stmt := top 10
abbrev s_least_later : Stmt := top 11
abbrev s_surely_before : Stmt := top 12
abbrev s_surely_at_once : Stmt := top 13
abbrev s_bound_fits : Stmt := top 14
abbrev s_least_fits : Stmt := top 15
abbrev s_signal_fits : Stmt := top 16
abbrev s_with_signal : Stmt := top 17
abbrev s_bounds_at : Stmt := top 18
abbrev s_bounds_fit : Stmt := top 19
abbrev s_own_bounds : Stmt := top 21
abbrev s_leads_on : Stmt := top 22
abbrev s_bound_row : Stmt := top 23
abbrev s_Event_init : Stmt := inClass (top 44) 0
abbrev s_Signal_init : Stmt := inClass (top 45) 0
abbrev s_Room_init : Stmt := inClass (top 46) 0
abbrev s_Room_renew : Stmt := inClass (top 46) 1
abbrev s_Room_note : Stmt := inClass (top 46) 2
abbrev s_Room_has_clock : Stmt := inClass (top 46) 3
abbrev s_Room_has_event : Stmt := inClass (top 46) 4
abbrev s_Room_has_both : Stmt := inClass (top 46) 5
abbrev s_Belief_init : Stmt := inClass (top 47) 0
abbrev s_belief_before : Stmt := top 48
abbrev s_belief_of : Stmt := top 49
abbrev s_row_by : Stmt := top 50
abbrev s_begin : Stmt := top 51
abbrev s_tell_event : Stmt := top 52
abbrev s_era_reached : Stmt := top 53
abbrev s_set_clock : Stmt := top 54
abbrev s_tell_signal : Stmt := top 55
abbrev s_signal_refusal : Stmt := top 56
abbrev s_strike : Stmt := top 57
abbrev s_with_length : Stmt := top 58
abbrev s_bound_list : Stmt := top 59
abbrev s_counted : Stmt := top 60
abbrev s_tell_believed : Stmt := top 61
abbrev s_tell_between : Stmt := top 62
abbrev s_tell_order : Stmt := top 63
abbrev s_tell_reason : Stmt := top 64
abbrev s_tell_against : Stmt := top 65
abbrev s_tell_could : Stmt := top 66
abbrev s_tell_of : Stmt := top 67
abbrev s_tell_once : Stmt := top 68
abbrev s_answer_to : Stmt := top 69
abbrev s_call_length : Stmt := top 70
abbrev s_answers : Stmt := top 71
structure Adr where
  c_Event : Addr
  c_Signal : Addr
  c_Room : Addr
  c_Belief : Addr
  f_era_bound : Addr
  d_era_bound : FuncData
  f_clock_bound : Addr
  d_clock_bound : FuncData
  f_bound_sum : Addr
  d_bound_sum : FuncData
  f_bound_least : Addr
  d_bound_least : FuncData
  f_row_by_way : Addr
  d_row_by_way : FuncData
  f_with_bound : Addr
  d_with_bound : FuncData
  f_clock_row : Addr
  d_clock_row : FuncData
  f_own_clock_bounds : Addr
  d_own_clock_bounds : FuncData
  f_clock_table : Addr
  d_clock_table : FuncData
  f_least_later : Addr
  d_least_later : FuncData
  f_surely_before : Addr
  d_surely_before : FuncData
  f_surely_at_once : Addr
  d_surely_at_once : FuncData
  f_bound_fits : Addr
  d_bound_fits : FuncData
  f_least_fits : Addr
  d_least_fits : FuncData
  f_signal_fits : Addr
  d_signal_fits : FuncData
  f_with_signal : Addr
  d_with_signal : FuncData
  f_bounds_at : Addr
  d_bounds_at : FuncData
  f_bounds_fit : Addr
  d_bounds_fit : FuncData
  f_own_bounds : Addr
  d_own_bounds : FuncData
  f_leads_on : Addr
  d_leads_on : FuncData
  f_bound_row : Addr
  d_bound_row : FuncData
  f_Event_init : Addr
  d_Event_init : FuncData
  f_Signal_init : Addr
  d_Signal_init : FuncData
  f_Room_init : Addr
  d_Room_init : FuncData
  f_Room_renew : Addr
  d_Room_renew : FuncData
  f_Room_note : Addr
  d_Room_note : FuncData
  f_Room_has_clock : Addr
  d_Room_has_clock : FuncData
  f_Room_has_event : Addr
  d_Room_has_event : FuncData
  f_Room_has_both : Addr
  d_Room_has_both : FuncData
  f_Belief_init : Addr
  d_Belief_init : FuncData
  f_belief_before : Addr
  d_belief_before : FuncData
  f_belief_of : Addr
  d_belief_of : FuncData
  f_row_by : Addr
  d_row_by : FuncData
  f_begin : Addr
  d_begin : FuncData
  f_tell_event : Addr
  d_tell_event : FuncData
  f_era_reached : Addr
  d_era_reached : FuncData
  f_set_clock : Addr
  d_set_clock : FuncData
  f_tell_signal : Addr
  d_tell_signal : FuncData
  f_signal_refusal : Addr
  d_signal_refusal : FuncData
  f_strike : Addr
  d_strike : FuncData
  f_with_length : Addr
  d_with_length : FuncData
  f_bound_list : Addr
  d_bound_list : FuncData
  f_counted : Addr
  d_counted : FuncData
  f_tell_believed : Addr
  d_tell_believed : FuncData
  f_tell_between : Addr
  d_tell_between : FuncData
  f_tell_order : Addr
  d_tell_order : FuncData
  f_tell_reason : Addr
  d_tell_reason : FuncData
  f_tell_against : Addr
  d_tell_against : FuncData
  f_tell_could : Addr
  d_tell_could : FuncData
  f_tell_of : Addr
  d_tell_of : FuncData
  f_tell_once : Addr
  d_tell_once : FuncData
  f_answer_to : Addr
  d_answer_to : FuncData
  f_call_length : Addr
  d_call_length : FuncData
  f_answers : Addr
  d_answers : FuncData
structure Txt (K : PySem.W.Frag) (mg : Str → Option Value) (t : Adr) : Prop where
  F_era_bound : Fun K "era_bound" "era_bound" s_era_bound t.f_era_bound t.d_era_bound
  b_era_bound : Binds K t.d_era_bound ["rate", "further"] []
  m_era_bound : mg "era_bound" = some (.ref t.f_era_bound)
  F_clock_bound : Fun K "clock_bound" "clock_bound" s_clock_bound t.f_clock_bound t.d_clock_bound
  b_clock_bound : Binds K t.d_clock_bound ["rates", "base", "other"] []
  m_clock_bound : mg "clock_bound" = some (.ref t.f_clock_bound)
  F_bound_sum : Fun K "bound_sum" "bound_sum" s_bound_sum t.f_bound_sum t.d_bound_sum
  b_bound_sum : Binds K t.d_bound_sum ["one", "other"] []
  m_bound_sum : mg "bound_sum" = some (.ref t.f_bound_sum)
  F_bound_least : Fun K "bound_least" "bound_least" s_bound_least t.f_bound_least t.d_bound_least
  b_bound_least : Binds K t.d_bound_least ["one", "other"] []
  m_bound_least : mg "bound_least" = some (.ref t.f_bound_least)
  F_row_by_way : Fun K "row_by_way" "row_by_way" s_row_by_way t.f_row_by_way t.d_row_by_way
  b_row_by_way : Binds K t.d_row_by_way ["row", "reach", "onward"] []
  m_row_by_way : mg "row_by_way" = some (.ref t.f_row_by_way)
  F_with_bound : Fun K "with_bound" "with_bound" s_with_bound t.f_with_bound t.d_with_bound
  b_with_bound : Binds K t.d_with_bound ["table", "base", "other", "most"] []
  m_with_bound : mg "with_bound" = some (.ref t.f_with_bound)
  F_clock_row : Fun K "clock_row" "clock_row" s_clock_row t.f_clock_row t.d_clock_row
  b_clock_row : Binds K t.d_clock_row ["rates", "base", "events"] []
  m_clock_row : mg "clock_row" = some (.ref t.f_clock_row)
  F_own_clock_bounds : Fun K "own_clock_bounds" "own_clock_bounds" s_own_clock_bounds t.f_own_clock_bounds t.d_own_clock_bounds
  b_own_clock_bounds : Binds K t.d_own_clock_bounds ["rates", "events"] []
  m_own_clock_bounds : mg "own_clock_bounds" = some (.ref t.f_own_clock_bounds)
  F_clock_table : Fun K "clock_table" "clock_table" s_clock_table t.f_clock_table t.d_clock_table
  b_clock_table : Binds K t.d_clock_table ["rates", "events"] []
  m_clock_table : mg "clock_table" = some (.ref t.f_clock_table)
  F_least_later : Fun K "least_later" "least_later" s_least_later t.f_least_later t.d_least_later
  b_least_later : Binds K t.d_least_later ["table", "base", "other"] []
  m_least_later : mg "least_later" = some (.ref t.f_least_later)
  F_surely_before : Fun K "surely_before" "surely_before" s_surely_before t.f_surely_before t.d_surely_before
  b_surely_before : Binds K t.d_surely_before ["table", "base", "other"] []
  m_surely_before : mg "surely_before" = some (.ref t.f_surely_before)
  F_surely_at_once : Fun K "surely_at_once" "surely_at_once" s_surely_at_once t.f_surely_at_once t.d_surely_at_once
  b_surely_at_once : Binds K t.d_surely_at_once ["table", "base", "other"] []
  m_surely_at_once : mg "surely_at_once" = some (.ref t.f_surely_at_once)
  F_bound_fits : Fun K "bound_fits" "bound_fits" s_bound_fits t.f_bound_fits t.d_bound_fits
  b_bound_fits : Binds K t.d_bound_fits ["table", "base", "other", "most"] []
  m_bound_fits : mg "bound_fits" = some (.ref t.f_bound_fits)
  F_least_fits : Fun K "least_fits" "least_fits" s_least_fits t.f_least_fits t.d_least_fits
  b_least_fits : Binds K t.d_least_fits ["table", "signal"] []
  m_least_fits : mg "least_fits" = some (.ref t.f_least_fits)
  F_signal_fits : Fun K "signal_fits" "signal_fits" s_signal_fits t.f_signal_fits t.d_signal_fits
  b_signal_fits : Binds K t.d_signal_fits ["table", "signal"] []
  m_signal_fits : mg "signal_fits" = some (.ref t.f_signal_fits)
  F_with_signal : Fun K "with_signal" "with_signal" s_with_signal t.f_with_signal t.d_with_signal
  b_with_signal : Binds K t.d_with_signal ["table", "signal"] []
  m_with_signal : mg "with_signal" = some (.ref t.f_with_signal)
  F_bounds_at : Fun K "bounds_at" "bounds_at" s_bounds_at t.f_bounds_at t.d_bounds_at
  b_bounds_at : Binds K t.d_bounds_at ["rates", "events", "extra", "place"] []
  m_bounds_at : mg "bounds_at" = some (.ref t.f_bounds_at)
  F_bounds_fit : Fun K "bounds_fit" "bounds_fit" s_bounds_fit t.f_bounds_fit t.d_bounds_fit
  b_bounds_fit : Binds K t.d_bounds_fit ["table", "told"] []
  m_bounds_fit : mg "bounds_fit" = some (.ref t.f_bounds_fit)
  F_own_bounds : Fun K "own_bounds" "own_bounds" s_own_bounds t.f_own_bounds t.d_own_bounds
  b_own_bounds : Binds K t.d_own_bounds ["rates", "events", "signals"] []
  m_own_bounds : mg "own_bounds" = some (.ref t.f_own_bounds)
  F_leads_on : Fun K "leads_on" "leads_on" s_leads_on t.f_leads_on t.d_leads_on
  b_leads_on : Binds K t.d_leads_on ["own", "table", "here", "onward", "end"] []
  m_leads_on : mg "leads_on" = some (.ref t.f_leads_on)
  F_bound_row : Fun K "bound_row" "bound_row" s_bound_row t.f_bound_row t.d_bound_row
  b_bound_row : Binds K t.d_bound_row ["own", "table", "start", "end"] []
  m_bound_row : mg "bound_row" = some (.ref t.f_bound_row)
  F_Event_init : Fun K "__init__" "Event.__init__" s_Event_init t.f_Event_init t.d_Event_init
  b_Event_init : Binds K t.d_Event_init ["self", "clock", "era", "reading", "instant"] []
  F_Signal_init : Fun K "__init__" "Signal.__init__" s_Signal_init t.f_Signal_init t.d_Signal_init
  b_Signal_init : Binds K t.d_Signal_init ["self", "first", "second", "least", "most"] []
  F_Room_init : Fun K "__init__" "Room.__init__" s_Room_init t.f_Room_init t.d_Room_init
  b_Room_init : Binds K t.d_Room_init ["self"] []
  F_Room_renew : Fun K "renew" "Room.renew" s_Room_renew t.f_Room_renew t.d_Room_renew
  b_Room_renew : Binds K t.d_Room_renew ["self", "rates"] []
  h_Room_renew : Meth K t.c_Room "renew" t.f_Room_renew
  F_Room_note : Fun K "note" "Room.note" s_Room_note t.f_Room_note t.d_Room_note
  b_Room_note : Binds K t.d_Room_note ["self", "clock", "reading", "instant"] []
  h_Room_note : Meth K t.c_Room "note" t.f_Room_note
  F_Room_has_clock : Fun K "has_clock" "Room.has_clock" s_Room_has_clock t.f_Room_has_clock t.d_Room_has_clock
  b_Room_has_clock : Binds K t.d_Room_has_clock ["self", "clock"] []
  h_Room_has_clock : Meth K t.c_Room "has_clock" t.f_Room_has_clock
  F_Room_has_event : Fun K "has_event" "Room.has_event" s_Room_has_event t.f_Room_has_event t.d_Room_has_event
  b_Room_has_event : Binds K t.d_Room_has_event ["self", "number"] []
  h_Room_has_event : Meth K t.c_Room "has_event" t.f_Room_has_event
  F_Room_has_both : Fun K "has_both" "Room.has_both" s_Room_has_both t.f_Room_has_both t.d_Room_has_both
  b_Room_has_both : Binds K t.d_Room_has_both ["self", "one", "other"] []
  h_Room_has_both : Meth K t.c_Room "has_both" t.f_Room_has_both
  F_Belief_init : Fun K "__init__" "Belief.__init__" s_Belief_init t.f_Belief_init t.d_Belief_init
  b_Belief_init : Binds K t.d_Belief_init ["self", "numbers", "table"] []
  F_belief_before : Fun K "belief_before" "belief_before" s_belief_before t.f_belief_before t.d_belief_before
  b_belief_before : Binds K t.d_belief_before ["room", "end"] []
  m_belief_before : mg "belief_before" = some (.ref t.f_belief_before)
  F_belief_of : Fun K "belief_of" "belief_of" s_belief_of t.f_belief_of t.d_belief_of
  b_belief_of : Binds K t.d_belief_of ["room"] []
  m_belief_of : mg "belief_of" = some (.ref t.f_belief_of)
  F_row_by : Fun K "row_by" "row_by" s_row_by t.f_row_by t.d_row_by
  b_row_by : Binds K t.d_row_by ["room", "belief", "start", "end"] []
  m_row_by : mg "row_by" = some (.ref t.f_row_by)
  F_begin : Fun K "begin" "begin" s_begin t.f_begin t.d_begin
  b_begin : Binds K t.d_begin ["room", "rates"] []
  m_begin : mg "begin" = some (.ref t.f_begin)
  F_tell_event : Fun K "tell_event" "tell_event" s_tell_event t.f_tell_event t.d_tell_event
  b_tell_event : Binds K t.d_tell_event ["room", "clock", "reading"] []
  m_tell_event : mg "tell_event" = some (.ref t.f_tell_event)
  F_era_reached : Fun K "era_reached" "era_reached" s_era_reached t.f_era_reached t.d_era_reached
  b_era_reached : Binds K t.d_era_reached ["room", "clock"] []
  m_era_reached : mg "era_reached" = some (.ref t.f_era_reached)
  F_set_clock : Fun K "set_clock" "set_clock" s_set_clock t.f_set_clock t.d_set_clock
  b_set_clock : Binds K t.d_set_clock ["room", "clock", "showed", "told"] []
  m_set_clock : mg "set_clock" = some (.ref t.f_set_clock)
  F_tell_signal : Fun K "tell_signal" "tell_signal" s_tell_signal t.f_tell_signal t.d_tell_signal
  b_tell_signal : Binds K t.d_tell_signal ["room", "first", "second", "least", "most"] []
  m_tell_signal : mg "tell_signal" = some (.ref t.f_tell_signal)
  F_signal_refusal : Fun K "signal_refusal" "signal_refusal" s_signal_refusal t.f_signal_refusal t.d_signal_refusal
  b_signal_refusal : Binds K t.d_signal_refusal ["room", "number"] []
  m_signal_refusal : mg "signal_refusal" = some (.ref t.f_signal_refusal)
  F_strike : Fun K "strike" "strike" s_strike t.f_strike t.d_strike
  b_strike : Binds K t.d_strike ["room", "number"] []
  m_strike : mg "strike" = some (.ref t.f_strike)
  F_with_length : Fun K "with_length" "with_length" s_with_length t.f_with_length t.d_with_length
  b_with_length : Binds K t.d_with_length ["numbers"] []
  m_with_length : mg "with_length" = some (.ref t.f_with_length)
  F_bound_list : Fun K "bound_list" "bound_list" s_bound_list t.f_bound_list t.d_bound_list
  b_bound_list : Binds K t.d_bound_list ["bound"] []
  m_bound_list : mg "bound_list" = some (.ref t.f_bound_list)
  F_counted : Fun K "counted" "counted" s_counted t.f_counted t.d_counted
  b_counted : Binds K t.d_counted ["numbers"] []
  m_counted : mg "counted" = some (.ref t.f_counted)
  F_tell_believed : Fun K "tell_believed" "tell_believed" s_tell_believed t.f_tell_believed t.d_tell_believed
  b_tell_believed : Binds K t.d_tell_believed ["room"] []
  m_tell_believed : mg "tell_believed" = some (.ref t.f_tell_believed)
  F_tell_between : Fun K "tell_between" "tell_between" s_tell_between t.f_tell_between t.d_tell_between
  b_tell_between : Binds K t.d_tell_between ["room", "base", "other"] []
  m_tell_between : mg "tell_between" = some (.ref t.f_tell_between)
  F_tell_order : Fun K "tell_order" "tell_order" s_tell_order t.f_tell_order t.d_tell_order
  b_tell_order : Binds K t.d_tell_order ["room", "base", "other"] []
  m_tell_order : mg "tell_order" = some (.ref t.f_tell_order)
  F_tell_reason : Fun K "tell_reason" "tell_reason" s_tell_reason t.f_tell_reason t.d_tell_reason
  b_tell_reason : Binds K t.d_tell_reason ["room", "base", "other"] []
  m_tell_reason : mg "tell_reason" = some (.ref t.f_tell_reason)
  F_tell_against : Fun K "tell_against" "tell_against" s_tell_against t.f_tell_against t.d_tell_against
  b_tell_against : Binds K t.d_tell_against ["room", "number"] []
  m_tell_against : mg "tell_against" = some (.ref t.f_tell_against)
  F_tell_could : Fun K "tell_could" "tell_could" s_tell_could t.f_tell_could t.d_tell_could
  b_tell_could : Binds K t.d_tell_could ["room", "place", "clock", "era", "reading"] []
  m_tell_could : mg "tell_could" = some (.ref t.f_tell_could)
  F_tell_of : Fun K "tell_of" "tell_of" s_tell_of t.f_tell_of t.d_tell_of
  b_tell_of : Binds K t.d_tell_of ["room", "clock"] []
  m_tell_of : mg "tell_of" = some (.ref t.f_tell_of)
  F_tell_once : Fun K "tell_once" "tell_once" s_tell_once t.f_tell_once t.d_tell_once
  b_tell_once : Binds K t.d_tell_once ["room", "base"] []
  m_tell_once : mg "tell_once" = some (.ref t.f_tell_once)
  F_answer_to : Fun K "answer_to" "answer_to" s_answer_to t.f_answer_to t.d_answer_to
  b_answer_to : Binds K t.d_answer_to ["room", "call"] []
  m_answer_to : mg "answer_to" = some (.ref t.f_answer_to)
  F_call_length : Fun K "call_length" "call_length" s_call_length t.f_call_length t.d_call_length
  b_call_length : Binds K t.d_call_length ["calls", "at"] []
  m_call_length : mg "call_length" = some (.ref t.f_call_length)
  F_answers : Fun K "answers" "answers" s_answers t.f_answers t.d_answers
  b_answers : Binds K t.d_answers ["calls"] []
  m_answers : mg "answers" = some (.ref t.f_answers)
  cl_Event : Cls K t.c_Event
  m_Event : mg "Event" = some (.ref t.c_Event)
  M_Event : Mk K t.c_Event t.f_Event_init
  n_Event_clock : NoAttr K t.c_Event "clock"
  n_Event_era : NoAttr K t.c_Event "era"
  n_Event_reading : NoAttr K t.c_Event "reading"
  n_Event_instant : NoAttr K t.c_Event "instant"
  cl_Signal : Cls K t.c_Signal
  m_Signal : mg "Signal" = some (.ref t.c_Signal)
  M_Signal : Mk K t.c_Signal t.f_Signal_init
  n_Signal_first : NoAttr K t.c_Signal "first"
  n_Signal_second : NoAttr K t.c_Signal "second"
  n_Signal_least : NoAttr K t.c_Signal "least"
  n_Signal_most : NoAttr K t.c_Signal "most"
  n_Signal_struck : NoAttr K t.c_Signal "struck"
  cl_Room : Cls K t.c_Room
  m_Room : mg "Room" = some (.ref t.c_Room)
  M_Room : Mk K t.c_Room t.f_Room_init
  n_Room_rates : NoAttr K t.c_Room "rates"
  n_Room_eras : NoAttr K t.c_Room "eras"
  n_Room_begun : NoAttr K t.c_Room "begun"
  n_Room_events : NoAttr K t.c_Room "events"
  n_Room_signals : NoAttr K t.c_Room "signals"
  cl_Belief : Cls K t.c_Belief
  m_Belief : mg "Belief" = some (.ref t.c_Belief)
  M_Belief : Mk K t.c_Belief t.f_Belief_init
  n_Belief_numbers : NoAttr K t.c_Belief "numbers"
  n_Belief_table : NoAttr K t.c_Belief "table"
  g_MILLION : ∃ u, mg "MILLION" = some (.int 1000000 u)
  g_MOST_CLOCKS : ∃ u, mg "MOST_CLOCKS" = some (.int 6 u)
  g_MOST_RATE : ∃ u, mg "MOST_RATE" = some (.int 999999 u)
  g_MOST_READING : ∃ u, mg "MOST_READING" = some (.int 1000000 u)
  g_MOST_EVENTS : ∃ u, mg "MOST_EVENTS" = some (.int 24 u)
  g_MOST_SIGNALS : ∃ u, mg "MOST_SIGNALS" = some (.int 30 u)
  g_MOST_ON_WAY : ∃ u, mg "MOST_ON_WAY" = some (.int 1000000000000 u)
  g_BEGINS : ∃ u, mg "BEGINS" = some (.int 0 u)
  g_EVENT : ∃ u, mg "EVENT" = some (.int 1 u)
  g_SET : ∃ u, mg "SET" = some (.int 2 u)
  g_SIGNAL : ∃ u, mg "SIGNAL" = some (.int 3 u)
  g_STRIKE : ∃ u, mg "STRIKE" = some (.int 4 u)
  g_BELIEVED : ∃ u, mg "BELIEVED" = some (.int 5 u)
  g_BETWEEN : ∃ u, mg "BETWEEN" = some (.int 6 u)
  g_ORDER : ∃ u, mg "ORDER" = some (.int 7 u)
  g_REASON : ∃ u, mg "REASON" = some (.int 8 u)
  g_AGAINST : ∃ u, mg "AGAINST" = some (.int 9 u)
  g_COULD : ∃ u, mg "COULD" = some (.int 10 u)
  g_OF : ∃ u, mg "OF" = some (.int 11 u)
  g_WIDTHS : ∃ a, mg "WIDTHS" = some (.ref a) ∧ ∀ H, SqT K H a [.int 1, .int 2, .int 3, .int 4, .int 1, .int 0, .int 2, .int 2, .int 2, .int 1, .int 4, .int 1, .int 1]
  z_min : mg "min" = none
  z_range : mg "range" = none
  z_enumerate : mg "enumerate" = none
  z_len : mg "len" = none
  z_list : mg "list" = none
  z_max : mg "max" = none
theorem pe_gint {X : Cx} {x : Str} {i : Int} {pos : Pos} (hg : Gl X x) (hm : ∃ u, X.mg x = some (.int i u)) (hd : (x == ("__debug__" : Str)) = false := by decide) : PE X (.Name x pos) (tC (.int i)) :=
  match hm with | ⟨u, e⟩ => pe_glob hg e ⟨u, rfl⟩ hd
theorem ixL {X : Cx} {K : PySem.W.Frag} (h : X.K = K) : IxR X (rIxL K) := by subst h; exact ix_list
theorem ixT {X : Cx} {K : PySem.W.Frag} (h : X.K = K) : IxR X (rIxT K) := by subst h; exact ix_tup
theorem pg_tupK {X : Cx} {K : PySem.W.Frag} (hK : X.K = K) {es : List Expr} {k : Nat} {t : TGs} {n : Nat} {pos : Pos} (hc : X.calm = true) (h : PGs X es t) (hn : (assignEach es X.env).length = n := by rfl) (hst : (assignEach es X.env).findIdx? (·.1) = none := by rfl) : PG X (.Tuple es k pos) (gTup K n t) := by subst hK; exact pg_tup hc h hn hst
theorem sl_listK {X : Cx} {K : PySem.W.Frag} (h : X.K = K) : SlR X (rSlL K) := by subst h; exact sl_list
theorem pe_fldK {X : Cx} {K : PySem.W.Frag} (h : X.K = K) {e : Expr} {f : Str} {pos : Pos} {ta : TE} (he : PE X e ta) (hb : attributeBase e f X.env (eval e X.env) = eval e X.env) : PE X (.Attribute e f pos) (tFld K ta f) := by subst h; exact pe_fld he hb
def rLen (K : PySem.W.Frag) : List V → Hp → VK → Prop := fun xs H Q => ∃ p ys, xs = [.ref p] ∧ (SqL K H p ys ∨ SqT K H p ys) ∧ Q (.int ys.length) H
theorem call_lenK {X : Cx} {K : PySem.W.Frag} (h : X.K = K) : CallR X (.builtin "len") (rLen K) := by subst h; exact call_len_seq
def rListOf (K : PySem.W.Frag) : List V → Hp → VK → Prop := fun xs H Q => ∃ p ys, xs = [.ref p] ∧ (SqL K H p ys ∨ SqT K H p ys) ∧ ∀ l, H l = none → Q (.ref l) (upd H l (.lst ys))
theorem call_listK {X : Cx} {K : PySem.W.Frag} (h : X.K = K) : CallR X (.type "list") (rListOf K) := by subst h; exact call_list_of
theorem cr_maxK {X : Cx} {K : PySem.W.Frag} (h : X.K = K) (hc : X.calm = true) : CallR X (.builtin "max") (rMax K) := by subst h; exact cr_max hc
theorem cr_minK {X : Cx} {K : PySem.W.Frag} (h : X.K = K) (hc : X.calm = true) : CallR X (.builtin "min") (rMin K) := by subst h; exact cr_min hc
theorem sc_era_bound : FnScope ["rate", "further"] ["rate", "further"] (defScope s_era_bound) := ⟨rfl, rfl, rfl, by decide +kernel, rfl, by decide +kernel, by decide +kernel⟩
theorem sc_clock_bound : FnScope ["rates", "base", "other"] ["rates", "base", "other"] (defScope s_clock_bound) := ⟨rfl, rfl, rfl, by decide +kernel, rfl, by decide +kernel, by decide +kernel⟩
theorem sc_bound_sum : FnScope ["one", "other"] ["one", "other"] (defScope s_bound_sum) := ⟨rfl, rfl, rfl, by decide +kernel, rfl, by decide +kernel, by decide +kernel⟩
theorem sc_bound_least : FnScope ["one", "other"] ["one", "other"] (defScope s_bound_least) := ⟨rfl, rfl, rfl, by decide +kernel, rfl, by decide +kernel, by decide +kernel⟩
theorem sc_row_by_way : FnScope ["row", "reach", "onward", "k"] ["row", "reach", "onward"] (defScope s_row_by_way) := ⟨rfl, rfl, rfl, by decide +kernel, rfl, by decide +kernel, by decide +kernel⟩
theorem sc_with_bound : FnScope ["table", "base", "other", "most", "row"] ["table", "base", "other", "most"] (defScope s_with_bound) := ⟨rfl, rfl, rfl, by decide +kernel, rfl, by decide +kernel, by decide +kernel⟩
theorem sc_clock_row : FnScope ["rates", "base", "events", "other"] ["rates", "base", "events"] (defScope s_clock_row) := ⟨rfl, rfl, rfl, by decide +kernel, rfl, by decide +kernel, by decide +kernel⟩
theorem sc_own_clock_bounds : FnScope ["rates", "events", "base"] ["rates", "events"] (defScope s_own_clock_bounds) := ⟨rfl, rfl, rfl, by decide +kernel, rfl, by decide +kernel, by decide +kernel⟩
theorem sc_clock_table : FnScope ["rates", "events", "table", "k"] ["rates", "events"] (defScope s_clock_table) := ⟨rfl, rfl, rfl, by decide +kernel, rfl, by decide +kernel, by decide +kernel⟩
theorem sc_least_later : FnScope ["table", "base", "other", "back"] ["table", "base", "other"] (defScope s_least_later) := ⟨rfl, rfl, rfl, by decide +kernel, rfl, by decide +kernel, by decide +kernel⟩
theorem sc_surely_before : FnScope ["table", "base", "other", "back"] ["table", "base", "other"] (defScope s_surely_before) := ⟨rfl, rfl, rfl, by decide +kernel, rfl, by decide +kernel, by decide +kernel⟩
theorem sc_surely_at_once : FnScope ["table", "base", "other"] ["table", "base", "other"] (defScope s_surely_at_once) := ⟨rfl, rfl, rfl, by decide +kernel, rfl, by decide +kernel, by decide +kernel⟩
theorem sc_bound_fits : FnScope ["table", "base", "other", "most", "whole"] ["table", "base", "other", "most"] (defScope s_bound_fits) := ⟨rfl, rfl, rfl, by decide +kernel, rfl, by decide +kernel, by decide +kernel⟩
theorem sc_least_fits : FnScope ["table", "signal"] ["table", "signal"] (defScope s_least_fits) := ⟨rfl, rfl, rfl, by decide +kernel, rfl, by decide +kernel, by decide +kernel⟩
theorem sc_signal_fits : FnScope ["table", "signal"] ["table", "signal"] (defScope s_signal_fits) := ⟨rfl, rfl, rfl, by decide +kernel, rfl, by decide +kernel, by decide +kernel⟩
theorem sc_with_signal : FnScope ["table", "signal", "ahead"] ["table", "signal"] (defScope s_with_signal) := ⟨rfl, rfl, rfl, by decide +kernel, rfl, by decide +kernel, by decide +kernel⟩
theorem sc_bounds_at : FnScope ["rates", "events", "extra", "place", "ahead", "back", "k"] ["rates", "events", "extra", "place"] (defScope s_bounds_at) := ⟨rfl, rfl, rfl, by decide +kernel, rfl, by decide +kernel, by decide +kernel⟩
theorem sc_bounds_fit : FnScope ["table", "told", "base", "other", "most"] ["table", "told"] (defScope s_bounds_fit) := ⟨rfl, rfl, rfl, by decide +kernel, rfl, by decide +kernel, by decide +kernel⟩
theorem sc_own_bounds : FnScope ["rates", "events", "signals", "own", "signal", "ahead", "back"] ["rates", "events", "signals"] (defScope s_own_bounds) := ⟨rfl, rfl, rfl, by decide +kernel, rfl, by decide +kernel, by decide +kernel⟩
theorem sc_leads_on : FnScope ["own", "table", "here", "onward", "end"] ["own", "table", "here", "onward", "end"] (defScope s_leads_on) := ⟨rfl, rfl, rfl, by decide +kernel, rfl, by decide +kernel, by decide +kernel⟩
theorem sc_bound_row : FnScope ["own", "table", "start", "end", "rows", "seen", "at", "here", "onward"] ["own", "table", "start", "end"] (defScope s_bound_row) := ⟨rfl, rfl, rfl, by decide +kernel, rfl, by decide +kernel, by decide +kernel⟩
theorem sc_Event_init : FnScope ["self", "clock", "era", "reading", "instant"] ["self", "clock", "era", "reading", "instant"] (defScope s_Event_init) := ⟨rfl, rfl, rfl, by decide +kernel, rfl, by decide +kernel, by decide +kernel⟩
theorem sc_Signal_init : FnScope ["self", "first", "second", "least", "most"] ["self", "first", "second", "least", "most"] (defScope s_Signal_init) := ⟨rfl, rfl, rfl, by decide +kernel, rfl, by decide +kernel, by decide +kernel⟩
theorem sc_Room_init : FnScope ["self"] ["self"] (defScope s_Room_init) := ⟨rfl, rfl, rfl, by decide +kernel, rfl, by decide +kernel, by decide +kernel⟩
theorem sc_Room_renew : FnScope ["self", "rates", "rate"] ["self", "rates"] (defScope s_Room_renew) := ⟨rfl, rfl, rfl, by decide +kernel, rfl, by decide +kernel, by decide +kernel⟩
theorem sc_Room_note : FnScope ["self", "clock", "reading", "instant"] ["self", "clock", "reading", "instant"] (defScope s_Room_note) := ⟨rfl, rfl, rfl, by decide +kernel, rfl, by decide +kernel, by decide +kernel⟩
theorem sc_Room_has_clock : FnScope ["self", "clock"] ["self", "clock"] (defScope s_Room_has_clock) := ⟨rfl, rfl, rfl, by decide +kernel, rfl, by decide +kernel, by decide +kernel⟩
theorem sc_Room_has_event : FnScope ["self", "number"] ["self", "number"] (defScope s_Room_has_event) := ⟨rfl, rfl, rfl, by decide +kernel, rfl, by decide +kernel, by decide +kernel⟩
theorem sc_Room_has_both : FnScope ["self", "one", "other"] ["self", "one", "other"] (defScope s_Room_has_both) := ⟨rfl, rfl, rfl, by decide +kernel, rfl, by decide +kernel, by decide +kernel⟩
theorem sc_Belief_init : FnScope ["self", "numbers", "table"] ["self", "numbers", "table"] (defScope s_Belief_init) := ⟨rfl, rfl, rfl, by decide +kernel, rfl, by decide +kernel, by decide +kernel⟩
theorem sc_belief_before : FnScope ["room", "end", "table", "numbers", "number", "signal"] ["room", "end"] (defScope s_belief_before) := ⟨rfl, rfl, rfl, by decide +kernel, rfl, by decide +kernel, by decide +kernel⟩
theorem sc_belief_of : FnScope ["room"] ["room"] (defScope s_belief_of) := ⟨rfl, rfl, rfl, by decide +kernel, rfl, by decide +kernel, by decide +kernel⟩
theorem sc_row_by : FnScope ["room", "belief", "start", "end", "signals", "own", "number"] ["room", "belief", "start", "end"] (defScope s_row_by) := ⟨rfl, rfl, rfl, by decide +kernel, rfl, by decide +kernel, by decide +kernel⟩
theorem sc_begin : FnScope ["room", "rates"] ["room", "rates"] (defScope s_begin) := ⟨rfl, rfl, rfl, by decide +kernel, rfl, by decide +kernel, by decide +kernel⟩
theorem sc_tell_event : FnScope ["room", "clock", "reading", "number"] ["room", "clock", "reading"] (defScope s_tell_event) := ⟨rfl, rfl, rfl, by decide +kernel, rfl, by decide +kernel, by decide +kernel⟩
theorem sc_era_reached : FnScope ["room", "clock", "reached", "event"] ["room", "clock"] (defScope s_era_reached) := ⟨rfl, rfl, rfl, by decide +kernel, rfl, by decide +kernel, by decide +kernel⟩
theorem sc_set_clock : FnScope ["room", "clock", "showed", "told", "number"] ["room", "clock", "showed", "told"] (defScope s_set_clock) := ⟨rfl, rfl, rfl, by decide +kernel, rfl, by decide +kernel, by decide +kernel⟩
theorem sc_tell_signal : FnScope ["room", "first", "second", "least", "most", "number"] ["room", "first", "second", "least", "most"] (defScope s_tell_signal) := ⟨rfl, rfl, rfl, by decide +kernel, rfl, by decide +kernel, by decide +kernel⟩
theorem sc_signal_refusal : FnScope ["room", "number"] ["room", "number"] (defScope s_signal_refusal) := ⟨rfl, rfl, rfl, by decide +kernel, rfl, by decide +kernel, by decide +kernel⟩
theorem sc_strike : FnScope ["room", "number", "refusal"] ["room", "number"] (defScope s_strike) := ⟨rfl, rfl, rfl, by decide +kernel, rfl, by decide +kernel, by decide +kernel⟩
theorem sc_with_length : FnScope ["numbers"] ["numbers"] (defScope s_with_length) := ⟨rfl, rfl, rfl, by decide +kernel, rfl, by decide +kernel, by decide +kernel⟩
theorem sc_bound_list : FnScope ["bound"] ["bound"] (defScope s_bound_list) := ⟨rfl, rfl, rfl, by decide +kernel, rfl, by decide +kernel, by decide +kernel⟩
theorem sc_counted : FnScope ["numbers"] ["numbers"] (defScope s_counted) := ⟨rfl, rfl, rfl, by decide +kernel, rfl, by decide +kernel, by decide +kernel⟩
theorem sc_tell_believed : FnScope ["room"] ["room"] (defScope s_tell_believed) := ⟨rfl, rfl, rfl, by decide +kernel, rfl, by decide +kernel, by decide +kernel⟩
theorem sc_tell_between : FnScope ["room", "base", "other", "table"] ["room", "base", "other"] (defScope s_tell_between) := ⟨rfl, rfl, rfl, by decide +kernel, rfl, by decide +kernel, by decide +kernel⟩
theorem sc_tell_order : FnScope ["room", "base", "other", "table"] ["room", "base", "other"] (defScope s_tell_order) := ⟨rfl, rfl, rfl, by decide +kernel, rfl, by decide +kernel, by decide +kernel⟩
theorem sc_tell_reason : FnScope ["room", "base", "other", "belief", "row"] ["room", "base", "other"] (defScope s_tell_reason) := ⟨rfl, rfl, rfl, by decide +kernel, rfl, by decide +kernel, by decide +kernel⟩
theorem sc_tell_against : FnScope ["room", "number", "refusal", "signal", "belief"] ["room", "number"] (defScope s_tell_against) := ⟨rfl, rfl, rfl, by decide +kernel, rfl, by decide +kernel, by decide +kernel⟩
theorem sc_tell_could : FnScope ["room", "place", "clock", "era", "reading", "extra"] ["room", "place", "clock", "era", "reading"] (defScope s_tell_could) := ⟨rfl, rfl, rfl, by decide +kernel, rfl, by decide +kernel, by decide +kernel⟩
theorem sc_tell_of : FnScope ["room", "clock", "number", "event"] ["room", "clock"] (defScope s_tell_of) := ⟨rfl, rfl, rfl, by decide +kernel, rfl, by decide +kernel, by decide +kernel⟩
theorem sc_tell_once : FnScope ["room", "base", "table", "other"] ["room", "base"] (defScope s_tell_once) := ⟨rfl, rfl, rfl, by decide +kernel, rfl, by decide +kernel, by decide +kernel⟩
theorem sc_answer_to : FnScope ["room", "call", "kind"] ["room", "call"] (defScope s_answer_to) := ⟨rfl, rfl, rfl, by decide +kernel, rfl, by decide +kernel, by decide +kernel⟩
theorem sc_call_length : FnScope ["calls", "at", "length"] ["calls", "at"] (defScope s_call_length) := ⟨rfl, rfl, rfl, by decide +kernel, rfl, by decide +kernel, by decide +kernel⟩
theorem sc_answers : FnScope ["calls", "room", "given", "at", "length", "answer"] ["calls"] (defScope s_answers) := ⟨rfl, rfl, rfl, by decide +kernel, rfl, by decide +kernel, by decide +kernel⟩
end Ck
set_option Elab.async false
set_option linter.all false
set_option maxRecDepth 100000
set_option maxHeartbeats 2000000
namespace Ck
open PySem PySem.Spec PyProof.Rows L2
def bV : Sy35.Bound → V
  | none => .non
  | some x => .int x
theorem bV_none {b : Sy35.Bound} : bV b = .non ↔ b = none := by
  cases b with
  | none => simp [bV]
  | some x => simp [bV]
def RowAt (H : Hp) (a : Addr) (r : List Sy35.Bound) : Prop := H a = some (.lst (r.map bV))
structure TabAt (S : Addr → Prop) (H : Hp) (a : Addr) (t : Sy35.Table) : Prop where
  inS : S a
  ex : ∃ as : List Addr, H a = some (.lst (as.map V.ref)) ∧ as.length = t.length ∧ ∀ (i : Nat) (r : List Sy35.Bound), t[i]? = some r → ∃ x, as[i]? = some x ∧ S x ∧ RowAt H x r
theorem RowAt.same {H H' : Hp} {a : Addr} {r : List Sy35.Bound} (h : RowAt H a r) (s : Same H H') : RowAt H' a r := s _ _ h
theorem TabAt.same {S : Addr → Prop} {H H' : Hp} {a : Addr} {t : Sy35.Table} (h : TabAt S H a t) (s : Same H H') : TabAt S H' a t := by
  obtain ⟨as, h1, h2, h3⟩ := h.ex
  exact ⟨h.inS, as, s _ _ h1, h2, fun i r e => let ⟨x, e1, e0, e2⟩ := h3 i r e; ⟨x, e1, e0, e2.same s⟩⟩
theorem TabAt.mono {S S' : Addr → Prop} {H : Hp} {a : Addr} {t : Sy35.Table} (h : TabAt S H a t) (s : ∀ x, S x → S' x) : TabAt S' H a t := by
  obtain ⟨as, h1, h2, h3⟩ := h.ex
  exact ⟨s _ h.inS, as, h1, h2, fun i r e => let ⟨x, e1, e0, e2⟩ := h3 i r e; ⟨x, e1, s _ e0, e2⟩⟩
theorem TabAt.avoid {S : Addr → Prop} {H : Hp} {a l : Addr} {t : Sy35.Table} (h : TabAt S H a t) (hl : H l = none) : TabAt (fun x => x ≠ l) H a t := by
  obtain ⟨as, h1, h2, h3⟩ := h.ex
  exact ⟨ne_of_none h1 hl, as, h1, h2, fun i r e => let ⟨x, e1, e0, e2⟩ := h3 i r e; ⟨x, e1, ne_of_none e2 hl, e2⟩⟩
theorem TabAt.put {H : Hp} {a l : Addr} {o : HO} {t : Sy35.Table} (h : TabAt (fun x => x ≠ l) H a t) : TabAt (fun x => x ≠ l) (upd H l o) a t := by
  obtain ⟨as, h1, h2, h3⟩ := h.ex
  exact ⟨h.inS, as, by rw [upd_ne h.inS]; exact h1, h2, fun i r e => let ⟨x, e1, e0, e2⟩ := h3 i r e; ⟨x, e1, e0, show upd H l o x = _ by rw [upd_ne e0]; exact e2⟩⟩
def News (S : Addr → Prop) (H : Hp) : Prop := ∀ x, H x = none → S x
theorem News.same {S : Addr → Prop} {H H' : Hp} (h : News S H) (s : Same H H') : News S H' := fun x hx => h x (s.free hx)
theorem Same.new {H : Hp} {p : Addr} {o : HO} (h : H p = none) : Same H (upd H p o) := fun b o' e => by
  rw [upd_ne (ne_of_none e h)]
  exact e
def spEra : Sp := fun vs H Q _ => ∃ r d : Int, vs = [.int r, .int d] ∧ 0 ≤ r ∧ r ≤ 999999 ∧ Q (.int (if 0 ≤ d then d * (Sy35.UNIT + r) else d * (Sy35.UNIT - r))) H
def spSum : Sp := fun vs H Q _ => ∃ a b : Sy35.Bound, vs = [bV a, bV b] ∧ Q (bV (Sy35.sum a b)) H
def spLess : Sp := fun vs H Q _ => ∃ a b : Sy35.Bound, vs = [bV a, bV b] ∧ Q (bV (Sy35.lesser a b)) H
section
variable {P : Program} {w : World} {K : PySem.W.Frag} {mg : Str → Option Value} {base : Heap} {t : Adr}
theorem ok_era_bound (T : Txt K mg t) : FnOk P w K mg base CX0 1 t.f_era_bound t.d_era_bound ["rate", "further"] spEra := by
  refine T.F_era_bound.ok sc_era_bound (fun vs H Q E h => ?_) (fun cdv A outer s H vs Q E hr h => ?_)
  · obtain ⟨r, d, rfl, _⟩ := h
    rfl
  · obtain ⟨r, d, rfl, h1, h2, k⟩ := h
    refine ⟨_, (pss_cons (ps_if (pt_cmp (pc_ge (pv 1) pe_int)) (pss_one (ps_ret (pe_op op_mul (pv 1) (pe_op op_add (pe_gint rfl T.g_MILLION) (pv 0))))) pss_nil) (pss_one (ps_ret (pe_op op_mul (pv 1) (pe_op op_sub (pe_gint rfl T.g_MILLION) (pv 0)))))), ?_⟩
    refine ⟨_, rfl, _, _, rfl, rfl, _, rfl, ite2 (fun h => ?_) (fun h => ?_)⟩
    · rw [if_pos (of_decide_eq_true h)] at k
      exact ⟨_, rfl, _, rfl, _, _, rfl, rfl, _, _, rfl, rfl, .inr ⟨by omega, by omega⟩, k⟩
    · rw [if_neg (fun z => h (decide_eq_true z))] at k
      exact ⟨_, rfl, _, rfl, _, _, rfl, rfl, _, _, rfl, rfl, .inr ⟨by omega, by omega⟩, k⟩
theorem ok_bound_sum (T : Txt K mg t) : FnOk P w K mg base CX0 1 t.f_bound_sum t.d_bound_sum ["one", "other"] spSum := by
  refine T.F_bound_sum.ok sc_bound_sum (fun vs H Q E h => ?_) (fun cdv A outer s H vs Q E hr h => ?_)
  · obtain ⟨r, d, rfl, _⟩ := h
    rfl
  · obtain ⟨a, b, rfl, k⟩ := h
    refine ⟨_, (pss_cons (ps_if (PW.pt (pw_or (pt_cmp (pc_isN (pv 0))) (pw_or1 (pt_cmp (pc_isN (pv 1)))))) (pss_one (ps_ret pe_non)) pss_nil) (pss_one (ps_ret (pe_op op_add (pv 0) (pv 1))))), ?_⟩
    refine ⟨_, rfl, _, rfl, ?_⟩
    cases a with
    | none => exact iteT (iteT k)
    | some x =>
      refine iteF ⟨_, rfl, _, rfl, ?_⟩
      cases b with
      | none => exact iteT k
      | some y => exact iteF ⟨_, rfl, _, rfl, _, _, rfl, rfl, k⟩
theorem ok_bound_least (T : Txt K mg t) : FnOk P w K mg base CX0 1 t.f_bound_least t.d_bound_least ["one", "other"] spLess := by
  refine T.F_bound_least.ok sc_bound_least (fun vs H Q E h => ?_) (fun cdv A outer s H vs Q E hr h => ?_)
  · obtain ⟨r, d, rfl, _⟩ := h
    rfl
  · obtain ⟨a, b, rfl, k⟩ := h
    refine ⟨_, (pss_cons (ps_if (pt_cmp (pc_isN (pv 0))) (pss_one (ps_ret (pv 1))) pss_nil) (pss_cons (ps_if (pt_cmp (pc_isN (pv 1))) (pss_one (ps_ret (pv 0))) pss_nil) (pss_one (ps_ret (pe_callB (call_min2 rfl) (by rfl) T.z_min PyProof.Rows.boot_min (pa_cons (pv 0) (pa_cons (pv 1) pa_nil))))))), ?_⟩
    refine ⟨_, rfl, _, rfl, ?_⟩
    cases a with
    | none => exact iteT ⟨_, rfl, k⟩
    | some x =>
      refine iteF ⟨_, rfl, _, rfl, ?_⟩
      cases b with
      | none => exact iteT ⟨_, rfl, k⟩
      | some y =>
        refine iteF ⟨_, rfl, _, rfl, _, _, rfl, ?_⟩
        have e : (if y < x then y else x) = min x y := by omega
        rw [e]
        exact k
end
end Ck
namespace Ck
open PySem PySem.Spec PyProof.Rows L2
theorem row_get {r : List Sy35.Bound} {i : Nat} (h : i < r.length) : (r.map bV)[i]? = some (bV (r.getD i none)) := by
  rw [List.getElem?_map, List.getD_eq_getElem?_getD, List.getElem?_eq_getElem h]
  rfl
theorem tyes {σ : L2.St} {H : Hp} {A B : Hp → Prop} (h : A H) : tYes σ H (fun b H3 => if b = true then A H3 else B H3) := by
  show if true = true then A H else B H
  exact iteT h
theorem row_ne {H : Hp} {x D : Addr} {r : List Sy35.Bound} {bs : List V} (h : RowAt H x r) (hD : H D = some (.lst bs)) (hb : ∀ v ∈ bs, ∃ a, v = V.ref a) (hr : 0 < r.length) : x ≠ D := fun e => by
  subst e
  have z := h.symm.trans hD
  injection z with z
  injection z with z
  match r, hr with
  | b :: _, _ =>
    obtain ⟨a, q⟩ := hb (bV b) (by rw [← z]; exact List.mem_cons_self ..)
    cases b <;> cases q
theorem refs_all {bs : List Addr} : ∀ v ∈ bs.map V.ref, ∃ a, v = V.ref a := fun v h => let ⟨a, _, e⟩ := List.mem_map.mp h; ⟨a, e.symm⟩
theorem small_line {n : Nat} (h : n ≤ 1000) : n < sizeLine := small1000 h
def wayRow (b : Sy35.Bound) (r o : List Sy35.Bound) : List Sy35.Bound := match b with
  | none => r
  | some _ => (List.range r.length).map fun j => Sy35.lesser (r.getD j none) (Sy35.sum b (o.getD j none))
theorem wayRow_length (b : Sy35.Bound) (r o : List Sy35.Bound) : (wayRow b r o).length = r.length := by
  cases b with
  | none => rfl
  | some x => simp [wayRow]
def spWay : Sp := fun vs H Q _ => ∃ (S : Addr → Prop) (ra oa : Addr) (r o : List Sy35.Bound) (b : Sy35.Bound), vs = [.ref ra, bV b, .ref oa] ∧ News S H ∧ S ra ∧ RowAt H ra r ∧ RowAt H oa o ∧ r.length ≤ o.length ∧ r.length ≤ 100 ∧
  ∀ (H' : Hp) (p : Addr), Same H H' → S p → RowAt H' p (wayRow b r o) → Q (.ref p) H'
def wayTab (t : Sy35.Table) (i j : Nat) (b : Int) : Sy35.Table := t.map fun l => wayRow (Sy35.sum (l.getD i none) (some b)) l (t.getD j [])
def wayTabB (t : Sy35.Table) (i j : Nat) (b : Sy35.Bound) : Sy35.Table := t.map fun l => wayRow (Sy35.sum (l.getD i none) b) l (t.getD j [])
theorem wayTabB_none (t : Sy35.Table) (i j : Nat) : wayTabB t i j none = t := by
  have e : ∀ x : Sy35.Bound, Sy35.sum x none = none := fun x => by cases x <;> rfl
  unfold wayTabB
  simp only [e]
  exact List.map_id' _
structure Sq (n : Nat) (t : Sy35.Table) : Prop where
  len : t.length = n
  row : ∀ r ∈ t, r.length = n
theorem wayTab_sq {n : Nat} {t : Sy35.Table} (h : Sq n t) (i j : Nat) (b : Int) : Sq n (wayTab t i j b) := by
  refine ⟨by simp [wayTab, h.len], fun r hr => ?_⟩
  obtain ⟨l, hl, rfl⟩ := List.mem_map.mp hr
  rw [wayRow_length]
  exact h.row l hl
def spWith : Sp := fun vs H Q _ => ∃ (S : Addr → Prop) (ta : Addr) (n : Nat) (tb : Sy35.Table) (i j : Nat) (b : Sy35.Bound), vs = [.ref ta, .int i, .int j, bV b] ∧ News S H ∧ TabAt S H ta tb ∧ Sq n tb ∧ n ≤ 100 ∧ i < n ∧ j < n ∧
  ∀ (H' : Hp) (p : Addr), Same H H' → TabAt S H' p (wayTabB tb i j b) → Q (.ref p) H'
section
variable {P : Program} {w : World} {K : PySem.W.Frag} {mg : Str → Option Value} {base : Heap} {t : Adr}
theorem ok_row_by_way (T : Txt K mg t) : FnOk P w K mg base CX0 2 t.f_row_by_way t.d_row_by_way ["row", "reach", "onward"] spWay := by
  refine T.F_row_by_way.ok sc_row_by_way (fun vs H Q E h => ?_) (fun cdv A outer s H vs Q E hr h => ?_)
  · obtain ⟨_, _, _, _, _, _, rfl, _⟩ := h
    rfl
  · obtain ⟨S, ra, oa, r, o, b, rfl, hS, hra, h1, h2, hl, hz, k⟩ := h
    refine ⟨_, (pss_cons (ps_if (pt_cmp (pc_isN (pv 1))) (pss_one (ps_ret (pv 0))) pss_nil) (pss_one (ps_ret (pe_lc rfl sc_row_by_way.nd (pi_range1 rfl T.z_range (pa_cons (pe_callB (call_lenK (K := K) rfl) (by rfl) T.z_len PySem.boot_len (pa_cons (pv 0) pa_nil)) pa_nil)) (blkOk_by (N := ["row", "reach", "onward", "k"]) (sc := defScope s_row_by_way) (own := [("k", 3)]) (by decide +kernel)) (fun _ _ _ _ _ => (pg_name (i := 3) sc_row_by_way.nd rfl (Or.inl rfl))) (fun _ _ _ _ _ => pts_nil) (fun _ _ _ _ _ => (pe_call (ok_bound_least T) hr rfl T.m_bound_least T.F_bound_least.kp T.b_bound_least .nil pass0 (pa_cons (pe_ix (ixL (K := K) rfl) (pv 0) (pv 3) (fun _ _ => rfl)) (pa_cons (pe_call (ok_bound_sum T) hr rfl T.m_bound_sum T.F_bound_sum.kp T.b_bound_sum .nil pass0 (pa_cons (pv 1) (pa_cons (pe_ix (ixL (K := K) rfl) (pv 2) (pv 3) (fun _ _ => rfl)) pa_nil))) pa_nil)))))))), ?_⟩
    refine ⟨_, rfl, _, rfl, ?_⟩
    cases b with
    | none => exact iteT ⟨_, rfl, k H ra (Same.refl H) hra h1⟩
    | some x =>
      refine iteF ⟨_, rfl, ra, _, rfl, .inl (SqL.of h1), _, rfl, (by omega), (by rw [List.length_map]; omega), fun D hD => ?_⟩
      refine lc_range (fun i H' => Same H H' ∧ H' D = some (.lst (((List.range i).map fun j => Sy35.lesser (r.getD j none) (Sy35.sum (some x) (o.getD j none))).map bV))) ⟨Same.new hD, upd_same⟩ (fun i H' hi p => ?_) (fun H' p => ?_)
      · obtain ⟨sm, hq⟩ := p
        have hi' : i < r.length := by
          have := hi
          rw [List.length_map] at this
          omega
        refine ⟨rfl, tyes ⟨_, rfl, _, rfl, ra, _, _, _, rfl, rfl, SqL.of (sm _ _ h1), at_of (j := i) (by omega) (row_get hi'), _, rfl, _, rfl, _, rfl, oa, _, _, _, rfl, rfl, SqL.of (sm _ _ h2), at_of (j := i) (by omega) (row_get (by omega)), some x, _, rfl, _, _, rfl, _, hq, ?_, ?_, ?_⟩⟩
        · rw [List.length_map, List.length_map, List.length_range]
          exact small_line (by omega)
        · exact fun b o e => by rw [upd_ne (ne_of_none e hD)]; exact sm b o e
        · rw [upd_same, List.range_succ, List.map_append, List.map_append]
          rfl
      · obtain ⟨sm, hq⟩ := p
        refine k H' D sm (hS D hD) ?_
        rw [List.length_map] at hq
        exact hq
theorem ok_with_bound (T : Txt K mg t) : FnOk P w K mg base CX0 3 t.f_with_bound t.d_with_bound ["table", "base", "other", "most"] spWith := by
  refine T.F_with_bound.ok sc_with_bound (fun vs H Q E h => ?_) (fun cdv A outer s H vs Q E hr h => ?_)
  · obtain ⟨_, _, _, _, _, _, _, rfl, _⟩ := h
    rfl
  · obtain ⟨S, ta, n, tb, bi, bj, bb, rfl, hS, ht, hs, hn, hbi, hbj, k⟩ := h
    obtain ⟨as, e1, e2, e3⟩ := ht.ex
    refine ⟨_, (pss_one (ps_ret (pe_lc rfl sc_with_bound.nd (pi_list (pv 0)) (blkOk_by (N := ["table", "base", "other", "most", "row"]) (sc := defScope s_with_bound) (own := [("row", 4)]) (by decide +kernel)) (fun _ _ _ _ _ => (pg_name (i := 4) sc_with_bound.nd rfl (Or.inl rfl))) (fun _ _ _ _ _ => pts_nil) (fun _ _ _ _ _ => (pe_call (ok_row_by_way T) hr rfl T.m_row_by_way T.F_row_by_way.kp T.b_row_by_way .nil pass0 (pa_cons (pv 4) (pa_cons (pe_call (ok_bound_sum T) (hr.mono (by decide)) rfl T.m_bound_sum T.F_bound_sum.kp T.b_bound_sum .nil pass0 (pa_cons (pe_ix (ixL (K := K) rfl) (pv 4) (pv 1) (fun _ _ => rfl)) (pa_cons (pv 3) pa_nil))) (pa_cons (pe_ix (ixL (K := K) rfl) (pv 0) (pv 2) (fun _ _ => rfl)) pa_nil)))))))), ?_⟩
    refine ⟨_, rfl, ta, rfl, ⟨_, SqL.of e1⟩, fun D hD => ?_⟩
    refine lc_list (K := K) (a := ta) (xs := as.map V.ref) (fun i H' => Same H H' ∧ ∃ bs : List Addr, bs.length = i ∧ H' D = some (.lst (bs.map V.ref)) ∧ ∀ (m : Nat) (l : List Sy35.Bound), m < i → tb[m]? = some l → ∃ x, bs[m]? = some x ∧ S x ∧ RowAt H' x (wayRow (Sy35.sum (l.getD bi none) bb) l (tb.getD bj [])))
      ⟨Same.new hD, [], rfl, upd_same, fun m l hm => absurd hm (Nat.not_lt_zero m)⟩ (fun i H' hi p => p.1.seq (SqL.of e1)) (fun i x H' hx p => ?_) (fun H' p => ?_)
    · obtain ⟨sm, bs, hb1, hb2, hb3⟩ := p
      rw [List.getElem?_map] at hx
      obtain ⟨c, hc, rfl⟩ : ∃ c, as[i]? = some c ∧ V.ref c = x := by
        cases e : as[i]? with
        | none => rw [e] at hx; cases hx
        | some c => rw [e] at hx; exact ⟨c, rfl, Option.some.inj hx⟩
      have hi : i < tb.length := by rw [← e2]; exact (List.getElem?_eq_some_iff.mp hc).1
      have hl : tb[i]? = some tb[i] := List.getElem?_eq_getElem hi
      obtain ⟨c', hc', hSc, hr1⟩ := e3 i _ hl
      rw [hc] at hc'
      cases hc'
      have hj : bj < tb.length := by rw [hs.len]; exact hbj
      have hlj : tb[bj]? = some tb[bj] := List.getElem?_eq_getElem hj
      obtain ⟨d, hd, _, hr2⟩ := e3 bj _ hlj
      have lr1 : tb[i].length = n := hs.row _ (List.getElem_mem hi)
      have lr2 : tb[bj].length = n := hs.row _ (List.getElem_mem hj)
      have gj : tb.getD bj [] = tb[bj] := by rw [List.getD_eq_getElem?_getD, hlj]; rfl
      refine ⟨rfl, tyes ⟨_, rfl, _, rfl, _, rfl, c, _, _, _, rfl, rfl, SqL.of (sm _ _ hr1), at_of (j := bi) rfl (row_get (by omega)), _, rfl, _, bb, rfl, _, rfl, _, rfl, ta, _, _, _, rfl, rfl, SqL.of (sm _ _ e1), at_of (j := bj) (v := V.ref d) rfl (by rw [List.getElem?_map, hd]; rfl), ?_⟩⟩
      refine ⟨S, c, d, _, _, _, rfl, hS.same sm, hSc, hr1.same sm, hr2.same sm, by omega, by omega, fun H4 p s4 hSp hp => ?_⟩
      refine ⟨_, s4 _ _ hb2, ?_, ?_, bs ++ [p], ?_, ?_, ?_⟩
      · rw [List.length_map, hb1]
        exact small_line (by have := hs.len; omega)
      · exact fun b o e => by rw [upd_ne (ne_of_none e hD)]; exact s4 _ _ (sm b o e)
      · rw [List.length_append, hb1]; rfl
      · rw [upd_same, List.map_append]; rfl
      · intro m l hm hml
        have keep : ∀ {x : Addr} {r : List Sy35.Bound}, RowAt H4 x r → 0 < r.length → RowAt (upd H4 D (.lst (bs.map V.ref ++ [V.ref p]))) x r := fun {x r} q hr => by
          show upd H4 D _ x = _
          rw [upd_ne (row_ne q (s4 _ _ hb2) refs_all hr)]
          exact q
        have hpos : ∀ l, l ∈ tb → ∀ b, 0 < (wayRow b l (tb.getD bj [])).length := fun l hl b => by
          rw [wayRow_length, hs.row l hl]
          omega
        by_cases hmi : m < i
        · obtain ⟨x, hx1, hx0, hx2⟩ := hb3 m l hmi hml
          exact ⟨x, by rw [List.getElem?_append_left (by omega)]; exact hx1, hx0, keep (hx2.same s4) (hpos l (List.mem_of_getElem? hml) _)⟩
        · have e : m = i := by omega
          subst e
          rw [hl] at hml
          cases hml
          refine ⟨p, by rw [List.getElem?_append_right (by omega), hb1]; simp, hSp, keep ?_ (hpos _ (List.getElem_mem hi) _)⟩
          rw [gj]
          exact hp
    · obtain ⟨sm, bs, hb1, hb2, hb3⟩ := p
      refine k H' D sm ⟨hS D hD, bs, hb2, ?_, fun m r hm => ?_⟩
      · rw [hb1, List.length_map, e2]; simp [wayTabB]
      · unfold wayTabB at hm
        rw [List.getElem?_map] at hm
        cases e : tb[m]? with
        | none => rw [e] at hm; cases hm
        | some l =>
          rw [e] at hm
          cases hm
          exact hb3 m l (by rw [List.length_map, e2]; exact (List.getElem?_eq_some_iff.mp e).1) e
end
end Ck
namespace Ck
open PySem PySem.Spec PyProof.Rows L2
structure ObjsAt {α : Type} (R : Hp → Addr → α → Prop) (H : Hp) (a : Addr) (xs : List α) : Prop where
  ex : ∃ as : List Addr, H a = some (.lst (as.map V.ref)) ∧ as.length = xs.length ∧ ∀ (i : Nat) (x : α), xs[i]? = some x → ∃ p, as[i]? = some p ∧ R H p x
def Stays {α : Type} (R : Hp → Addr → α → Prop) : Prop := ∀ H H' p x, Same H H' → R H p x → R H' p x
theorem ObjsAt.same {α : Type} {R : Hp → Addr → α → Prop} (hR : Stays R) {H H' : Hp} {a : Addr} {xs : List α} (h : ObjsAt R H a xs) (s : Same H H') : ObjsAt R H' a xs := by
  obtain ⟨as, h1, h2, h3⟩ := h.ex
  exact ⟨as, s _ _ h1, h2, fun i r e => let ⟨x, e1, e2⟩ := h3 i r e; ⟨x, e1, hR _ _ _ _ s e2⟩⟩
abbrev Ev := Sy35.Event × Nat
def evF (e : Ev) : List (Str × V) := [("clock", .int e.1.clock), ("era", .int e.1.era), ("reading", .int e.1.reading), ("instant", .int e.2)]
def EvAt (t : Adr) (H : Hp) (a : Addr) (e : Ev) : Prop := ∃ dx, H a = some (.ins t.c_Event dx (evF e))
theorem ev_stays (t : Adr) : Stays (EvAt t) := fun _ _ _ _ s ⟨dx, h⟩ => ⟨dx, s _ _ h⟩
def sgF (x : Sy35.Signal) : List (Str × V) := [("first", .int x.from_), ("second", .int x.to_), ("least", .int x.least), ("most", .int x.most), ("struck", .bl x.struck)]
def SigAt (t : Adr) (H : Hp) (a : Addr) (x : Sy35.Signal) : Prop := ∃ dx, H a = some (.ins t.c_Signal dx (sgF x))
theorem sig_stays (t : Adr) : Stays (SigAt t) := fun _ _ _ _ s ⟨dx, h⟩ => ⟨dx, s _ _ h⟩
abbrev nV (n : Nat) : V := .int (n : Int)
def IntsAt (H : Hp) (a : Addr) (ns : List Nat) : Prop := H a = some (.lst (ns.map nV))
def clockB (rates : List Nat) (e f : Ev) : Sy35.Bound :=
  if e.1.clock ≠ f.1.clock then none
  else if e.1.era = f.1.era then
    some (if 0 ≤ (f.1.reading : Int) - (e.1.reading : Int) then ((f.1.reading : Int) - (e.1.reading : Int)) * (Sy35.UNIT + ((rates.getD e.1.clock 0 : Nat) : Int)) else ((f.1.reading : Int) - (e.1.reading : Int)) * (Sy35.UNIT - ((rates.getD e.1.clock 0 : Nat) : Int)))
  else if f.1.era < e.1.era ∨ f.2 = e.2 then some 0 else none
structure RatesOk (rates : List Nat) (evs : List Ev) : Prop where
  rate : ∀ r ∈ rates, r ≤ 999999
  clk : ∀ e ∈ evs, e.1.clock < rates.length
theorem ints_get {ns : List Nat} {i : Nat} (h : i < ns.length) : (ns.map nV)[i]? = some (.int ((ns.getD i 0 : Nat) : Int)) := by
  rw [List.getElem?_map, List.getD_eq_getElem?_getD, List.getElem?_eq_getElem h]
  rfl
theorem getD_mem {ns : List Nat} {i : Nat} (h : i < ns.length) : ns.getD i 0 ∈ ns := by
  rw [List.getD_eq_getElem?_getD, List.getElem?_eq_getElem h]
  exact List.getElem_mem h
def spCB (t : Adr) : Sp := fun vs H Q _ => ∃ (ra ba oa : Addr) (rates : List Nat) (e f : Ev), vs = [.ref ra, .ref ba, .ref oa] ∧ IntsAt H ra rates ∧ EvAt t H ba e ∧ EvAt t H oa f ∧ (∀ r ∈ rates, r ≤ 999999) ∧ e.1.clock < rates.length ∧
  Q (bV (clockB rates e f)) H
def spCRow (t : Adr) : Sp := fun vs H Q _ => ∃ (ra ba la : Addr) (rates : List Nat) (e : Ev) (evs : List Ev), vs = [.ref ra, .ref ba, .ref la] ∧ IntsAt H ra rates ∧ EvAt t H ba e ∧ ObjsAt (EvAt t) H la evs ∧ (∀ r ∈ rates, r ≤ 999999) ∧ e.1.clock < rates.length ∧ evs.length ≤ 100 ∧
  ∀ (H' : Hp) (p : Addr), Same H H' → H p = none → RowAt H' p (evs.map (clockB rates e)) → Q (.ref p) H'
def clockT0 (rates : List Nat) (evs : List Ev) : Sy35.Table := evs.map fun e => evs.map (clockB rates e)
def clockT (rates : List Nat) (evs : List Ev) : Sy35.Table := (List.range evs.length).foldl (fun t k => wayTab t k k 0) (clockT0 rates evs)
def spCTab (t : Adr) : Sp := fun vs H Q _ => ∃ (S : Addr → Prop) (ra la : Addr) (rates : List Nat) (evs : List Ev), vs = [.ref ra, .ref la] ∧ News S H ∧ IntsAt H ra rates ∧ ObjsAt (EvAt t) H la evs ∧ RatesOk rates evs ∧ evs.length ≤ 100 ∧
  ∀ (H' : Hp) (p : Addr), Same H H' → TabAt S H' p (clockT rates evs) → Q (.ref p) H'
section
variable {P : Program} {w : World} {K : PySem.W.Frag} {mg : Str → Option Value} {base : Heap} {t : Adr}
theorem ok_clock_bound (T : Txt K mg t) : FnOk P w K mg base CX0 2 t.f_clock_bound t.d_clock_bound ["rates", "base", "other"] (spCB t) := by
  refine T.F_clock_bound.ok sc_clock_bound (fun vs H Q E h => ?_) (fun cdv A outer s H vs Q E hr h => ?_)
  · obtain ⟨_, _, _, _, _, _, rfl, _⟩ := h
    rfl
  · obtain ⟨ra, ba, oa, rates, e, f, rfl, h1, ⟨dx, h2⟩, ⟨dy, h3⟩, h4, h5, k⟩ := h
    refine ⟨_, (pss_cons (ps_if (pt_cmp (pc_neI (pe_fldK (K := K) rfl (pv 1) rfl) (pe_fldK (K := K) rfl (pv 2) rfl))) (pss_one (ps_ret pe_non)) pss_nil) (pss_cons (ps_if (pt_cmp (pc_eqI (pe_fldK (K := K) rfl (pv 1) rfl) (pe_fldK (K := K) rfl (pv 2) rfl))) (pss_one (ps_ret (pe_call (ok_era_bound T) hr rfl T.m_era_bound T.F_era_bound.kp T.b_era_bound .nil pass0 (pa_cons (pe_ix (ixL (K := K) rfl) (pv 0) (pe_fldK (K := K) rfl (pv 1) rfl) (fun _ _ => rfl)) (pa_cons (pe_op op_sub (pe_fldK (K := K) rfl (pv 2) rfl) (pe_fldK (K := K) rfl (pv 1) rfl)) pa_nil))))) pss_nil) (pss_cons (ps_if (PW.pt (pw_or (pt_cmp (pc_lt (pe_fldK (K := K) rfl (pv 2) rfl) (pe_fldK (K := K) rfl (pv 1) rfl))) (pw_or1 (pt_cmp (pc_eqI (pe_fldK (K := K) rfl (pv 2) rfl) (pe_fldK (K := K) rfl (pv 1) rfl)))))) (pss_one (ps_ret pe_int)) pss_nil) (pss_one (ps_ret pe_non))))), ?_⟩
    unfold clockB at k
    refine ⟨_, rfl, ba, _, dx, _, _, rfl, h2, T.cl_Event, T.n_Event_clock, rfl, _, rfl, oa, _, dy, _, _, rfl, h3, T.cl_Event, T.n_Event_clock, rfl, _, _, rfl, rfl, _, rfl, ite2 (fun h => ?_) (fun h => ?_)⟩
    · rw [if_pos (by intro z; rw [z] at h; simp at h)] at k
      exact k
    · have hc : e.1.clock = f.1.clock := by simp at h; omega
      rw [if_neg (by simp [hc])] at k
      refine ⟨_, rfl, ba, _, dx, _, _, rfl, h2, T.cl_Event, T.n_Event_era, rfl, _, rfl, oa, _, dy, _, _, rfl, h3, T.cl_Event, T.n_Event_era, rfl, _, _, rfl, rfl, _, rfl, ite2 (fun h => ?_) (fun h => ?_)⟩
      · have he : e.1.era = f.1.era := by simp at h; omega
        rw [if_pos he] at k
        have hm := h4 _ (getD_mem h5)
        refine ⟨_, rfl, _, rfl, ba, _, dx, _, _, rfl, h2, T.cl_Event, T.n_Event_clock, rfl, ra, _, _, _, rfl, rfl, SqL.of h1, at_of (j := e.1.clock) rfl (ints_get h5), _, rfl, oa, _, dy, _, _, rfl, h3, T.cl_Event, T.n_Event_reading, rfl, _, rfl, ba, _, dx, _, _, rfl, h2, T.cl_Event, T.n_Event_reading, rfl, _, _, rfl, rfl, _, _, rfl, by omega, by omega, k⟩
      · have he : ¬ e.1.era = f.1.era := by simp at h; omega
        rw [if_neg he] at k
        refine ⟨_, rfl, oa, _, dy, _, _, rfl, h3, T.cl_Event, T.n_Event_era, rfl, _, rfl, ba, _, dx, _, _, rfl, h2, T.cl_Event, T.n_Event_era, rfl, _, _, rfl, rfl, _, rfl, ite2 (fun h => ?_) (fun h => ?_)⟩
        · rw [if_pos (.inl (by simp at h; omega))] at k
          exact iteT k
        · refine ⟨_, rfl, oa, _, dy, _, _, rfl, h3, T.cl_Event, T.n_Event_instant, rfl, _, rfl, ba, _, dx, _, _, rfl, h2, T.cl_Event, T.n_Event_instant, rfl, _, _, rfl, rfl, _, rfl, ite2 (fun h' => ?_) (fun h' => ?_)⟩
          · rw [if_pos (.inr (by simp at h'; omega))] at k
            exact k
          · rw [if_neg (by simp at h h'; omega)] at k
            exact k
theorem ok_clock_row (T : Txt K mg t) : FnOk P w K mg base CX0 3 t.f_clock_row t.d_clock_row ["rates", "base", "events"] (spCRow t) := by
  refine T.F_clock_row.ok sc_clock_row (fun vs H Q E h => ?_) (fun cdv A outer s H vs Q E hr h => ?_)
  · obtain ⟨_, _, _, _, _, _, rfl, _⟩ := h
    rfl
  · obtain ⟨ra, ba, la, rates, e, evs, rfl, h1, h2, h3, h4, h5, h6, k⟩ := h
    obtain ⟨as, e1, e2, e3⟩ := h3.ex
    refine ⟨_, (pss_one (ps_ret (pe_lc rfl sc_clock_row.nd (pi_list (pv 2)) (blkOk_by (N := ["rates", "base", "events", "other"]) (sc := defScope s_clock_row) (own := [("other", 3)]) (by decide +kernel)) (fun _ _ _ _ _ => (pg_name (i := 3) sc_clock_row.nd rfl (Or.inl rfl))) (fun _ _ _ _ _ => pts_nil) (fun _ _ _ _ _ => (pe_call (ok_clock_bound T) hr rfl T.m_clock_bound T.F_clock_bound.kp T.b_clock_bound .nil pass0 (pa_cons (pv 0) (pa_cons (pv 1) (pa_cons (pv 3) pa_nil)))))))), ?_⟩
    refine ⟨_, rfl, la, rfl, ⟨_, SqL.of e1⟩, fun D hD => ?_⟩
    refine lc_list (K := K) (a := la) (xs := as.map V.ref) (fun i H' => Same H H' ∧ H' D = some (.lst (((evs.take i).map (clockB rates e)).map bV))) ⟨Same.new hD, upd_same⟩ (fun i H' hi p => p.1.seq (SqL.of e1)) (fun i x H' hx p => ?_) (fun H' p => ?_)
    · obtain ⟨sm, hq⟩ := p
      rw [List.getElem?_map] at hx
      obtain ⟨c, hc, rfl⟩ : ∃ c, as[i]? = some c ∧ V.ref c = x := by
        cases e : as[i]? with
        | none => rw [e] at hx; cases hx
        | some c => rw [e] at hx; exact ⟨c, rfl, Option.some.inj hx⟩
      have hi : i < evs.length := by rw [← e2]; exact (List.getElem?_eq_some_iff.mp hc).1
      obtain ⟨c', hc', he⟩ := e3 i _ (List.getElem?_eq_getElem hi)
      rw [hc] at hc'
      cases hc'
      refine ⟨rfl, tyes ⟨_, rfl, _, rfl, _, rfl, ra, ba, c, rates, e, evs[i], rfl, sm _ _ h1, ev_stays t _ _ _ _ sm h2, ev_stays t _ _ _ _ sm he, h4, h5, _, hq, ?_, ?_, ?_⟩⟩
      · rw [List.length_map, List.length_map, List.length_take]
        exact small_line (by omega)
      · exact fun b o e => by rw [upd_ne (ne_of_none e hD)]; exact sm b o e
      · rw [upd_same, List.take_add_one, List.getElem?_eq_getElem hi, List.map_append, List.map_append]
        rfl
    · obtain ⟨sm, hq⟩ := p
      rw [List.length_map, e2, List.take_length] at hq
      exact k H' D sm hD hq
end
end Ck
namespace Ck
open PySem PySem.Spec PyProof.Rows L2
theorem ref_at {as : List Addr} {i : Nat} {x : V} (h : (as.map V.ref)[i]? = some x) : ∃ c, as[i]? = some c ∧ x = V.ref c := by
  rw [List.getElem?_map] at h
  cases e : as[i]? with
  | none => rw [e] at h; cases h
  | some c => rw [e] at h; exact ⟨c, rfl, (Option.some.inj h).symm⟩
theorem at_ref {as : List Addr} {i : Nat} {c : Addr} (h : as[i]? = some c) : (as.map V.ref)[i]? = some (V.ref c) := by
  rw [List.getElem?_map, h]
  rfl
theorem ObjsAt.get {α : Type} {R : Hp → Addr → α → Prop} {H : Hp} {a : Addr} {xs : List α} (h : ObjsAt R H a xs) {i : Nat} (hi : i < xs.length) : ∃ as p, H a = some (.lst as) ∧ as[i]? = some (V.ref p) ∧ R H p xs[i] := by
  obtain ⟨as, h1, h2, h3⟩ := h.ex
  obtain ⟨p, e1, e2⟩ := h3 i _ (List.getElem?_eq_getElem hi)
  exact ⟨_, p, h1, at_ref e1, e2⟩
theorem TabAt.get {S : Addr → Prop} {H : Hp} {a : Addr} {n : Nat} {tb : Sy35.Table} (h : TabAt S H a tb) (hs : Sq n tb) {i j : Nat} (hi : i < n) (hj : j < n) :
    ∃ as p rs, H a = some (.lst as) ∧ as[i]? = some (V.ref p) ∧ H p = some (.lst rs) ∧ rs[j]? = some (bV (Sy35.entry tb i j)) := by
  obtain ⟨as, h1, h2, h3⟩ := h.ex
  have hi' : i < tb.length := by rw [hs.len]; exact hi
  have e0 : tb[i]? = some tb[i] := List.getElem?_eq_getElem hi'
  obtain ⟨p, e1, _, e2⟩ := h3 i _ e0
  refine ⟨_, p, _, h1, at_ref e1, e2, ?_⟩
  have q : tb.getD i [] = tb[i] := by rw [List.getD_eq_getElem?_getD, e0]; rfl
  unfold Sy35.entry
  rw [q]
  exact row_get (by rw [hs.row _ (List.getElem_mem hi')]; exact hj)
theorem clockT0_sq (rates : List Nat) (evs : List Ev) : Sq evs.length (clockT0 rates evs) := by
  refine ⟨by simp [clockT0], fun r hr => ?_⟩
  obtain ⟨e, _, rfl⟩ := List.mem_map.mp hr
  simp
theorem foldSq {n : Nat} (l : List Nat) : ∀ {t : Sy35.Table}, Sq n t → Sq n (l.foldl (fun t k => wayTab t k k 0) t) := by
  induction l with
  | nil => intro t h; exact h
  | cons k l ih => intro t h; exact ih (wayTab_sq h k k 0)
theorem clockT_sq (rates : List Nat) (evs : List Ev) : Sq evs.length (clockT rates evs) := foldSq _ (clockT0_sq rates evs)
def spLater : Sp := fun vs H Q _ => ∃ (S : Addr → Prop) (ta : Addr) (n : Nat) (tb : Sy35.Table) (i j : Nat), vs = [.ref ta, .int i, .int j] ∧ TabAt S H ta tb ∧ Sq n tb ∧ i < n ∧ j < n ∧ Q (bV ((Sy35.entry tb j i).map fun x => -x)) H
def spFits (t : Adr) : Sp := fun vs H Q _ => ∃ (S : Addr → Prop) (ta xa : Addr) (n : Nat) (tb : Sy35.Table) (x : Sy35.Signal), vs = [.ref ta, .ref xa] ∧ TabAt S H ta tb ∧ Sq n tb ∧ SigAt t H xa x ∧ x.from_ < n ∧ x.to_ < n ∧
  Q (.bl (!Sy35.tooSoon tb x && !Sy35.tooLate tb x)) H
def waySig (tb : Sy35.Table) (x : Sy35.Signal) : Sy35.Table := wayTab (wayTab tb x.from_ x.to_ x.most) x.to_ x.from_ (-(x.least : Int))
def spWSig (t : Adr) : Sp := fun vs H Q _ => ∃ (S : Addr → Prop) (ta xa : Addr) (n : Nat) (tb : Sy35.Table) (x : Sy35.Signal), vs = [.ref ta, .ref xa] ∧ News S H ∧ TabAt S H ta tb ∧ Sq n tb ∧ n ≤ 100 ∧ SigAt t H xa x ∧ x.from_ < n ∧ x.to_ < n ∧
  ∀ (H' : Hp) (p : Addr), Same H H' → TabAt S H' p (waySig tb x) → Q (.ref p) H'
structure OwnAt (H0 H : Hp) (a : Addr) (t : Sy35.Table) : Prop where
  new : H0 a = none
  ex : ∃ as : List Addr, H a = some (.lst (as.map V.ref)) ∧ as.length = t.length ∧ as.Nodup ∧ ∀ (i : Nat) (r : List Sy35.Bound), t[i]? = some r → ∃ x, as[i]? = some x ∧ H0 x = none ∧ RowAt H x r
theorem OwnAt.tab {S : Addr → Prop} {H0 H : Hp} {a : Addr} {t : Sy35.Table} (h : OwnAt H0 H a t) (hS : News S H0) : TabAt S H a t := by
  obtain ⟨as, h1, h2, _, h3⟩ := h.ex
  exact ⟨hS _ h.new, as, h1, h2, fun i r e => let ⟨x, e1, e0, e2⟩ := h3 i r e; ⟨x, e1, hS _ e0, e2⟩⟩
def spOwnC (t : Adr) : Sp := fun vs H Q _ => ∃ (ra la : Addr) (rates : List Nat) (evs : List Ev), vs = [.ref ra, .ref la] ∧ IntsAt H ra rates ∧ ObjsAt (EvAt t) H la evs ∧ RatesOk rates evs ∧ evs.length ≤ 100 ∧
  ∀ (H' : Hp) (p : Addr), Same H H' → OwnAt H H' p (clockT0 rates evs) → Q (.ref p) H'
def spBefore : Sp := fun vs H Q _ => ∃ (S : Addr → Prop) (ta : Addr) (n : Nat) (tb : Sy35.Table) (i j : Nat), vs = [.ref ta, .int i, .int j] ∧ TabAt S H ta tb ∧ Sq n tb ∧ i < n ∧ j < n ∧ Q (.bl ((Sy35.entry tb j i).any fun x => decide (x < 0))) H
def spOnceB : Sp := fun vs H Q _ => ∃ (S : Addr → Prop) (ta : Addr) (n : Nat) (tb : Sy35.Table) (i j : Nat), vs = [.ref ta, .int i, .int j] ∧ TabAt S H ta tb ∧ Sq n tb ∧ i < n ∧ j < n ∧ Q (.bl (decide (Sy35.entry tb i j = some 0) && decide (Sy35.entry tb j i = some 0))) H
def fitsB (tb : Sy35.Table) (i j : Nat) (b : Sy35.Bound) : Bool := match Sy35.sum (Sy35.entry tb j i) b with
  | none => true
  | some x => decide (0 ≤ x)
def spBFits : Sp := fun vs H Q _ => ∃ (S : Addr → Prop) (ta : Addr) (n : Nat) (tb : Sy35.Table) (i j : Nat) (b : Sy35.Bound), vs = [.ref ta, .int i, .int j, bV b] ∧ TabAt S H ta tb ∧ Sq n tb ∧ i < n ∧ j < n ∧ Q (.bl (fitsB tb i j b)) H
def spLFits (t : Adr) : Sp := fun vs H Q _ => ∃ (S : Addr → Prop) (ta xa : Addr) (n : Nat) (tb : Sy35.Table) (x : Sy35.Signal), vs = [.ref ta, .ref xa] ∧ TabAt S H ta tb ∧ Sq n tb ∧ SigAt t H xa x ∧ x.from_ < n ∧ x.to_ < n ∧
  Q (.bl (!Sy35.tooSoon tb x)) H
theorem not_lt_dec {a b : Int} : (!decide (a < b)) = decide (b ≤ a) := by
  by_cases z : a < b
  · rw [decide_eq_true z, decide_eq_false (by omega)]; rfl
  · rw [decide_eq_false z, decide_eq_true (by omega)]; rfl
theorem fits_soon {tb : Sy35.Table} {x : Sy35.Signal} : fitsB tb x.to_ x.from_ (some (-(x.least : Int))) = !Sy35.tooSoon tb x := by
  unfold fitsB Sy35.tooSoon
  cases Sy35.entry tb x.from_ x.to_ with
  | none => rfl
  | some y =>
    show decide (0 ≤ y + -(x.least : Int)) = !decide (y < (x.least : Int))
    rw [not_lt_dec]
    by_cases z : (x.least : Int) ≤ y
    · rw [decide_eq_true z, decide_eq_true (by omega)]
    · rw [decide_eq_false z, decide_eq_false (by omega)]
theorem fits_late {tb : Sy35.Table} {x : Sy35.Signal} : fitsB tb x.from_ x.to_ (some (x.most : Int)) = !Sy35.tooLate tb x := by
  unfold fitsB Sy35.tooLate
  cases Sy35.entry tb x.to_ x.from_ with
  | none => rfl
  | some y =>
    show decide (0 ≤ y + (x.most : Int)) = !decide (y + (x.most : Int) < 0)
    rw [not_lt_dec]
theorem bV_scal {a : Sy35.Bound} {i : Int} : scal (bV a) (.int i) = true := by cases a <;> rfl
theorem bV_is {a : Sy35.Bound} {i : Int} (h : bV a = .int i) : a = some i := by
  cases a with
  | none => cases h
  | some x => injection h with h; rw [h]
theorem bV_dec {a : Sy35.Bound} {i : Int} : decide (bV a = .int i) = decide (a = some i) := by
  by_cases z : a = some i
  · rw [decide_eq_true z, decide_eq_true (by rw [z]; rfl)]
  · rw [decide_eq_false z, decide_eq_false (fun q => z (bV_is q))]
theorem d_t' {p : Prop} [Decidable p] (h : decide p = true) : p := of_decide_eq_true h
section
variable {P : Program} {w : World} {K : PySem.W.Frag} {mg : Str → Option Value} {base : Heap} {t : Adr}
theorem ok_own_clock_bounds (T : Txt K mg t) : FnOk P w K mg base CX0 4 t.f_own_clock_bounds t.d_own_clock_bounds ["rates", "events"] (spOwnC t) := by
  refine T.F_own_clock_bounds.ok sc_own_clock_bounds (fun vs H Q E h => ?_) (fun cdv A outer s H vs Q E hr h => ?_)
  · obtain ⟨_, _, _, _, rfl, _⟩ := h
    rfl
  · obtain ⟨ra, la, rates, evs, rfl, h1, h2, h3, h4, k⟩ := h
    obtain ⟨as, e1, e2, e3⟩ := h2.ex
    refine ⟨_, (pss_one (ps_ret (pe_lc rfl sc_own_clock_bounds.nd (pi_list (pv 1)) (blkOk_by (N := ["rates", "events", "base"]) (sc := defScope s_own_clock_bounds) (own := [("base", 2)]) (by decide +kernel)) (fun _ _ _ _ _ => (pg_name (i := 2) sc_own_clock_bounds.nd rfl (Or.inl rfl))) (fun _ _ _ _ _ => pts_nil) (fun _ _ _ _ _ => (pe_call (ok_clock_row T) hr rfl T.m_clock_row T.F_clock_row.kp T.b_clock_row .nil pass0 (pa_cons (pv 0) (pa_cons (pv 2) (pa_cons (pv 1) pa_nil)))))))), ?_⟩
    refine ⟨_, rfl, la, rfl, ⟨_, SqL.of e1⟩, fun D hD => ?_⟩
    refine lc_list (K := K) (a := la) (xs := as.map V.ref) (fun i H' => Same H H' ∧ ∃ bs : List Addr, bs.length = i ∧ bs.Nodup ∧ H' D = some (.lst (bs.map V.ref)) ∧ (∀ x ∈ bs, H' x ≠ none) ∧ ∀ (m : Nat) (e : Ev), m < i → evs[m]? = some e → ∃ x, bs[m]? = some x ∧ H x = none ∧ RowAt H' x (evs.map (clockB rates e)))
      ⟨Same.new hD, [], rfl, List.nodup_nil, upd_same, fun x hx => (by cases hx), fun m l hm => absurd hm (Nat.not_lt_zero m)⟩ (fun i H' hi p => p.1.seq (SqL.of e1)) (fun i x H' hx p => ?_) (fun H' p => ?_)
    · obtain ⟨sm, bs, hb1, hbn, hb2, hbx, hb3⟩ := p
      obtain ⟨c, hc, rfl⟩ := ref_at hx
      have hi : i < evs.length := by rw [← e2]; exact (List.getElem?_eq_some_iff.mp hc).1
      have hl : evs[i]? = some evs[i] := List.getElem?_eq_getElem hi
      obtain ⟨c', hc', he⟩ := e3 i _ hl
      rw [hc] at hc'
      cases hc'
      refine ⟨rfl, tyes ⟨_, rfl, _, rfl, _, rfl, ra, c, la, rates, evs[i], evs, rfl, sm _ _ h1, ev_stays t _ _ _ _ sm he, h2.same (ev_stays t) sm, h3.rate, h3.clk _ (List.getElem_mem hi), h4, fun H4 p s4 hSp hp => ?_⟩⟩
      refine ⟨_, s4 _ _ hb2, ?_, ?_, bs ++ [p], ?_, ?_, ?_, ?_, ?_⟩
      · rw [List.length_map, hb1]
        exact small_line (by omega)
      · exact fun b o e => by rw [upd_ne (ne_of_none e hD)]; exact s4 _ _ (sm b o e)
      · rw [List.length_append, hb1]; rfl
      · refine List.nodup_append.mpr ⟨hbn, by simp, fun x hx y hy => ?_⟩
        rw [List.mem_singleton.mp hy]
        exact fun z => hbx x hx (by rw [z]; exact hSp)
      · rw [upd_same, List.map_append]; rfl
      · intro x hx
        by_cases z : x = D
        · rw [z, upd_same]; exact fun q => by cases q
        · rw [upd_ne z]
          rcases List.mem_append.mp hx with q | q
          · cases e : H' x with
            | none => exact absurd e (hbx x q)
            | some o => rw [s4 _ _ e]; exact fun q => by cases q
          · rw [List.mem_singleton.mp q]
            have hp : H4 p = _ := hp
            rw [hp]; exact fun q => by cases q
      · intro m l hm hml
        have keep : ∀ {x : Addr} {r : List Sy35.Bound}, RowAt H4 x r → 0 < r.length → RowAt (upd H4 D (.lst (bs.map V.ref ++ [V.ref p]))) x r := fun {x r} q hr => by
          show upd H4 D _ x = _
          rw [upd_ne (row_ne q (s4 _ _ hb2) refs_all hr)]
          exact q
        have hpos : ∀ e, 0 < (evs.map (clockB rates e)).length := fun e => by rw [List.length_map]; omega
        by_cases hmi : m < i
        · obtain ⟨x, hx1, hx0, hx2⟩ := hb3 m l hmi hml
          exact ⟨x, by rw [List.getElem?_append_left (by omega)]; exact hx1, hx0, keep (hx2.same s4) (hpos _)⟩
        · have e : m = i := by omega
          subst e
          rw [hl] at hml
          cases hml
          exact ⟨p, by rw [List.getElem?_append_right (by omega), hb1]; simp, sm.free hSp, keep hp (hpos _)⟩
    · obtain ⟨sm, bs, hb1, hbn, hb2, hbx, hb3⟩ := p
      rw [List.length_map, e2] at hb1 hb3
      refine k H' D sm ⟨hD, bs, hb2, by rw [hb1]; simp [clockT0], hbn, fun m r hm => ?_⟩
      unfold clockT0 at hm
      rw [List.getElem?_map] at hm
      cases e : evs[m]? with
      | none => rw [e] at hm; cases hm
      | some l =>
        rw [e] at hm
        cases hm
        exact hb3 m l (List.getElem?_eq_some_iff.mp e).1 e
theorem ok_clock_table (T : Txt K mg t) : FnOk P w K mg base CX0 5 t.f_clock_table t.d_clock_table ["rates", "events"] (spCTab t) := by
  refine T.F_clock_table.ok sc_clock_table (fun vs H Q E h => ?_) (fun cdv A outer s H vs Q E hr h => ?_)
  · obtain ⟨_, _, _, _, _, rfl, _⟩ := h
    rfl
  · obtain ⟨S, ra, la, rates, evs, rfl, hS, h1, h2, h3, h4, k⟩ := h
    obtain ⟨as, e1, e2, e3⟩ := h2.ex
    refine ⟨_, (pss_cons (ps_set (i := 2) sc_clock_table.nd rfl (Or.inl rfl) (pe_call (ok_own_clock_bounds T) hr rfl T.m_own_clock_bounds T.F_own_clock_bounds.kp T.b_own_clock_bounds .nil pass0 (pa_cons (pv 0) (pa_cons (pv 1) pa_nil)))) (pss_cons (ps_for PassesOwn.never rfl (pi_range1 rfl T.z_range (pa_cons (pe_callB (call_lenK (K := K) rfl) (by rfl) T.z_len PySem.boot_len (pa_cons (pv 1) pa_nil)) pa_nil)) (pg_name (i := 3) sc_clock_table.nd rfl (Or.inl rfl)) (pss_one (ps_set (i := 2) sc_clock_table.nd rfl (Or.inl rfl) (pe_call (ok_with_bound T) (hr.mono (by decide)) rfl T.m_with_bound T.F_with_bound.kp T.b_with_bound .nil pass0 (pa_cons (pv 2) (pa_cons (pv 3) (pa_cons (pv 3) (pa_cons pe_int pa_nil)))))))) (pss_one (ps_ret (pv 2))))), ?_⟩
    refine ⟨_, rfl, _, rfl, ra, la, rates, evs, rfl, h1, h2, h3, h4, fun H' D sm t0 => ?_⟩
    have t0 := t0.tab hS
    refine ⟨_, rfl, la, _, rfl, .inl (SqL.of (sm _ _ e1)), _, rfl, (by omega), (by rw [List.length_map]; omega), for_range (fun i σ H2 => ∃ (v : Option V) (p : Addr), σ = [some (.ref ra), some (.ref la), some (.ref p), v] ∧ Same H H2 ∧ TabAt S H2 p ((List.range i).foldl (fun t k => wayTab t k k 0) (clockT0 rates evs)))
      ⟨none, D, rfl, sm, t0⟩ (fun i σ H2 hi p => ?_) (fun σ H2 p => ?_)⟩
    · obtain ⟨v, p, rfl, s2, h⟩ := p
      have hi' : i < evs.length := by
        have := hi
        rw [List.length_map] at this
        omega
      refine ⟨_, rfl, _, rfl, _, rfl, S, p, evs.length, _, i, i, some 0, ?_, hS.same s2, h, foldSq _ (clockT0_sq rates evs), h4, hi', hi', fun H3 p3 s3 h3 => ⟨_, p3, rfl, s2.trans s3, ?_⟩⟩
      · rw [Int.zero_add]
        rfl
      · rw [List.range_succ, List.foldl_append]
        exact h3
    · obtain ⟨v, p, rfl, s2, h⟩ := p
      refine ⟨_, rfl, k _ _ s2 ?_⟩
      unfold clockT
      rw [List.length_map] at h
      rw [← e2]
      exact h
theorem ok_least_later (T : Txt K mg t) : FnOk P w K mg base CX0 1 t.f_least_later t.d_least_later ["table", "base", "other"] spLater := by
  refine T.F_least_later.ok sc_least_later (fun vs H Q E h => ?_) (fun cdv A outer s H vs Q E hr h => ?_)
  · obtain ⟨_, _, _, _, _, _, rfl, _⟩ := h
    rfl
  · obtain ⟨S, ta, n, tb, i, j, rfl, h1, h2, hi, hj, k⟩ := h
    obtain ⟨as, p, rs, q1, q2, q3, q4⟩ := h1.get h2 hj hi
    refine ⟨_, (pss_cons (ps_set (i := 3) sc_least_later.nd rfl (Or.inl rfl) (pe_ix (ixL (K := K) rfl) (pe_ix (ixL (K := K) rfl) (pv 0) (pv 2) (fun _ _ => rfl)) (pv 1) (fun _ _ => rfl))) (pss_cons (ps_if (pt_cmp (pc_isN (pv 3))) (pss_one (ps_ret pe_non)) pss_nil) (pss_one (ps_ret (pe_un un_neg (pv 3)))))), ?_⟩
    refine ⟨_, rfl, _, rfl, ta, _, _, _, rfl, rfl, SqL.of q1, at_of (j := j) rfl q2, _, rfl, p, _, _, _, rfl, rfl, SqL.of q3, at_of (j := i) rfl q4, ?_⟩
    cases e : Sy35.entry tb j i with
    | none =>
      rw [e] at k
      exact ⟨_, rfl, _, rfl, iteT k⟩
    | some x =>
      rw [e] at k
      exact ⟨_, rfl, _, rfl, iteF ⟨_, rfl, _, rfl, k⟩⟩
theorem ok_surely_before (T : Txt K mg t) : FnOk P w K mg base CX0 1 t.f_surely_before t.d_surely_before ["table", "base", "other"] spBefore := by
  refine T.F_surely_before.ok sc_surely_before (fun vs H Q E h => ?_) (fun cdv A outer s H vs Q E hr h => ?_)
  · obtain ⟨_, _, _, _, _, _, rfl, _⟩ := h
    rfl
  · obtain ⟨S, ta, n, tb, i, j, rfl, h1, h2, hi, hj, k⟩ := h
    obtain ⟨as, p, rs, q1, q2, q3, q4⟩ := h1.get h2 hj hi
    refine ⟨_, (pss_cons (ps_set (i := 3) sc_surely_before.nd rfl (Or.inl rfl) (pe_ix (ixL (K := K) rfl) (pe_ix (ixL (K := K) rfl) (pv 0) (pv 2) (fun _ _ => rfl)) (pv 1) (fun _ _ => rfl))) (pss_one (ps_ret (pe_and (pe_cmp (pc_notN (pv 3))) (pe_one (pe_cmp (pc_lt (pv 3) pe_int))))))), ?_⟩
    refine ⟨_, rfl, _, rfl, ta, _, _, _, rfl, rfl, SqL.of q1, at_of (j := j) rfl q2, _, rfl, p, _, _, _, rfl, rfl, SqL.of q3, at_of (j := i) rfl q4, ?_⟩
    cases e : Sy35.entry tb j i with
    | none =>
      rw [e] at k
      exact ⟨_, rfl, _, rfl, iteF k⟩
    | some x =>
      rw [e] at k
      exact ⟨_, rfl, _, rfl, iteT ⟨_, rfl, _, _, rfl, rfl, k⟩⟩
theorem ok_surely_at_once (T : Txt K mg t) : FnOk P w K mg base CX0 1 t.f_surely_at_once t.d_surely_at_once ["table", "base", "other"] spOnceB := by
  refine T.F_surely_at_once.ok sc_surely_at_once (fun vs H Q E h => ?_) (fun cdv A outer s H vs Q E hr h => ?_)
  · obtain ⟨_, _, _, _, _, _, rfl, _⟩ := h
    rfl
  · obtain ⟨S, ta, n, tb, i, j, rfl, h1, h2, hi, hj, k⟩ := h
    obtain ⟨as, p, rs, q1, q2, q3, q4⟩ := h1.get h2 hi hj
    obtain ⟨as', p', rs', q1', q2', q3', q4'⟩ := h1.get h2 hj hi
    refine ⟨_, (pss_one (ps_ret (pe_and (pe_cmpR op_eq (pe_ix (ixL (K := K) rfl) (pe_ix (ixL (K := K) rfl) (pv 0) (pv 1) (fun _ _ => rfl)) (pv 2) (fun _ _ => rfl)) pe_int (nomark _)) (pe_one (pe_cmpR op_eq (pe_ix (ixL (K := K) rfl) (pe_ix (ixL (K := K) rfl) (pv 0) (pv 2) (fun _ _ => rfl)) (pv 1) (fun _ _ => rfl)) pe_int (nomark _)))))), ?_⟩
    refine ⟨_, rfl, _, rfl, ta, _, _, _, rfl, rfl, SqL.of q1, at_of (j := i) rfl q2, _, rfl, p, _, _, _, rfl, rfl, SqL.of q3, at_of (j := j) rfl q4, bV_scal, _, rfl, ite2 (fun h => ?_) (fun h => ?_)⟩
    · refine ⟨_, rfl, _, rfl, ta, _, _, _, rfl, rfl, SqL.of q1', at_of (j := j) rfl q2', _, rfl, p', _, _, _, rfl, rfl, SqL.of q3', at_of (j := i) rfl q4', bV_scal, ?_⟩
      have h : Sy35.entry tb i j = some 0 := bV_is (d_t' h)
      rw [decide_eq_true h, Bool.true_and] at k
      rw [bV_dec]
      exact k
    · rw [decide_eq_false (fun z => h (decide_eq_true (by rw [z]; rfl))), Bool.false_and] at k
      exact k
theorem ok_bound_fits (T : Txt K mg t) : FnOk P w K mg base CX0 2 t.f_bound_fits t.d_bound_fits ["table", "base", "other", "most"] spBFits := by
  refine T.F_bound_fits.ok sc_bound_fits (fun vs H Q E h => ?_) (fun cdv A outer s H vs Q E hr h => ?_)
  · obtain ⟨_, _, _, _, _, _, _, rfl, _⟩ := h
    rfl
  · obtain ⟨S, ta, n, tb, i, j, b, rfl, h1, h2, hi, hj, k⟩ := h
    obtain ⟨as, p, rs, q1, q2, q3, q4⟩ := h1.get h2 hj hi
    refine ⟨_, (pss_cons (ps_set (i := 4) sc_bound_fits.nd rfl (Or.inl rfl) (pe_call (ok_bound_sum T) hr rfl T.m_bound_sum T.F_bound_sum.kp T.b_bound_sum .nil pass0 (pa_cons (pe_ix (ixL (K := K) rfl) (pe_ix (ixL (K := K) rfl) (pv 0) (pv 2) (fun _ _ => rfl)) (pv 1) (fun _ _ => rfl)) (pa_cons (pv 3) pa_nil)))) (pss_one (ps_ret (pe_or (pe_cmp (pc_isN (pv 4))) (pe_one (pe_cmp (pc_ge (pv 4) pe_int))))))), ?_⟩
    refine ⟨_, rfl, _, rfl, ta, _, _, _, rfl, rfl, SqL.of q1, at_of (j := j) rfl q2, _, rfl, p, _, _, _, rfl, rfl, SqL.of q3, at_of (j := i) rfl q4, _, rfl, _, b, rfl, ?_⟩
    unfold fitsB at k
    cases e : Sy35.sum (Sy35.entry tb j i) b with
    | none =>
      rw [e] at k
      exact ⟨_, rfl, _, rfl, iteT k⟩
    | some x =>
      rw [e] at k
      exact ⟨_, rfl, _, rfl, iteF ⟨_, rfl, _, _, rfl, rfl, k⟩⟩
theorem ok_least_fits (T : Txt K mg t) : FnOk P w K mg base CX0 3 t.f_least_fits t.d_least_fits ["table", "signal"] (spLFits t) := by
  refine T.F_least_fits.ok sc_least_fits (fun vs H Q E h => ?_) (fun cdv A outer s H vs Q E hr h => ?_)
  · obtain ⟨_, _, _, _, _, _, rfl, _⟩ := h
    rfl
  · obtain ⟨S, ta, xa, n, tb, x, rfl, h1, h2, ⟨dx, h3⟩, hi, hj, k⟩ := h
    refine ⟨_, (pss_one (ps_ret (pe_call (ok_bound_fits T) hr rfl T.m_bound_fits T.F_bound_fits.kp T.b_bound_fits .nil pass0 (pa_cons (pv 0) (pa_cons (pe_fldK (K := K) rfl (pv 1) rfl) (pa_cons (pe_fldK (K := K) rfl (pv 1) rfl) (pa_cons (pe_un un_neg (pe_fldK (K := K) rfl (pv 1) rfl)) pa_nil))))))), ?_⟩
    refine ⟨_, rfl, _, rfl, xa, _, dx, _, _, rfl, h3, T.cl_Signal, T.n_Signal_second, rfl, _, rfl, xa, _, dx, _, _, rfl, h3, T.cl_Signal, T.n_Signal_first, rfl, _, rfl, xa, _, dx, _, _, rfl, h3, T.cl_Signal, T.n_Signal_least, rfl, _, rfl, S, ta, n, tb, x.to_, x.from_, some (-(x.least : Int)), rfl, h1, h2, hj, hi, ?_⟩
    rw [fits_soon]
    exact k
theorem ok_signal_fits (T : Txt K mg t) : FnOk P w K mg base CX0 4 t.f_signal_fits t.d_signal_fits ["table", "signal"] (spFits t) := by
  refine T.F_signal_fits.ok sc_signal_fits (fun vs H Q E h => ?_) (fun cdv A outer s H vs Q E hr h => ?_)
  · obtain ⟨_, _, _, _, _, _, rfl, _⟩ := h
    rfl
  · obtain ⟨S, ta, xa, n, tb, x, rfl, h1, h2, ⟨dx, h3⟩, hi, hj, k⟩ := h
    refine ⟨_, (pss_one (ps_ret (pe_and (pe_call (ok_least_fits T) hr rfl T.m_least_fits T.F_least_fits.kp T.b_least_fits .nil pass0 (pa_cons (pv 0) (pa_cons (pv 1) pa_nil))) (pe_one (pe_call (ok_bound_fits T) (hr.mono (by decide)) rfl T.m_bound_fits T.F_bound_fits.kp T.b_bound_fits .nil pass0 (pa_cons (pv 0) (pa_cons (pe_fldK (K := K) rfl (pv 1) rfl) (pa_cons (pe_fldK (K := K) rfl (pv 1) rfl) (pa_cons (pe_fldK (K := K) rfl (pv 1) rfl) pa_nil))))))))), ?_⟩
    refine ⟨_, rfl, _, rfl, S, ta, xa, n, tb, x, rfl, h1, h2, ⟨dx, h3⟩, hi, hj, _, rfl, ite2 (fun h => ?_) (fun h => ?_)⟩
    · rw [h, Bool.true_and] at k
      refine ⟨_, rfl, _, rfl, xa, _, dx, _, _, rfl, h3, T.cl_Signal, T.n_Signal_first, rfl, _, rfl, xa, _, dx, _, _, rfl, h3, T.cl_Signal, T.n_Signal_second, rfl, _, rfl, xa, _, dx, _, _, rfl, h3, T.cl_Signal, T.n_Signal_most, rfl, S, ta, n, tb, x.from_, x.to_, some (x.most : Int), rfl, h1, h2, hi, hj, ?_⟩
      rw [fits_late]
      exact k
    · have h : (!Sy35.tooSoon tb x) = false := by cases e : (!Sy35.tooSoon tb x) with
        | true => exact absurd e h
        | false => rfl
      rw [h, Bool.false_and] at k
      exact k
theorem ok_with_signal (T : Txt K mg t) : FnOk P w K mg base CX0 4 t.f_with_signal t.d_with_signal ["table", "signal"] (spWSig t) := by
  refine T.F_with_signal.ok sc_with_signal (fun vs H Q E h => ?_) (fun cdv A outer s H vs Q E hr h => ?_)
  · obtain ⟨_, _, _, _, _, _, rfl, _⟩ := h
    rfl
  · obtain ⟨S, ta, xa, n, tb, x, rfl, hS, h1, h2, hn, ⟨dx, h3⟩, hi, hj, k⟩ := h
    refine ⟨_, (pss_cons (ps_set (i := 2) sc_with_signal.nd rfl (Or.inl rfl) (pe_call (ok_with_bound T) hr rfl T.m_with_bound T.F_with_bound.kp T.b_with_bound .nil pass0 (pa_cons (pv 0) (pa_cons (pe_fldK (K := K) rfl (pv 1) rfl) (pa_cons (pe_fldK (K := K) rfl (pv 1) rfl) (pa_cons (pe_fldK (K := K) rfl (pv 1) rfl) pa_nil)))))) (pss_one (ps_ret (pe_call (ok_with_bound T) hr rfl T.m_with_bound T.F_with_bound.kp T.b_with_bound .nil pass0 (pa_cons (pv 2) (pa_cons (pe_fldK (K := K) rfl (pv 1) rfl) (pa_cons (pe_fldK (K := K) rfl (pv 1) rfl) (pa_cons (pe_un un_neg (pe_fldK (K := K) rfl (pv 1) rfl)) pa_nil)))))))), ?_⟩
    refine ⟨_, rfl, _, rfl, xa, _, dx, _, _, rfl, h3, T.cl_Signal, T.n_Signal_first, rfl, _, rfl, xa, _, dx, _, _, rfl, h3, T.cl_Signal, T.n_Signal_second, rfl, _, rfl, xa, _, dx, _, _, rfl, h3, T.cl_Signal, T.n_Signal_most, rfl, S, ta, n, tb, x.from_, x.to_, some (x.most : Int), rfl, hS, h1, h2, hn, hi, hj, fun H1 p1 s1 t1 => ?_⟩
    have h3' := s1 _ _ h3
    refine ⟨_, rfl, _, rfl, xa, _, dx, _, _, rfl, h3', T.cl_Signal, T.n_Signal_second, rfl, _, rfl, xa, _, dx, _, _, rfl, h3', T.cl_Signal, T.n_Signal_first, rfl, _, rfl, xa, _, dx, _, _, rfl, h3', T.cl_Signal, T.n_Signal_least, rfl, _, rfl, S, p1, n, _, x.to_, x.from_, some (-(x.least : Int)), rfl, hS.same s1, t1, wayTab_sq h2 _ _ _, hn, hj, hi, fun H2 p2 s2 t2 => k H2 p2 (s1.trans s2) t2⟩
end
end Ck
namespace Ck
open PySem PySem.Spec PyProof.Rows L2
structure RmS where
  rates : List Nat
  eras : List Nat
  begun : List Nat
  evs : List Ev
  sigs : List Sy35.Signal
def rmF (la lb lc ld le : Addr) : List (Str × V) := [("rates", .ref la), ("eras", .ref lb), ("begun", .ref lc), ("events", .ref ld), ("signals", .ref le)]
structure RmI (t : Adr) (H : Hp) (a : Addr) (s : RmS) (dx la lb lc ld le : Addr) (xs : List Addr) : Prop where
  obj : H a = some (.ins t.c_Room dx (rmF la lb lc ld le))
  rts : IntsAt H la s.rates
  ers : IntsAt H lb s.eras
  bgn : IntsAt H lc s.begun
  evs : ObjsAt (EvAt t) H ld s.evs
  sgl : H le = some (.lst (xs.map V.ref))
  sgn : xs.length = s.sigs.length
  sgs : ∀ (i : Nat) (x : Sy35.Signal), s.sigs[i]? = some x → ∃ p, xs[i]? = some p ∧ SigAt t H p x
  nd : (a :: la :: lb :: lc :: ld :: le :: xs).Nodup
def RmAt (t : Adr) (H : Hp) (a : Addr) (s : RmS) (fp : List Addr) : Prop := ∃ dx la lb lc ld le xs, fp = a :: la :: lb :: lc :: ld :: le :: xs ∧ RmI t H a s dx la lb lc ld le xs
theorem RmI.same {t : Adr} {H H' : Hp} {a : Addr} {s : RmS} {dx la lb lc ld le : Addr} {xs : List Addr} (h : RmI t H a s dx la lb lc ld le xs) (e : Same H H') : RmI t H' a s dx la lb lc ld le xs :=
  ⟨e _ _ h.obj, e _ _ h.rts, e _ _ h.ers, e _ _ h.bgn, h.evs.same (ev_stays t) e, e _ _ h.sgl, h.sgn, fun i x q => let ⟨p, e1, e2⟩ := h.sgs i x q; ⟨p, e1, sig_stays t _ _ _ _ e e2⟩, h.nd⟩
theorem RmAt.same {t : Adr} {H H' : Hp} {a : Addr} {s : RmS} {fp : List Addr} (h : RmAt t H a s fp) (e : Same H H') : RmAt t H' a s fp := by
  obtain ⟨dx, la, lb, lc, ld, le, xs, e0, h⟩ := h
  exact ⟨dx, la, lb, lc, ld, le, xs, e0, h.same e⟩
theorem RmI.sg {t : Adr} {H : Hp} {a : Addr} {s : RmS} {dx la lb lc ld le : Addr} {xs : List Addr} (h : RmI t H a s dx la lb lc ld le xs) : ObjsAt (SigAt t) H le s.sigs := ⟨xs, h.sgl, h.sgn, h.sgs⟩
structure Keep (H : Hp) (fp : List Addr) (H' : Hp) (fp' : List Addr) : Prop where
  at_ : ∀ b o, H b = some o → b ∉ fp → H' b = some o ∧ b ∉ fp'
  dom : ∀ b, H' b = none → H b = none
theorem Keep.same {H H' : Hp} (fp : List Addr) (e : Same H H') : Keep H fp H' fp := ⟨fun b o h n => ⟨e b o h, n⟩, fun b h => e.free h⟩
theorem Keep.refl (H : Hp) (fp : List Addr) : Keep H fp H fp := ⟨fun b o h n => ⟨h, n⟩, fun b h => h⟩
theorem Keep.trans {H H1 H2 : Hp} {f f1 f2 : List Addr} (a : Keep H f H1 f1) (b : Keep H1 f1 H2 f2) : Keep H f H2 f2 := ⟨fun c o h n => let ⟨x, y⟩ := a.at_ c o h n; b.at_ c o x y, fun c h => a.dom c (b.dom c h)⟩
def spEvInit (t : Adr) : Sp := fun vs H Q _ => ∃ (p dx : Addr) (e : Ev), vs = [.ref p, nV e.1.clock, nV e.1.era, nV e.1.reading, nV e.2] ∧ H p = some (.ins t.c_Event dx []) ∧ ∀ H', EvAt t H' p e → (∀ b o, H b = some o → b ≠ p → H' b = some o) → Q .non H'
def spSgInit (t : Adr) : Sp := fun vs H Q _ => ∃ (p dx : Addr) (a b l m : Nat), vs = [.ref p, nV a, nV b, nV l, nV m] ∧ H p = some (.ins t.c_Signal dx []) ∧ ∀ H', SigAt t H' p ⟨a, b, l, m, false⟩ → (∀ b o, H b = some o → b ≠ p → H' b = some o) → Q .non H'
def blF (na ta : V) : List (Str × V) := [("numbers", na), ("table", ta)]
def spBlInit (t : Adr) : Sp := fun vs H Q _ => ∃ (p dx : Addr) (x y : V), vs = [.ref p, x, y] ∧ H p = some (.ins t.c_Belief dx []) ∧ ∀ H', H' p = some (.ins t.c_Belief dx (blF x y)) → (∀ b o, H b = some o → b ≠ p → H' b = some o) → Q .non H'
def freshRm (rates : List Nat) : RmS := ⟨rates, rates.map fun _ => 0, rates.map fun _ => 0, [], []⟩
def spRenew (K : PySem.W.Frag) (t : Adr) : Sp := fun vs H Q _ => ∃ (a ra dx : Addr) (fs : List (Str × V)) (rates : List Nat), vs = [.ref a, .ref ra] ∧ H a = some (.ins t.c_Room dx fs) ∧ (fs = [] ∨ ∃ la lb lc ld le, fs = rmF la lb lc ld le) ∧ SqL K H ra (rates.map nV) ∧ rates.length ≤ 1000 ∧
  ∀ (H' : Hp) (fp' : List Addr), RmAt t H' a (freshRm rates) fp' → (∀ b o, H b = some o → b ≠ a → H' b = some o ∧ b ∉ fp') → Q .non H'
def spRmInit (t : Adr) : Sp := fun vs H Q _ => ∃ (a dx : Addr), vs = [.ref a] ∧ H a = some (.ins t.c_Room dx []) ∧
  ∀ (H' : Hp) (fp' : List Addr), RmAt t H' a (freshRm [0]) fp' → (∀ b o, H b = some o → b ≠ a → H' b = some o ∧ b ∉ fp') → Q .non H'
def spHasC (t : Adr) : Sp := fun vs H Q _ => ∃ (a : Addr) (s : RmS) (fp : List Addr) (c : Int), vs = [.ref a, .int c] ∧ RmAt t H a s fp ∧ Q (.bl (decide (c < (s.rates.length : Int)))) H
def spHasE (t : Adr) : Sp := fun vs H Q _ => ∃ (a : Addr) (s : RmS) (fp : List Addr) (c : Int), vs = [.ref a, .int c] ∧ RmAt t H a s fp ∧ Q (.bl (decide (c < (s.evs.length : Int)))) H
def spHasB (t : Adr) : Sp := fun vs H Q _ => ∃ (a : Addr) (s : RmS) (fp : List Addr) (c d : Nat), vs = [.ref a, nV c, nV d] ∧ RmAt t H a s fp ∧ Q (.bl (decide (c < s.evs.length ∧ d < s.evs.length))) H
def noted (s : RmS) (c r i : Nat) : RmS := { s with evs := s.evs ++ [(⟨c, s.eras.getD c 0, r⟩, i)] }
def spNote (t : Adr) : Sp := fun vs H Q _ => ∃ (a : Addr) (s : RmS) (fp : List Addr) (c r i : Nat), vs = [.ref a, nV c, nV r, nV i] ∧ RmAt t H a s fp ∧ c < s.eras.length ∧ s.evs.length < 1000 ∧
  ∀ H', RmAt t H' a (noted s c r i) fp → Keep H fp H' fp → Q .non H'
theorem few {n : Nat} (h : Nat.blt n 1000 = true) : n < 1000 := Nat.le_of_ble_eq_true h
theorem zeros {rates : List Nat} : rates.map (fun _ => (0 : Nat)) = List.replicate rates.length 0 := by
  induction rates with
  | nil => rfl
  | cons a r ih => simp [List.replicate_succ]; exact ih
theorem ev_ne_lst {t : Adr} {H : Hp} {p l : Addr} {e : Ev} {ys : List V} (h : EvAt t H p e) (hl : H l = some (.lst ys)) : p ≠ l := fun z => by
  obtain ⟨dx, h⟩ := h
  rw [z, hl] at h
  cases h
theorem sg_ne_lst {t : Adr} {H : Hp} {p l : Addr} {e : Sy35.Signal} {ys : List V} (h : SigAt t H p e) (hl : H l = some (.lst ys)) : p ≠ l := fun z => by
  obtain ⟨dx, h⟩ := h
  rw [z, hl] at h
  cases h
section
variable {P : Program} {w : World} {K : PySem.W.Frag} {mg : Str → Option Value} {base : Heap} {t : Adr}
theorem ok_Event_init (T : Txt K mg t) : FnOk P w K mg base CX0 1 t.f_Event_init t.d_Event_init ["self", "clock", "era", "reading", "instant"] (spEvInit t) := by
  refine T.F_Event_init.ok sc_Event_init (fun vs H Q E h => ?_) (fun cdv A outer s H vs Q E hr h => ?_)
  · obtain ⟨_, _, _, rfl, _⟩ := h
    rfl
  · obtain ⟨p, dx, e, rfl, h1, k⟩ := h
    refine ⟨_, (pss_cons (ps_fld (pv 0) (pv 1) rfl) (pss_cons (ps_fld (pv 0) (pv 2) rfl) (pss_cons (ps_fld (pv 0) (pv 3) rfl) (pss_one (ps_fld (pv 0) (pv 4) rfl))))), ?_⟩
    refine ⟨_, rfl, _, rfl, p, _, dx, _, rfl, h1, T.cl_Event, T.n_Event_clock, few rfl, ?_⟩
    refine ⟨_, rfl, _, rfl, p, _, dx, _, rfl, upd_same, T.cl_Event, T.n_Event_era, few rfl, ?_⟩
    refine ⟨_, rfl, _, rfl, p, _, dx, _, rfl, upd_same, T.cl_Event, T.n_Event_reading, few rfl, ?_⟩
    refine ⟨_, rfl, _, rfl, p, _, dx, _, rfl, upd_same, T.cl_Event, T.n_Event_instant, few rfl, ?_⟩
    refine k _ ⟨dx, upd_same⟩ fun b o q hb => ?_
    rw [upd_ne hb, upd_ne hb, upd_ne hb, upd_ne hb]
    exact q
theorem ok_Signal_init (T : Txt K mg t) : FnOk P w K mg base CX0 1 t.f_Signal_init t.d_Signal_init ["self", "first", "second", "least", "most"] (spSgInit t) := by
  refine T.F_Signal_init.ok sc_Signal_init (fun vs H Q E h => ?_) (fun cdv A outer s H vs Q E hr h => ?_)
  · obtain ⟨_, _, _, _, _, _, rfl, _⟩ := h
    rfl
  · obtain ⟨p, dx, a, b, l, m, rfl, h1, k⟩ := h
    refine ⟨_, (pss_cons (ps_fld (pv 0) (pv 1) rfl) (pss_cons (ps_fld (pv 0) (pv 2) rfl) (pss_cons (ps_fld (pv 0) (pv 3) rfl) (pss_cons (ps_fld (pv 0) (pv 4) rfl) (pss_one (ps_fld (pv 0) pe_bl rfl)))))), ?_⟩
    refine ⟨_, rfl, _, rfl, p, _, dx, _, rfl, h1, T.cl_Signal, T.n_Signal_first, few rfl, ?_⟩
    refine ⟨_, rfl, _, rfl, p, _, dx, _, rfl, upd_same, T.cl_Signal, T.n_Signal_second, few rfl, ?_⟩
    refine ⟨_, rfl, _, rfl, p, _, dx, _, rfl, upd_same, T.cl_Signal, T.n_Signal_least, few rfl, ?_⟩
    refine ⟨_, rfl, _, rfl, p, _, dx, _, rfl, upd_same, T.cl_Signal, T.n_Signal_most, few rfl, ?_⟩
    refine ⟨_, rfl, p, _, dx, _, rfl, upd_same, T.cl_Signal, T.n_Signal_struck, few rfl, ?_⟩
    refine k _ ⟨dx, upd_same⟩ fun b o q hb => ?_
    rw [upd_ne hb, upd_ne hb, upd_ne hb, upd_ne hb, upd_ne hb]
    exact q
theorem ok_Belief_init (T : Txt K mg t) : FnOk P w K mg base CX0 1 t.f_Belief_init t.d_Belief_init ["self", "numbers", "table"] (spBlInit t) := by
  refine T.F_Belief_init.ok sc_Belief_init (fun vs H Q E h => ?_) (fun cdv A outer s H vs Q E hr h => ?_)
  · obtain ⟨_, _, _, _, rfl, _⟩ := h
    rfl
  · obtain ⟨p, dx, x, y, rfl, h1, k⟩ := h
    refine ⟨_, (pss_cons (ps_fld (pv 0) (pv 1) rfl) (pss_one (ps_fld (pv 0) (pv 2) rfl))), ?_⟩
    refine ⟨_, rfl, _, rfl, p, _, dx, _, rfl, h1, T.cl_Belief, T.n_Belief_numbers, few rfl, ?_⟩
    refine ⟨_, rfl, _, rfl, p, _, dx, _, rfl, upd_same, T.cl_Belief, T.n_Belief_table, few rfl, ?_⟩
    refine k _ upd_same fun b o q hb => ?_
    rw [upd_ne hb, upd_ne hb]
    exact q
theorem ok_Room_has_clock (T : Txt K mg t) : FnOk P w K mg base CX0 1 t.f_Room_has_clock t.d_Room_has_clock ["self", "clock"] (spHasC t) := by
  refine T.F_Room_has_clock.ok sc_Room_has_clock (fun vs H Q E h => ?_) (fun cdv A outer s H vs Q E hr h => ?_)
  · obtain ⟨_, _, _, _, rfl, _⟩ := h
    rfl
  · obtain ⟨a, s, fp, c, rfl, ⟨dx, la, lb, lc, ld, le, xs, _, R⟩, k⟩ := h
    refine ⟨_, (pss_one (ps_ret (pe_cmp (pc_lt (pv 1) (pe_callB (call_lenK (K := K) rfl) (by rfl) T.z_len PySem.boot_len (pa_cons (pe_fldK (K := K) rfl (pv 0) rfl) pa_nil)))))), ?_⟩
    refine ⟨_, rfl, _, rfl, a, _, dx, _, _, rfl, R.obj, T.cl_Room, T.n_Room_rates, rfl, la, _, rfl, .inl (SqL.of R.rts), _, _, rfl, rfl, ?_⟩
    rw [List.length_map]
    exact k
theorem ok_Room_has_event (T : Txt K mg t) : FnOk P w K mg base CX0 1 t.f_Room_has_event t.d_Room_has_event ["self", "number"] (spHasE t) := by
  refine T.F_Room_has_event.ok sc_Room_has_event (fun vs H Q E h => ?_) (fun cdv A outer s H vs Q E hr h => ?_)
  · obtain ⟨_, _, _, _, rfl, _⟩ := h
    rfl
  · obtain ⟨a, s, fp, c, rfl, ⟨dx, la, lb, lc, ld, le, xs, _, R⟩, k⟩ := h
    obtain ⟨as, e1, e2, e3⟩ := R.evs.ex
    refine ⟨_, (pss_one (ps_ret (pe_cmp (pc_lt (pv 1) (pe_callB (call_lenK (K := K) rfl) (by rfl) T.z_len PySem.boot_len (pa_cons (pe_fldK (K := K) rfl (pv 0) rfl) pa_nil)))))), ?_⟩
    refine ⟨_, rfl, _, rfl, a, _, dx, _, _, rfl, R.obj, T.cl_Room, T.n_Room_events, rfl, ld, _, rfl, .inl (SqL.of e1), _, _, rfl, rfl, ?_⟩
    rw [List.length_map, e2]
    exact k
theorem ok_Room_has_both (T : Txt K mg t) : FnOk P w K mg base CX0 2 t.f_Room_has_both t.d_Room_has_both ["self", "one", "other"] (spHasB t) := by
  refine T.F_Room_has_both.ok sc_Room_has_both (fun vs H Q E h => ?_) (fun cdv A outer s H vs Q E hr h => ?_)
  · obtain ⟨_, _, _, _, _, rfl, _⟩ := h
    rfl
  · obtain ⟨a, s, fp, c, d, rfl, hR, k⟩ := h
    obtain ⟨dx, la, lb, lc, ld, le, xs, _, R⟩ := id hR
    refine ⟨_, (pss_one (ps_ret (pe_and (pe_meth (pv 0) T.cl_Room T.h_Room_has_event (ok_Room_has_event T) hr T.b_Room_has_event .nil pass0 (pa_cons (pv 1) pa_nil)) (pe_one (pe_meth (pv 0) T.cl_Room T.h_Room_has_event (ok_Room_has_event T) hr T.b_Room_has_event .nil pass0 (pa_cons (pv 2) pa_nil)))))), ?_⟩
    refine ⟨_, rfl, a, dx, _, rfl, R.obj, rfl, _, rfl, a, s, fp, c, rfl, hR, _, rfl, ite2 (fun h => ?_) (fun h => ?_)⟩
    · have h := of_decide_eq_true h
      refine ⟨_, rfl, a, dx, _, rfl, R.obj, rfl, _, rfl, a, s, fp, d, rfl, hR, ?_⟩
      have e : decide ((d : Int) < (s.evs.length : Int)) = decide (c < s.evs.length ∧ d < s.evs.length) := by
        by_cases z : d < s.evs.length
        · rw [decide_eq_true (show (d : Int) < (s.evs.length : Int) by omega), decide_eq_true ⟨by omega, z⟩]
        · rw [decide_eq_false (show ¬ (d : Int) < (s.evs.length : Int) by omega), decide_eq_false (fun q => z q.2)]
      rw [e]
      exact k
    · rw [decide_eq_false (fun q => h (decide_eq_true (by omega)))] at k
      exact k
end
end Ck
namespace Ck
open PySem PySem.Spec PyProof.Rows L2
theorem upd_none {H : Hp} {a l : Addr} {o : HO} (h : upd H a o l = none) : l ≠ a ∧ H l = none := by
  unfold upd at h
  by_cases e : l = a
  · rw [if_pos e] at h; cases h
  · rw [if_neg e] at h; exact ⟨e, h⟩
theorem SqL.put {K : PySem.W.Frag} {H : Hp} {a b C dx : Addr} {fs : List (Str × V)} {o : HO} {xs : List V} (h : SqL K H b xs) (ha : H a = some (.ins C dx fs)) : SqL K (upd H a o) b xs := by
  rcases h with (h | ⟨u, h⟩) | h
  · exact .inl (.inl (by rw [upd_ne (ne_of h ha (by intro z; cases z))]; exact h))
  · exact .inl (.inr ⟨u, by rw [upd_ne (ne_of h ha (by intro z; cases z))]; exact h⟩)
  · exact .inr h
theorem for_enum {K : PySem.W.Frag} {a : Addr} {xs : List V} {g : TG} {tb : TS} {D : Ends} {σ : L2.St} {H : Hp} (Pv : Nat → L2.St → Hp → Prop) (h0 : Pv 0 σ H) (hl : ∀ i σ H, i ≤ xs.length → Pv i σ H → SqL K H a xs)
    (hs : ∀ i x σ H T, xs[i]? = some x → Pv i σ H → H T = none → g (.ref T) σ (upd H T (.tup [.int (i : Nat), x])) fun σ2 H2 => tb { D with nx := Pv (i + 1), ct := Pv (i + 1), bk := D.nx } σ2 H2) (hd : ∀ σ H, Pv xs.length σ H → D.nx σ H) :
    ∃ W : Nat → Nat → L2.St → Hp → Prop, (∃ m, W 0 m σ H) ∧ ∀ i m σ H, W i m σ H →
      ((Ite K a).stop i H ∧ D.nx σ H) ∨ ((Ite K a).go i H ∧ ∃ N : L2.St → Hp → Prop, (∀ σ' H', N σ' H' → ∃ m', m' < m ∧ W (i + 1) m' σ' H') ∧ ∀ x H', (Ite K a).yld i H x H' → g x σ H' fun σ2 H2 => tb { D with nx := N, ct := N, bk := D.nx } σ2 H2) := by
  refine ⟨fun i m σ H => m = xs.length - i ∧ i ≤ xs.length ∧ Pv i σ H, ⟨xs.length, by simp, Nat.zero_le _, h0⟩, ?_⟩
  rintro i m σ H ⟨rfl, hi, p⟩
  have q := hl i σ H hi p
  by_cases hlt : i < xs.length
  · refine .inr ⟨⟨xs, xs[i], q, by simp [hlt]⟩, Pv (i + 1), fun σ' H' p' => ⟨xs.length - (i + 1), by omega, rfl, hlt, p'⟩, fun x H' y => ?_⟩
    obtain ⟨T, z, e, hT, e', y⟩ := y
    subst e e'
    exact hs i z σ _ T (y xs q) p hT
  · have e : i = xs.length := by omega
    subst e
    exact .inl ⟨⟨xs, q, Nat.le_refl _⟩, hd σ H p⟩
theorem RmI.evsPut {t : Adr} {H : Hp} {a : Addr} {s : RmS} {dx la lb lc ld le : Addr} {xs as : List Addr} {x : Addr} {e : Ev} (R : RmI t H a s dx la lb lc ld le xs) (h1 : H ld = some (.lst (as.map V.ref))) (he : EvAt t H x e) :
    RmI t (upd H ld (.lst (as.map V.ref ++ [V.ref x]))) a { s with evs := s.evs ++ [e] } dx la lb lc ld le xs := by
  have nd := R.nd
  simp only [List.nodup_cons, List.mem_cons, not_or] at nd
  obtain ⟨⟨n1, n2, n3, n4, n5, n6⟩, ⟨n7, n8, n9, n10, n11⟩, ⟨n12, n13, n14, n15⟩, ⟨n16, n17, n18⟩, ⟨n19, n20⟩, n21, n22⟩ := nd
  have ev : ∀ {p : Addr} {f : Ev}, EvAt t H p f → EvAt t (upd H ld (.lst (as.map V.ref ++ [V.ref x]))) p f := fun {p f} h => by
    have z := ev_ne_lst h h1
    obtain ⟨d, h⟩ := h
    exact ⟨d, by rw [upd_ne z]; exact h⟩
  refine ⟨by rw [upd_ne n4]; exact R.obj, ?_, ?_, ?_, ?_, by rw [upd_ne (Ne.symm n19)]; exact R.sgl, R.sgn, fun i y q => ?_, R.nd⟩
  · show upd H ld _ la = _
    rw [upd_ne n9]; exact R.rts
  · show upd H ld _ lb = _
    rw [upd_ne n13]; exact R.ers
  · show upd H ld _ lc = _
    rw [upd_ne n16]; exact R.bgn
  · obtain ⟨as', e1, e2, e3⟩ := R.evs.ex
    have q : as' = as := by
      rw [h1] at e1
      injection e1 with e1
      injection e1 with e1
      exact (List.map_inj_right (fun a b z => by injection z)).mp e1.symm
    subst q
    refine ⟨as' ++ [x], by rw [upd_same, List.map_append]; rfl, by rw [List.length_append, List.length_append, e2]; rfl, fun i f hf => ?_⟩
    by_cases hi : i < s.evs.length
    · rw [List.getElem?_append_left hi] at hf
      obtain ⟨p, h2, h3⟩ := e3 i f hf
      exact ⟨p, by rw [List.getElem?_append_left (by omega)]; exact h2, ev h3⟩
    · have ei : i = s.evs.length := by
        have := (List.getElem?_eq_some_iff.mp hf).1
        rw [List.length_append] at this
        simp at this
        omega
      subst ei
      rw [List.getElem?_append_right (Nat.le_refl _)] at hf
      simp at hf
      subst hf
      exact ⟨x, by rw [List.getElem?_append_right (by omega), e2]; simp, ev he⟩
  · obtain ⟨p, h2, h3⟩ := R.sgs i y q
    have z := sg_ne_lst h3 h1
    obtain ⟨d, h3⟩ := h3
    exact ⟨p, h2, d, by rw [upd_ne z]; exact h3⟩
def belStep (acc : List Nat × Sy35.Table) (k : Nat) (x : Sy35.Signal) : List Nat × Sy35.Table := if x.struck = true ∨ Sy35.tooSoon acc.2 x = true ∨ Sy35.tooLate acc.2 x = true then acc else (acc.1 ++ [k], waySig acc.2 x)
def belUp (sigs : List Sy35.Signal) (t0 : Sy35.Table) (n : Nat) : List Nat × Sy35.Table := (List.range n).foldl (fun acc k => match sigs[k]? with | some x => belStep acc k x | none => acc) ([], t0)
theorem belUp_succ {sigs : List Sy35.Signal} {t0 : Sy35.Table} {n : Nat} {x : Sy35.Signal} (h : sigs[n]? = some x) : belUp sigs t0 (n + 1) = belStep (belUp sigs t0 n) n x := by
  unfold belUp
  rw [List.range_succ, List.foldl_append]
  simp [h]
theorem belUp_sq {sigs : List Sy35.Signal} {t0 : Sy35.Table} {m : Nat} (h : Sq m t0) : ∀ n, Sq m (belUp sigs t0 n).2 ∧ (belUp sigs t0 n).1.length ≤ n
  | 0 => ⟨h, Nat.le_refl _⟩
  | n + 1 => by
    obtain ⟨h1, h2⟩ := belUp_sq h (sigs := sigs) n
    cases e : sigs[n]? with
    | none =>
      have q : belUp sigs t0 (n + 1) = belUp sigs t0 n := by
        unfold belUp
        rw [List.range_succ, List.foldl_append]
        simp [e]
      rw [q]
      exact ⟨h1, by omega⟩
    | some x =>
      rw [belUp_succ e]
      unfold belStep
      split
      · exact ⟨h1, by omega⟩
      · exact ⟨wayTab_sq (wayTab_sq h1 _ _ _) _ _ _, by rw [List.length_append]; show _ + 1 ≤ _; omega⟩
theorem zero_lc {K : PySem.W.Frag} {ra : Addr} {xs : List V} {σ : L2.St} {H : Hp} {Q : VK} (hσ : σ[1]? = some (some (.ref ra))) (hq : SqL K H ra xs) (hl : xs.length ≤ 1000) (k : ∀ D, H D = none → Q (.ref D) (upd H D (.lst (List.replicate xs.length (V.int 0))))) :
    tLc (iList K (tVar 1)) (gName 2) tYes (tC (.int 0)) [2] σ H Q := by
  refine ⟨_, hσ, ra, rfl, ⟨_, hq⟩, fun D hD => ?_⟩
  refine lc_list (K := K) (a := ra) (xs := xs) (fun i H' => H' = upd H D (.lst (List.replicate i (V.int 0)))) rfl (fun i H' _ p => ?_) (fun i x H' hx p => ?_) (fun H' p => ?_)
  · subst p
    exact (Same.new hD).seq hq
  · subst p
    refine ⟨by simp [wipe], tyes ⟨_, upd_same, ?_, ?_⟩⟩
    · rw [List.length_replicate]
      exact small_line (by have := (List.getElem?_eq_some_iff.mp hx).1; omega)
    · rw [upd_upd, List.replicate_succ']
  · subst p
    exact k D hD
structure RmOk (s : RmS) : Prop where
  rok : RatesOk s.rates s.evs
  few : s.evs.length ≤ 24
  sfew : s.sigs.length ≤ 30
  sgn : ∀ x ∈ s.sigs, x.from_ < s.evs.length ∧ x.to_ < s.evs.length
  sgl : ∀ x ∈ s.sigs, x.least ≤ x.most
  sne : ∀ x ∈ s.sigs, x.from_ ≠ x.to_
def belOf (s : RmS) : List Nat × Sy35.Table := belUp s.sigs (clockT s.rates s.evs) s.sigs.length
def spBelBef (t : Adr) : Sp := fun vs H Q _ => ∃ (a : Addr) (s : RmS) (fp : List Addr) (k : Nat), vs = [.ref a, nV k] ∧ RmAt t H a s fp ∧ RmOk s ∧ k ≤ s.sigs.length ∧
  ∀ (H' : Hp) (p dx na ta : Addr), Same H H' → H' p = some (.ins t.c_Belief dx (blF (.ref na) (.ref ta))) → IntsAt H' na (belUp s.sigs (clockT s.rates s.evs) k).1 → TabAt (fun _ => True) H' ta (belUp s.sigs (clockT s.rates s.evs) k).2 → Q (.ref p) H'
def spBelief (t : Adr) : Sp := fun vs H Q _ => ∃ (a : Addr) (s : RmS) (fp : List Addr), vs = [.ref a] ∧ RmAt t H a s fp ∧ RmOk s ∧
  ∀ (H' : Hp) (p dx na ta : Addr), Same H H' → H' p = some (.ins t.c_Belief dx (blF (.ref na) (.ref ta))) → IntsAt H' na (belOf s).1 → TabAt (fun _ => True) H' ta (belOf s).2 → Q (.ref p) H'
section
variable {P : Program} {w : World} {K : PySem.W.Frag} {mg : Str → Option Value} {base : Heap} {t : Adr}
theorem ok_Room_note (T : Txt K mg t) : FnOk P w K mg base CX0 3 t.f_Room_note t.d_Room_note ["self", "clock", "reading", "instant"] (spNote t) := by
  refine T.F_Room_note.ok sc_Room_note (fun vs H Q E h => ?_) (fun cdv A outer s H vs Q E hr h => ?_)
  · obtain ⟨_, _, _, _, _, _, rfl, _⟩ := h
    rfl
  · obtain ⟨a, s, fp, c, r, i, rfl, ⟨dx, la, lb, lc, ld, le, xs, hfp, R⟩, hc, hz, k⟩ := h
    obtain ⟨as, e1, e2, e3⟩ := R.evs.ex
    refine ⟨_, (pss_one (ps_expr (pe_bm PySem.F.plainAttrs_list PySem.F.slot_list_append PySem.F.type_list_append mt_append (pe_fldK (K := K) rfl (pv 0) rfl) (pa_cons (pe_make T.M_Event (ok_Event_init T) hr rfl T.m_Event T.b_Event_init .nil pass0 (pa_cons (pv 1) (pa_cons (pe_ix (ixL (K := K) rfl) (pe_fldK (K := K) rfl (pv 0) rfl) (pv 1) (fun _ _ => rfl)) (pa_cons (pv 2) (pa_cons (pv 3) pa_nil))))) pa_nil)))), ?_⟩
    refine ⟨_, rfl, a, _, dx, _, _, rfl, R.obj, T.cl_Room, T.n_Room_events, rfl, .inl ⟨rfl, _, SqL.of e1⟩, _, rfl, _, rfl, a, _, dx, _, _, rfl, R.obj, T.cl_Room, T.n_Room_eras, rfl, _, rfl, lb, _, _, _, rfl, rfl, SqL.of R.ers, at_of (j := c) rfl (ints_get hc), _, rfl, _, rfl, fun x d n1 n2 n3 => ?_⟩
    refine ⟨x, d, (⟨c, s.eras.getD c 0, r⟩, i), rfl, upd_same, fun H1 he k1 => ⟨rfl, ?_⟩⟩
    have s1 : Same H H1 := Same.made n1 n2 k1
    refine ⟨ld, _, _, rfl, rfl, s1 _ _ e1, (by rw [List.length_map, e2]; exact small_line (by omega)), ?_⟩
    refine k _ ⟨dx, la, lb, lc, ld, le, xs, hfp, (R.same s1).evsPut (s1 _ _ e1) he⟩ ⟨fun b o hb n => ?_, fun b hb => s1.free (upd_none hb).2⟩
    have z : b ≠ ld := fun z => n (by rw [hfp, z]; simp)
    rw [upd_ne z]
    exact ⟨s1 _ _ hb, n⟩
theorem ok_Room_renew (T : Txt K mg t) : FnOk P w K mg base CX0 1 t.f_Room_renew t.d_Room_renew ["self", "rates"] (spRenew K t) := by
  refine T.F_Room_renew.ok sc_Room_renew (fun vs H Q E h => ?_) (fun cdv A outer s H vs Q E hr h => ?_)
  · obtain ⟨_, _, _, _, _, rfl, _⟩ := h
    rfl
  · obtain ⟨a, ra, dx, fs, rates, rfl, h1, hfs, h2, hz, k⟩ := h
    have hf5 : ∀ l1 l2 l3 l4 l5 : Addr, putF "signals" (.ref l5) (putF "events" (.ref l4) (putF "begun" (.ref l3) (putF "eras" (.ref l2) (putF "rates" (.ref l1) fs)))) = rmF l1 l2 l3 l4 l5 := by
      intro l1 l2 l3 l4 l5
      rcases hfs with rfl | ⟨_, _, _, _, _, rfl⟩
      · rfl
      · rfl
    have q0 : fs.length ≤ 5 := by
      rcases hfs with rfl | ⟨_, _, _, _, _, rfl⟩
      · exact Nat.zero_le _
      · exact Nat.le_refl _
    refine ⟨_, (pss_cons (ps_fld (pv 0) (pe_callTy (call_listK (K := K) rfl) (by rfl) T.z_list PyProof.Rows.boot_list (pa_cons (pv 1) pa_nil)) rfl) (pss_cons (ps_fld (pv 0) (pe_lc rfl sc_Room_renew.nd (pi_list (pv 1)) (blkOk_by (N := ["self", "rates", "rate"]) (sc := defScope s_Room_renew) (own := [("rate", 2)]) (by decide +kernel)) (fun _ _ _ _ _ => (pg_name (i := 2) sc_Room_renew.nd rfl (Or.inl rfl))) (fun _ _ _ _ _ => pts_nil) (fun _ _ _ _ _ => pe_int)) rfl) (pss_cons (ps_fld (pv 0) (pe_lc rfl sc_Room_renew.nd (pi_list (pv 1)) (blkOk_by (N := ["self", "rates", "rate"]) (sc := defScope s_Room_renew) (own := [("rate", 2)]) (by decide +kernel)) (fun _ _ _ _ _ => (pg_name (i := 2) sc_Room_renew.nd rfl (Or.inl rfl))) (fun _ _ _ _ _ => pts_nil) (fun _ _ _ _ _ => pe_int)) rfl) (pss_cons (ps_fld (pv 0) (pe_lst pa_nil) rfl) (pss_one (ps_fld (pv 0) (pe_lst pa_nil) rfl)))))), ?_⟩
    refine ⟨_, rfl, ra, _, rfl, .inl h2, fun l1 f1 => ⟨_, rfl, a, _, dx, _, rfl, (by rw [upd_ne (ne_of_none h1 f1)]; exact h1), T.cl_Room, T.n_Room_rates, (by omega), ?_⟩⟩
    have hlen := fun (f : Str) (v : V) (l : List (Str × V)) => length_putF f v l
    have sq1 : SqL K (upd (upd H l1 (.lst (rates.map nV))) a (.ins t.c_Room dx (putF "rates" (.ref l1) fs))) ra (rates.map nV) := SqL.put ((Same.new f1).seq h2) (by rw [upd_ne (ne_of_none h1 f1)]; exact h1)
    generalize hf1 : putF "rates" (V.ref l1) fs = fs1 at sq1 ⊢
    have q1 : fs1.length ≤ 6 := by rw [← hf1]; have := hlen "rates" (V.ref l1) fs; omega
    dsimp only [tSeq, sFld]
    refine zero_lc rfl sq1 (by rw [List.length_map]; exact hz) fun l2 f2 => ⟨_, rfl, a, _, dx, _, rfl, (by rw [upd_ne (ne_of_none upd_same f2)]; exact upd_same), T.cl_Room, T.n_Room_eras, (by omega), ?_⟩
    have sq2 := SqL.put (o := .ins t.c_Room dx (putF "eras" (.ref l2) fs1)) ((Same.new (o := .lst (List.replicate (rates.map nV).length (V.int 0))) f2).seq sq1) (by rw [upd_ne (ne_of_none upd_same f2)]; exact upd_same)
    generalize hf2 : putF "eras" (V.ref l2) fs1 = fs2 at sq2 ⊢
    have q2 : fs2.length ≤ 7 := by rw [← hf2]; have := hlen "eras" (V.ref l2) fs1; omega
    refine zero_lc rfl sq2 (by rw [List.length_map]; exact hz) fun l3 f3 => ⟨_, rfl, a, _, dx, _, rfl, (by rw [upd_ne (ne_of_none upd_same f3)]; exact upd_same), T.cl_Room, T.n_Room_begun, (by omega), ?_⟩
    generalize hf3 : putF "begun" (V.ref l3) fs2 = fs3
    have q3 : fs3.length ≤ 8 := by rw [← hf3]; have := hlen "begun" (V.ref l3) fs2; omega
    refine ⟨Nat.zero_le _, fun l4 f4 => ⟨_, rfl, a, _, dx, _, rfl, (by rw [upd_ne (ne_of_none upd_same f4)]; exact upd_same), T.cl_Room, T.n_Room_events, (by omega), ?_⟩⟩
    generalize hf4 : putF "events" (V.ref l4) fs3 = fs4
    have q4 : fs4.length ≤ 9 := by rw [← hf4]; have := hlen "events" (V.ref l4) fs3; omega
    refine ⟨Nat.zero_le _, fun l5 f5 => ⟨_, rfl, a, _, dx, _, rfl, (by rw [upd_ne (ne_of_none upd_same f5)]; exact upd_same), T.cl_Room, T.n_Room_signals, (by omega), ?_⟩⟩
    have e5 : putF "signals" (V.ref l5) fs4 = rmF l1 l2 l3 l4 l5 := by rw [← hf4, ← hf3, ← hf2, ← hf1]; exact hf5 l1 l2 l3 l4 l5
    rw [e5]
    obtain ⟨n5a, f5⟩ := upd_none f5
    obtain ⟨n54, f5⟩ := upd_none f5
    obtain ⟨_, f5⟩ := upd_none f5
    obtain ⟨n53, f5⟩ := upd_none f5
    obtain ⟨_, f5⟩ := upd_none f5
    obtain ⟨n52, f5⟩ := upd_none f5
    obtain ⟨_, f5⟩ := upd_none f5
    obtain ⟨n51, f5⟩ := upd_none f5
    obtain ⟨n4a, f4⟩ := upd_none f4
    obtain ⟨n43, f4⟩ := upd_none f4
    obtain ⟨_, f4⟩ := upd_none f4
    obtain ⟨n42, f4⟩ := upd_none f4
    obtain ⟨_, f4⟩ := upd_none f4
    obtain ⟨n41, f4⟩ := upd_none f4
    obtain ⟨n3a, f3⟩ := upd_none f3
    obtain ⟨n32, f3⟩ := upd_none f3
    obtain ⟨_, f3⟩ := upd_none f3
    obtain ⟨n31, f3⟩ := upd_none f3
    obtain ⟨n2a, f2⟩ := upd_none f2
    obtain ⟨n21, f2⟩ := upd_none f2
    have n1a : l1 ≠ a := Ne.symm (ne_of_none h1 f1)
    have zr : List.replicate (rates.map nV).length (V.int 0) = (rates.map fun _ => (0 : Nat)).map nV := by
      rw [zeros, List.length_map, List.map_replicate]
      rfl
    refine k _ [a, l1, l2, l3, l4, l5] ⟨dx, l1, l2, l3, l4, l5, [], rfl, upd_same, ?_, ?_, ?_, ⟨[], ?_, rfl, fun i x hx => (by cases hx)⟩, ?_, rfl, fun i x hx => (by cases hx), ?_⟩ (fun b o hb hba => ?_)
    · show upd _ a _ l1 = _
      rw [upd_ne n1a, upd_ne (Ne.symm n51), upd_ne n1a, upd_ne (Ne.symm n41), upd_ne n1a, upd_ne (Ne.symm n31), upd_ne n1a, upd_ne (Ne.symm n21), upd_ne n1a, upd_same]
      rfl
    · show upd _ a _ l2 = _
      rw [upd_ne n2a, upd_ne (Ne.symm n52), upd_ne n2a, upd_ne (Ne.symm n42), upd_ne n2a, upd_ne (Ne.symm n32), upd_ne n2a, upd_same, zr]
      rfl
    · show upd _ a _ l3 = _
      rw [upd_ne n3a, upd_ne (Ne.symm n53), upd_ne n3a, upd_ne (Ne.symm n43), upd_ne n3a, upd_same, zr]
      rfl
    · rw [upd_ne n4a, upd_ne (Ne.symm n54), upd_ne n4a, upd_same]
      rfl
    · rw [upd_ne n5a, upd_same]
      rfl
    · simp only [List.nodup_cons, List.mem_cons, not_or, List.not_mem_nil, List.nodup_nil, not_false_iff, and_true]
      exact ⟨⟨Ne.symm n1a, Ne.symm n2a, Ne.symm n3a, Ne.symm n4a, Ne.symm n5a⟩, ⟨Ne.symm n21, Ne.symm n31, Ne.symm n41, Ne.symm n51⟩, ⟨Ne.symm n32, Ne.symm n42, Ne.symm n52⟩, ⟨Ne.symm n43, Ne.symm n53⟩, Ne.symm n54⟩
    · have m1 := ne_of_none hb f1
      have m2 := ne_of_none hb f2
      have m3 := ne_of_none hb f3
      have m4 := ne_of_none hb f4
      have m5 := ne_of_none hb f5
      refine ⟨?_, by simp [hba, m1, m2, m3, m4, m5]⟩
      rw [upd_ne hba, upd_ne m5, upd_ne hba, upd_ne m4, upd_ne hba, upd_ne m3, upd_ne hba, upd_ne m2, upd_ne hba, upd_ne m1]
      exact hb
theorem ok_Room_init (T : Txt K mg t) : FnOk P w K mg base CX0 2 t.f_Room_init t.d_Room_init ["self"] (spRmInit t) := by
  refine T.F_Room_init.ok sc_Room_init (fun vs H Q E h => ?_) (fun cdv A outer s H vs Q E hr h => ?_)
  · obtain ⟨_, _, rfl, _⟩ := h
    rfl
  · obtain ⟨a, dx, rfl, h1, k⟩ := h
    refine ⟨_, (pss_one (ps_expr (pe_meth (pv 0) T.cl_Room T.h_Room_renew (ok_Room_renew T) hr T.b_Room_renew .nil pass0 (pa_cons (pe_lst (pa_cons pe_int pa_nil)) pa_nil)))), ?_⟩
    refine ⟨_, rfl, a, dx, _, rfl, h1, rfl, (by show 1 ≤ sizeLine; decide), fun l hl => ?_⟩
    refine ⟨a, l, dx, [], [0], rfl, by rw [upd_ne (ne_of_none h1 hl)]; exact h1, .inl rfl, SqL.of upd_same, by decide, fun H' fp' R kp => k H' fp' R fun b o hb n => kp b o (by rw [upd_ne (ne_of_none hb hl)]; exact hb) n⟩
end
end Ck
namespace Ck
open PySem PySem.Spec PyProof.Rows L2
theorem belStep_in {acc : List Nat × Sy35.Table} {k : Nat} {x : Sy35.Signal} (h1 : x.struck = false) (h2 : (!Sy35.tooSoon acc.2 x && !Sy35.tooLate acc.2 x) = true) : belStep acc k x = (acc.1 ++ [k], waySig acc.2 x) := by
  unfold belStep
  rw [if_neg]
  rw [Bool.and_eq_true, Bool.not_eq_true', Bool.not_eq_true'] at h2
  rw [h1, h2.1, h2.2]
  simp
theorem belStep_out {acc : List Nat × Sy35.Table} {k : Nat} {x : Sy35.Signal} (h : x.struck = true ∨ ¬ (!Sy35.tooSoon acc.2 x && !Sy35.tooLate acc.2 x) = true) : belStep acc k x = acc := by
  unfold belStep
  rw [if_pos]
  rcases h with h | h
  · exact .inl h
  · right
    cases e1 : Sy35.tooSoon acc.2 x with
    | true => exact .inl rfl
    | false =>
      cases e2 : Sy35.tooLate acc.2 x with
      | true => exact .inr rfl
      | false => rw [e1, e2] at h; exact absurd rfl h
theorem cut_pre {xs : List Addr} {k : Nat} (h : k ≤ xs.length) : cutV (xs.map V.ref) none (some (k : Int)) = (xs.take k).map V.ref := by
  unfold cutV
  have e1 : HT.sIx (xs.map V.ref).length 0 none = 0 := rfl
  have e2 : HT.sIx (xs.map V.ref).length (xs.map V.ref).length (some (k : Int)) = k := by
    unfold HT.sIx
    simp only
    rw [List.length_map]
    split <;> omega
  rw [e1, e2, List.drop_zero, ← List.map_take]
  rfl
section
variable {P : Program} {w : World} {K : PySem.W.Frag} {mg : Str → Option Value} {base : Heap} {t : Adr}
theorem ok_belief_before (T : Txt K mg t) : FnOk P w K mg base CX0 6 t.f_belief_before t.d_belief_before ["room", "end"] (spBelBef t) := by
  refine T.F_belief_before.ok sc_belief_before (fun vs H Q E h => ?_) (fun cdv A outer s H vs Q E hr h => ?_)
  · obtain ⟨_, _, _, _, rfl, _⟩ := h
    rfl
  · obtain ⟨a, s, fp, kn, rfl, ⟨dx, la, lb, lc, ld, le, xs, hfp, R⟩, hok, hkn, k⟩ := h
    have hlen : s.evs.length ≤ 100 := by have := hok.few; omega
    refine ⟨_, (pss_cons (ps_set (i := 2) sc_belief_before.nd rfl (Or.inl rfl) (pe_call (ok_clock_table T) hr rfl T.m_clock_table T.F_clock_table.kp T.b_clock_table .nil pass0 (pa_cons (pe_fldK (K := K) rfl (pv 0) rfl) (pa_cons (pe_fldK (K := K) rfl (pv 0) rfl) pa_nil)))) (pss_cons (ps_set (i := 3) sc_belief_before.nd rfl (Or.inl rfl) (pe_lst pa_nil)) (pss_cons (ps_for PassesOwn.never rfl (pi_enum rfl T.z_enumerate (pa_cons (pe_slice (sl_listK (K := K) rfl) (pe_fldK (K := K) rfl (pv 0) rfl) po_none (po_some (pv 1))) pa_nil)) (pg_tupK (K := K) (n := 2) rfl rfl (pgs_cons (pg_name (i := 4) sc_belief_before.nd rfl (Or.inl rfl)) (pgs_cons (pg_name (i := 5) sc_belief_before.nd rfl (Or.inl rfl)) pgs_nil))) (pss_one (ps_if (PW.pt (pw_and (pt_not (pt_val (pe_fldK (K := K) rfl (pv 5) rfl))) (pw_and1 (pt_val (pe_call (ok_signal_fits T) (hr.mono (by decide)) rfl T.m_signal_fits T.F_signal_fits.kp T.b_signal_fits .nil pass0 (pa_cons (pv 2) (pa_cons (pv 5) pa_nil))))))) (pss_cons (ps_set (i := 2) sc_belief_before.nd rfl (Or.inl rfl) (pe_call (ok_with_signal T) (hr.mono (by decide)) rfl T.m_with_signal T.F_with_signal.kp T.b_with_signal .nil pass0 (pa_cons (pv 2) (pa_cons (pv 5) pa_nil)))) (pss_one (ps_expr (pe_bm PySem.F.plainAttrs_list PySem.F.slot_list_append PySem.F.type_list_append mt_append (pv 3) (pa_cons (pv 4) pa_nil))))) pss_nil))) (pss_one (ps_ret (pe_make T.M_Belief (ok_Belief_init T) (hr.mono (by decide)) rfl T.m_Belief T.b_Belief_init .nil pass0 (pa_cons (pv 3) (pa_cons (pv 2) pa_nil)))))))), ?_⟩
    refine ⟨_, rfl, a, _, dx, _, _, rfl, R.obj, T.cl_Room, T.n_Room_rates, rfl, _, rfl, a, _, dx, _, _, rfl, R.obj, T.cl_Room, T.n_Room_events, rfl, fun x => H x = none, la, ld, s.rates, s.evs, rfl, fun x h => h, R.rts, R.evs, hok.rok, hlen, fun H1 ta s1 t1 => ?_⟩
    refine ⟨Nat.zero_le _, fun na fa => ?_⟩
    have s2 : Same H (upd H1 na (.lst [])) := s1.trans (Same.new fa)
    have sqc := clockT_sq s.rates s.evs
    have hna : H na = none := s1.free fa
    have hkx : kn ≤ xs.length := by rw [R.sgn]; exact hkn
    refine ⟨_, rfl, a, _, dx, _, _, rfl, s2 _ _ R.obj, T.cl_Room, T.n_Room_signals, rfl, _, rfl, _, rfl, le, _, rfl, SqL.of (s2 _ _ R.sgl), fun lx fx => ?_⟩
    rw [cut_pre hkx]
    have nx : na ≠ lx := ne_of_none upd_same fx
    have sx : Same (upd H1 na (.lst [])) (upd (upd H1 na (.lst [])) lx (.lst ((xs.take kn).map V.ref))) := Same.new fx
    refine ⟨lx, _, rfl, SqL.of upd_same, for_enum (K := K) (a := lx) (xs := (xs.take kn).map V.ref) (fun i σ H2 => ∃ (v3 v4 : Option V) (tb : Addr), σ = [some (.ref a), some (nV kn), some (.ref tb), some (.ref na), v3, v4] ∧ Same H H2 ∧ H2 lx = some (.lst ((xs.take kn).map V.ref)) ∧
      H2 na = some (.lst ((belUp s.sigs (clockT s.rates s.evs) i).1.map nV)) ∧ TabAt (fun x => x ≠ na) H2 tb (belUp s.sigs (clockT s.rates s.evs) i).2)
      ⟨none, none, ta, rfl, s2.trans sx, upd_same, (by rw [upd_ne nx]; exact upd_same), ((t1.avoid fa).put).same sx⟩ (fun i σ H2 _ p => ?_) (fun i x σ H2 Tu hx p hT => ?_) (fun σ H2 p => ?_)⟩
    · obtain ⟨_, _, _, _, sm, hx, _⟩ := p
      exact SqL.of hx
    · obtain ⟨v3, v4, tb, rfl, sm, hlx, hn, ht⟩ := p
      obtain ⟨c, hc, rfl⟩ := ref_at hx
      have hc : xs[i]? = some c := by
        rw [List.getElem?_take] at hc
        by_cases z : i < kn
        · rw [if_pos z] at hc; exact hc
        · rw [if_neg z] at hc; cases hc
      have hi : i < s.sigs.length := by rw [← R.sgn]; exact (List.getElem?_eq_some_iff.mp hc).1
      have hl : s.sigs[i]? = some s.sigs[i] := List.getElem?_eq_getElem hi
      generalize s.sigs[i] = x at hl
      obtain ⟨c', hc', hsg⟩ := R.sgs i x hl
      rw [hc] at hc'
      cases hc'
      have hm := hok.sgn x (List.mem_of_getElem? hl)
      obtain ⟨sq, hcnt⟩ := belUp_sq (sigs := s.sigs) sqc i
      have s3 : Same H2 (upd H2 Tu (.tup [.int (i : Nat), V.ref c])) := Same.new hT
      have sH3 := sm.trans s3
      obtain ⟨dy, hsg3⟩ := sig_stays t _ _ _ _ sH3 hsg
      have nT : na ≠ Tu := ne_of_none hn hT
      have hn3 : upd H2 Tu (.tup [.int (i : Nat), V.ref c]) na = some (.lst ((belUp s.sigs (clockT s.rates s.evs) i).1.map nV)) := by rw [upd_ne nT]; exact hn
      have ht3 := ht.same s3
      have hlx3 : upd H2 Tu (.tup [.int (i : Nat), V.ref c]) lx = some (.lst ((xs.take kn).map V.ref)) := s3 _ _ hlx
      have hT3 : upd H2 Tu (.tup [.int (i : Nat), V.ref c]) Tu = some (.tup [.int (i : Nat), V.ref c]) := upd_same
      generalize upd H2 Tu (.tup [.int (i : Nat), V.ref c]) = H3 at hT3 s3 sH3 hsg3 hn3 ht3 hlx3 ⊢
      refine ⟨Tu, _, rfl, SqT.of hT3, rfl, _, _, rfl, _, _, rfl, rfl, ?_⟩
      refine ⟨_, rfl, c, _, dy, _, _, rfl, hsg3, T.cl_Signal, T.n_Signal_struck, rfl, _, rfl, ?_⟩
      cases hst : x.struck with
      | true =>
        refine iteF (iteF ⟨_, _, tb, rfl, sH3, hlx3, ?_, ?_⟩)
        · rw [belUp_succ hl, belStep_out (.inl hst)]; exact hn3
        · rw [belUp_succ hl, belStep_out (.inl hst)]; exact ht3
      | false =>
        refine iteT ⟨_, rfl, _, rfl, _, tb, c, s.evs.length, _, x, rfl, ht3, sq, ⟨dy, hsg3⟩, hm.1, hm.2, _, rfl, ite2 (fun h => ?_) (fun h => ?_)⟩
        · refine ⟨_, rfl, _, rfl, _, tb, c, s.evs.length, _, x, rfl, fun z hz => Ne.symm (ne_of_none hn3 hz), ht3, sq, hlen, ⟨dy, hsg3⟩, hm.1, hm.2, fun H4 p4 s4 t4 => ?_⟩
          have hn4 := s4 _ _ hn3
          refine ⟨_, rfl, .inl ⟨rfl, _, SqL.of hn4⟩, _, rfl, na, _, _, rfl, rfl, hn4, ?_, ?_⟩
          · rw [List.length_map]
            have := hok.sfew
            exact small_line (by omega)
          · refine ⟨_, _, p4, rfl, ?_, (by rw [upd_ne (Ne.symm nx)]; exact s4 _ _ hlx3), ?_, ?_⟩
            · exact fun b o hb => by rw [upd_ne (ne_of_none hb hna)]; exact s4 _ _ (sH3 b o hb)
            · rw [upd_same, belUp_succ hl, belStep_in hst h, List.map_append]; rfl
            · rw [belUp_succ hl, belStep_in hst h]; exact t4.put
        · refine ⟨_, _, tb, rfl, sH3, hlx3, ?_, ?_⟩
          · rw [belUp_succ hl, belStep_out (.inr h)]; exact hn3
          · rw [belUp_succ hl, belStep_out (.inr h)]; exact ht3
    · obtain ⟨v3, v4, tb, rfl, sm, hlx, hn, ht⟩ := p
      have hll : ((xs.take kn).map V.ref).length = kn := by rw [List.length_map, List.length_take]; omega
      rw [hll] at hn ht
      refine ⟨_, rfl, _, rfl, fun y dy n1 n2 n3 => ⟨y, dy, _, _, rfl, upd_same, fun H4 h4 k4 => ⟨rfl, ?_⟩⟩⟩
      have s4 : Same H2 H4 := Same.made n1 n2 k4
      exact k H4 y dy na tb (sm.trans s4) h4 (s4 _ _ hn) ((ht.same s4).mono fun _ _ => trivial)
theorem ok_belief_of (T : Txt K mg t) : FnOk P w K mg base CX0 7 t.f_belief_of t.d_belief_of ["room"] (spBelief t) := by
  refine T.F_belief_of.ok sc_belief_of (fun vs H Q E h => ?_) (fun cdv A outer s H vs Q E hr h => ?_)
  · obtain ⟨_, _, _, rfl, _⟩ := h
    rfl
  · obtain ⟨a, s, fp, rfl, hR, hok, k⟩ := h
    obtain ⟨dx, la, lb, lc, ld, le, xs, hfp, R⟩ := id hR
    refine ⟨_, (pss_one (ps_ret (pe_call (ok_belief_before T) hr rfl T.m_belief_before T.F_belief_before.kp T.b_belief_before .nil pass0 (pa_cons (pv 0) (pa_cons (pe_callB (call_lenK (K := K) rfl) (by rfl) T.z_len PySem.boot_len (pa_cons (pe_fldK (K := K) rfl (pv 0) rfl) pa_nil)) pa_nil))))), ?_⟩
    refine ⟨_, rfl, _, rfl, a, _, dx, _, _, rfl, R.obj, T.cl_Room, T.n_Room_signals, rfl, le, _, rfl, .inl (SqL.of R.sgl), a, s, fp, s.sigs.length, (by rw [List.length_map, R.sgn]; rfl), hR, hok, Nat.le_refl _, k⟩
end
end Ck
namespace Ck
structure Tm (s : RmS) (T : Nat → Int) (off : Nat → Int) : Prop where
  ele : ∀ (i : Nat) (e : Ev), s.evs[i]? = some e → e.1.era ≤ s.eras.getD e.1.clock 0
  now : ∀ (i : Nat) (e : Ev), s.evs[i]? = some e → e.1.era = s.eras.getD e.1.clock 0 → T i = off e.1.clock + (e.1.reading : Int) * Sy35.UNIT ∧ s.begun.getD e.1.clock 0 ≤ e.1.reading
  old : ∀ (i : Nat) (e : Ev), s.evs[i]? = some e → e.1.era < s.eras.getD e.1.clock 0 → T i ≤ off e.1.clock + ((s.begun.getD e.1.clock 0 : Nat) : Int) * Sy35.UNIT
  all : ∀ (i j : Nat) (e f : Ev), s.evs[i]? = some e → s.evs[j]? = some f → ∀ b, clockB s.rates e f = some b → T j - T i ≤ b
  rise : ∀ (i j : Nat) (e f : Ev), s.evs[i]? = some e → s.evs[j]? = some f → i < j → e.1.clock = f.1.clock → e.1.era ≤ f.1.era
def Clk (s : RmS) : Prop := ∃ T off, Tm s T off
theorem unit_le (d : Int) (r : Nat) : d * Sy35.UNIT ≤ if 0 ≤ d then d * (Sy35.UNIT + (r : Int)) else d * (Sy35.UNIT - (r : Int)) := by
  split
  · rename_i h
    rw [Int.mul_add]
    have := Int.mul_nonneg h (Int.natCast_nonneg r)
    omega
  · rename_i h
    rw [Int.mul_sub]
    have := Int.mul_nonneg (show 0 ≤ -d by omega) (Int.natCast_nonneg r)
    rw [Int.neg_mul] at this
    omega
theorem same_era {rates : List Nat} {e f : Ev} {te tf o b : Int} (hc : e.1.clock = f.1.clock) (he : e.1.era = f.1.era) (h1 : te = o + (e.1.reading : Int) * Sy35.UNIT) (h2 : tf = o + (f.1.reading : Int) * Sy35.UNIT) (hb : clockB rates e f = some b) : tf - te ≤ b := by
  unfold clockB at hb
  rw [if_neg (by simp [hc]), if_pos he] at hb
  have hb := Option.some.inj hb
  have := unit_le ((f.1.reading : Int) - (e.1.reading : Int)) (rates.getD e.1.clock 0)
  rw [hb] at this
  have q : ((f.1.reading : Int) - (e.1.reading : Int)) * Sy35.UNIT = (f.1.reading : Int) * Sy35.UNIT - (e.1.reading : Int) * Sy35.UNIT := Int.sub_mul ..
  omega
theorem clockB_clock {rates : List Nat} {e f : Ev} {b : Int} (hb : clockB rates e f = some b) : e.1.clock = f.1.clock := by
  unfold clockB at hb
  by_cases h : e.1.clock = f.1.clock
  · exact h
  · rw [if_pos h] at hb; cases hb
theorem clockB_less {rates : List Nat} {e f : Ev} {b : Int} (hr : f.1.era < e.1.era) (hb : clockB rates e f = some b) : b = 0 := by
  have hc := clockB_clock hb
  unfold clockB at hb
  rw [if_neg (by simp [hc]), if_neg (by omega), if_pos (.inl hr)] at hb
  exact (Option.some.inj hb).symm
theorem clockB_more {rates : List Nat} {e f : Ev} {b : Int} (hr : e.1.era < f.1.era) (hb : clockB rates e f = some b) : b = 0 ∧ f.2 = e.2 := by
  have hc := clockB_clock hb
  unfold clockB at hb
  rw [if_neg (by simp [hc]), if_neg (by omega)] at hb
  by_cases h : f.1.era < e.1.era ∨ f.2 = e.2
  · rw [if_pos h] at hb
    exact ⟨(Option.some.inj hb).symm, h.resolve_left (by omega)⟩
  · rw [if_neg h] at hb; cases hb
theorem snoc_cases {l : List Ev} {x : Ev} {i : Nat} {e : Ev} (h : (l ++ [x])[i]? = some e) : (i < l.length ∧ l[i]? = some e) ∨ (i = l.length ∧ e = x) := by
  by_cases hi : i < l.length
  · rw [List.getElem?_append_left hi] at h; exact .inl ⟨hi, h⟩
  · have := (List.getElem?_eq_some_iff.mp h).1
    rw [List.length_append] at this
    have ei : i = l.length := by simp at this; omega
    subst ei
    rw [List.getElem?_append_right (Nat.le_refl _)] at h
    simp at h
    exact .inr ⟨rfl, h.symm⟩
theorem clk_note {s : RmS} {c r : Nat} (h : Clk s) (hl : ∀ (i : Nat) (e : Ev), s.evs[i]? = some e → e.2 < s.evs.length) (hb : s.begun.getD c 0 ≤ r) : Clk (noted s c r s.evs.length) := by
  obtain ⟨T, off, h⟩ := h
  obtain ⟨T', tn, ts⟩ : ∃ T' : Nat → Int, (∀ i, i < s.evs.length → T' i = T i) ∧ T' s.evs.length = off c + (r : Int) * Sy35.UNIT :=
    ⟨fun i => if i = s.evs.length then off c + (r : Int) * Sy35.UNIT else T i, fun i hi => if_neg (by omega), if_pos rfl⟩
  refine ⟨T', off, ?_⟩
  have hbu : ((s.begun.getD c 0 : Nat) : Int) * Sy35.UNIT ≤ (r : Int) * Sy35.UNIT := Int.mul_le_mul_of_nonneg_right (by omega) (by decide)
  refine ⟨fun i e he => ?_, fun i e he hn => ?_, fun i e he hn => ?_, fun i j e f he hf b hbb => ?_, fun i j e f he hf hij hcc => ?_⟩
  · rcases snoc_cases he with ⟨hi, he⟩ | ⟨ei, ee⟩
    · exact h.ele i e he
    · rw [ee]; exact Nat.le_refl _
  · rcases snoc_cases he with ⟨hi, he⟩ | ⟨ei, ee⟩
    · rw [tn i hi]
      exact h.now i e he hn
    · subst ee ei
      exact ⟨ts, hb⟩
  · rcases snoc_cases he with ⟨hi, he⟩ | ⟨ei, ee⟩
    · rw [tn i hi]
      exact h.old i e he hn
    · subst ee
      exact absurd hn (Nat.lt_irrefl _)
  · have hbb : clockB s.rates e f = some b := hbb
    rcases snoc_cases he with ⟨hi, he⟩ | ⟨ei, ee⟩ <;> rcases snoc_cases hf with ⟨hj, hf⟩ | ⟨ej, ef⟩
    · rw [tn i hi, tn j hj]
      exact h.all i j e f he hf b hbb
    · subst ef ej
      rw [tn i hi, ts]
      have hc := clockB_clock hbb
      have le := h.ele i e he
      by_cases hr : e.1.era = s.eras.getD e.1.clock 0
      · have q := (h.now i e he hr).1
        refine same_era hc (by rw [hr, hc]) (o := off c) ?_ rfl hbb
        rw [q, hc]
      · have lt : e.1.era < s.eras.getD c 0 := by
          have : e.1.clock = c := hc
          rw [this] at le hr
          omega
        obtain ⟨_, q⟩ := clockB_more (f := (⟨c, s.eras.getD c 0, r⟩, s.evs.length)) lt hbb
        have := hl i e he
        have q : s.evs.length = e.2 := q
        omega
    · subst ee ei
      rw [tn j hj, ts]
      have hc := clockB_clock hbb
      have hc : c = f.1.clock := hc
      have le := h.ele j f hf
      by_cases hr : f.1.era = s.eras.getD f.1.clock 0
      · have q := (h.now j f hf hr).1
        have hera : s.eras.getD c 0 = f.1.era := by rw [hr, ← hc]
        refine same_era (e := (⟨c, s.eras.getD c 0, r⟩, s.evs.length)) (f := f) (te := off c + (r : Int) * Sy35.UNIT) (o := off c) hc hera rfl ?_ hbb
        rw [q, ← hc]
      · have lt : f.1.era < s.eras.getD f.1.clock 0 := by omega
        have q := h.old j f hf lt
        rw [← hc] at q lt
        have := clockB_less (e := (⟨c, s.eras.getD c 0, r⟩, s.evs.length)) lt hbb
        omega
    · subst ee ei ef ej
      rw [ts]
      exact same_era (e := (⟨c, s.eras.getD c 0, r⟩, s.evs.length)) (f := (⟨c, s.eras.getD c 0, r⟩, s.evs.length)) (o := off c) (te := off c + (r : Int) * Sy35.UNIT) (tf := off c + (r : Int) * Sy35.UNIT) rfl rfl rfl rfl hbb
  · rcases snoc_cases he with ⟨hi, he⟩ | ⟨ei, ee⟩ <;> rcases snoc_cases hf with ⟨hj, hf⟩ | ⟨ej, ef⟩
    · exact h.rise i j e f he hf hij hcc
    · have := h.ele i e he
      rw [hcc, ef] at this
      rw [ef]; exact this
    · omega
    · omega
theorem clk_set {s s' : RmS} {c x y : Nat} (h : Clk s) (hce : c < s.eras.length) (hcb : c < s.begun.length) (hl : ∀ (i : Nat) (e : Ev), s.evs[i]? = some e → e.2 < s.evs.length) (hb : s.begun.getD c 0 ≤ x)
    (hx : ∀ e ∈ s.evs, e.1.clock = c → e.1.era = s.eras.getD c 0 → e.1.reading ≤ x) (e0 : s'.rates = s.rates) (e1 : ∀ d, s'.eras.getD d 0 = if d = c then s.eras.getD c 0 + 1 else s.eras.getD d 0) (e2 : ∀ d, s'.begun.getD d 0 = if d = c then y else s.begun.getD d 0)
    (e3 : s'.evs = s.evs ++ [(⟨c, s.eras.getD c 0, x⟩, s.evs.length)] ++ [(⟨c, s.eras.getD c 0 + 1, y⟩, s.evs.length)]) : Clk s' := by
  obtain ⟨T, off, h⟩ := h
  have hbu : ((s.begun.getD c 0 : Nat) : Int) * Sy35.UNIT ≤ (x : Int) * Sy35.UNIT := Int.mul_le_mul_of_nonneg_right (by omega) (by decide)
  have gap : ∀ (i : Nat) (e : Ev), s.evs[i]? = some e → e.1.clock = c → T i ≤ off c + (x : Int) * Sy35.UNIT := fun i e he hc => by
    have le := h.ele i e he
    by_cases hr : e.1.era = s.eras.getD e.1.clock 0
    · have q := (h.now i e he hr).1
      have hr' := hx e (List.mem_of_getElem? he) hc (by rw [hr, hc])
      have : (e.1.reading : Int) * Sy35.UNIT ≤ (x : Int) * Sy35.UNIT := Int.mul_le_mul_of_nonneg_right (by omega) (by decide)
      rw [q, hc]
      omega
    · have q := h.old i e he (by omega)
      rw [hc] at q
      omega
  refine ⟨fun i => if i < s.evs.length then T i else off c + (x : Int) * Sy35.UNIT, fun d => if d = c then off c + (x : Int) * Sy35.UNIT - (y : Int) * Sy35.UNIT else off d, ?_⟩
  have tn : ∀ i, i < s.evs.length → (if i < s.evs.length then T i else off c + (x : Int) * Sy35.UNIT) = T i := fun i hi => if_pos hi
  have ts : ∀ i, ¬ i < s.evs.length → (if i < s.evs.length then T i else off c + (x : Int) * Sy35.UNIT) = off c + (x : Int) * Sy35.UNIT := fun i hi => if_neg hi
  have cs : ∀ {i : Nat} {e : Ev}, s'.evs[i]? = some e → (i < s.evs.length ∧ s.evs[i]? = some e) ∨ (¬ i < s.evs.length ∧ e = (⟨c, s.eras.getD c 0, x⟩, s.evs.length)) ∨ (¬ i < s.evs.length ∧ e = (⟨c, s.eras.getD c 0 + 1, y⟩, s.evs.length)) := fun {i e} he => by
    rw [e3] at he
    rcases snoc_cases he with ⟨hi, he⟩ | ⟨hi, he⟩
    · rcases snoc_cases he with ⟨hi, he⟩ | ⟨hi, he⟩
      · exact .inl ⟨hi, he⟩
      · exact .inr (.inl ⟨by omega, he⟩)
    · rw [List.length_append] at hi
      exact .inr (.inr ⟨by omega, he⟩)
  refine ⟨fun i e he => ?_, fun i e he hn => ?_, fun i e he hn => ?_, fun i j e f he hf b hbb => ?_, fun i j e f he hf hij hcc => ?_⟩
  · rw [e1]
    rcases cs he with ⟨hi, he⟩ | ⟨hi, he⟩ | ⟨hi, he⟩
    · have := h.ele i e he
      split
      · rename_i q; rw [q] at this; omega
      · exact this
    · rw [he, if_pos rfl]; exact Nat.le_succ _
    · rw [he, if_pos rfl]; exact Nat.le_refl _
  · rw [e1] at hn
    rw [e2]
    rcases cs he with ⟨hi, he⟩ | ⟨hi, he⟩ | ⟨hi, he⟩
    · simp only [tn i hi]
      have le := h.ele i e he
      by_cases q : e.1.clock = c
      · rw [if_pos q] at hn
        rw [q] at le
        omega
      · rw [if_neg q] at hn
        rw [if_neg q, if_neg q]
        exact h.now i e he hn
    · rw [he, if_pos rfl] at hn
      have hn : s.eras.getD c 0 = s.eras.getD c 0 + 1 := hn
      omega
    · simp only [ts i hi]
      rw [he, if_pos rfl, if_pos rfl]
      refine ⟨?_, Nat.le_refl _⟩
      show off c + (x : Int) * Sy35.UNIT = off c + (x : Int) * Sy35.UNIT - (y : Int) * Sy35.UNIT + (y : Int) * Sy35.UNIT
      omega
  · rw [e1] at hn
    rw [e2]
    rcases cs he with ⟨hi, he⟩ | ⟨hi, he⟩ | ⟨hi, he⟩
    · simp only [tn i hi]
      by_cases q : e.1.clock = c
      · rw [if_pos q, if_pos q]
        have := gap i e he q
        omega
      · rw [if_neg q] at hn
        rw [if_neg q, if_neg q]
        exact h.old i e he hn
    · simp only [ts i hi]
      rw [he, if_pos rfl, if_pos rfl]
      omega
    · rw [he, if_pos rfl] at hn
      exact absurd hn (Nat.lt_irrefl _)
  · rw [e0] at hbb
    have hc := clockB_clock hbb
    rcases cs he with ⟨hi, he⟩ | ⟨hi, he⟩ | ⟨hi, he⟩ <;> rcases cs hf with ⟨hj, hf⟩ | ⟨hj, hf⟩ | ⟨hj, hf⟩
    · simp only [tn i hi, tn j hj]
      exact h.all i j e f he hf b hbb
    · simp only [tn i hi, ts j hj]
      have le := h.ele i e he
      have hc' : e.1.clock = c := by rw [hc, hf]
      by_cases hr : e.1.era = s.eras.getD e.1.clock 0
      · have q := (h.now i e he hr).1
        refine same_era hc (by rw [hr, hc', hf]) (o := off c) (by rw [q, hc']) (by rw [hf]) hbb
      · obtain ⟨_, q⟩ := clockB_more (by rw [hf]; show e.1.era < s.eras.getD c 0; rw [hc'] at le hr; omega) hbb
        have := hl i e he
        rw [hf] at q
        have q : s.evs.length = e.2 := q
        omega
    · have le := h.ele i e he
      have hc' : e.1.clock = c := by rw [hc, hf]
      obtain ⟨_, q⟩ := clockB_more (by rw [hf]; show e.1.era < s.eras.getD c 0 + 1; rw [hc'] at le; omega) hbb
      have := hl i e he
      rw [hf] at q
      have q : s.evs.length = e.2 := q
      omega
    · simp only [ts i hi, tn j hj]
      have le := h.ele j f hf
      have hc' : f.1.clock = c := by rw [← hc, he]
      by_cases hr : f.1.era = s.eras.getD f.1.clock 0
      · have q := (h.now j f hf hr).1
        refine same_era hc (by rw [hr, hc', he]) (o := off c) (by rw [he]) (by rw [q, hc']) hbb
      · have q := clockB_less (by rw [he]; show f.1.era < s.eras.getD c 0; rw [hc'] at le hr; omega) hbb
        have := gap j f hf hc'
        omega
    · simp only [ts i hi, ts j hj]
      refine same_era hc (by rw [he, hf]) (o := off c) (by rw [he]) (by rw [hf]) hbb
    · simp only [ts i hi, ts j hj]
      obtain ⟨q, _⟩ := clockB_more (by rw [he, hf]; exact Nat.lt_succ_self _) hbb
      omega
    · simp only [ts i hi, tn j hj]
      have le := h.ele j f hf
      have hc' : f.1.clock = c := by rw [← hc, he]
      have q := clockB_less (by rw [he]; show f.1.era < s.eras.getD c 0 + 1; rw [hc'] at le; omega) hbb
      have := gap j f hf hc'
      omega
    · simp only [ts i hi, ts j hj]
      have q := clockB_less (by rw [he, hf]; exact Nat.lt_succ_self _) hbb
      omega
    · simp only [ts i hi, ts j hj]
      have z : off c + (x : Int) * Sy35.UNIT = (off c + (x : Int) * Sy35.UNIT - (y : Int) * Sy35.UNIT) + (y : Int) * Sy35.UNIT := by omega
      refine same_era hc (by rw [he, hf]) (o := off c + (x : Int) * Sy35.UNIT - (y : Int) * Sy35.UNIT) (by rw [he]; exact z) (by rw [hf]; exact z) hbb
  · rw [e3] at he hf
    rcases snoc_cases hf with ⟨hj, hf⟩ | ⟨ej, ef⟩
    · rcases snoc_cases hf with ⟨hj', hf⟩ | ⟨ej, ef⟩
      · rw [List.getElem?_append_left (by omega), List.getElem?_append_left (by omega)] at he
        exact h.rise i j e f he hf hij hcc
      · rw [List.getElem?_append_left (by omega), List.getElem?_append_left (by omega)] at he
        have := h.ele i e he
        rw [hcc, ef] at this
        rw [ef]; exact this
    · rw [List.getElem?_append_left (by omega)] at he
      rcases snoc_cases he with ⟨hi, he⟩ | ⟨ei, ee⟩
      · have := h.ele i e he
        rw [hcc, ef] at this
        rw [ef]; exact Nat.le_succ_of_le this
      · rw [ee, ef]; exact Nat.le_succ _
end Ck
namespace Ck
open PySem PySem.Spec PyProof.Rows L2
structure Gd (s : RmS) (u : Sy35.St) : Prop where
  rates : s.rates = u.rates
  evs : s.evs.map (·.1) = u.events
  sigs : s.sigs = u.signals
  elen : s.eras.length = s.rates.length
  blen : s.begun.length = s.rates.length
  era : ∀ c, c < s.rates.length → s.eras.getD c 0 = Sy35.era u c
  begun : ∀ c, c < s.rates.length → s.begun.getD c 0 = Sy35.begun u c
  inst : ∀ (i j : Nat) (e f : Ev), s.evs[i]? = some e → s.evs[j]? = some f → i ≠ j → (e.2 = f.2 ↔ (i, j) ∈ u.sets ∨ (j, i) ∈ u.sets)
  instle : ∀ (i : Nat) (e : Ev), s.evs[i]? = some e → e.2 ≤ i
  setlt : ∀ p ∈ u.sets, p.1 < p.2 ∧ p.2 < s.evs.length
  setdiff : ∀ p ∈ u.sets, ∀ (e f : Ev), s.evs[p.1]? = some e → s.evs[p.2]? = some f → e.1.clock = f.1.clock ∧ f.1.era = e.1.era + 1
  ok : RmOk s
  clk : Clk s
theorem Gd.size {s : RmS} {u : Sy35.St} (g : Gd s u) : Sy35.size u = s.evs.length := by
  unfold Sy35.size
  rw [← g.evs, List.length_map]
def Post (t : Adr) (H : Hp) (Q : VK) (a : Addr) (fp : List Addr) (u : Sy35.St) (c : Sy35.Call) : Prop := ∀ (H' : Hp) (fp' : List Addr) (p : Addr) (s' : RmS), RmAt t H' a s' fp' → Gd s' (Sy35.step u c).1 → Keep H fp H' fp' → H p = none → H' p = some (.lst ((Sy35Neutral.out (Sy35.step u c).2).map V.int)) → Q (.ref p) H'
theorem Post.plain {t : Adr} {H : Hp} {Q : VK} {a : Addr} {s : RmS} {fp : List Addr} {u : Sy35.St} {c : Sy35.Call} {v : Sy35.Ans} (k : Post t H Q a fp u c) (R : RmAt t H a s fp) (g : Gd s u) (e : Sy35.step u c = (u, v)) {H1 : Hp} (sm : Same H H1) {p : Addr} (hp : H p = none) (h1 : H1 p = some (.lst ((Sy35Neutral.out v).map V.int))) : Q (.ref p) H1 := by
  refine k H1 fp p s (R.same sm) ?_ (Keep.same fp sm) hp ?_
  · rw [e]; exact g
  · rw [e]; exact h1
theorem Post.new {t : Adr} {H : Hp} {Q : VK} {a : Addr} {s : RmS} {fp : List Addr} {u : Sy35.St} {c : Sy35.Call} {v : Int} (k : Post t H Q a fp u c) (R : RmAt t H a s fp) (g : Gd s u) (e : Sy35.step u c = (u, Sy35.ok v)) {H1 : Hp} (sm : Same H H1) {p : Addr} (hp : H1 p = none) : Q (.ref p) (upd H1 p (.lst [.int v])) :=
  k.plain R g e (sm.trans (Same.new hp)) (sm.free hp) upd_same
theorem one_fits : 1 ≤ sizeLine := by decide
theorem not_dec {p : Prop} [Decidable p] (h : (!decide p) = true) : ¬ p := by simpa using h
theorem yes_dec {p : Prop} [Decidable p] (h : ¬ (!decide p) = true) : p := by simpa using h
theorem d_t {p : Prop} [Decidable p] (h : decide p = true) : p := of_decide_eq_true h
theorem d_f {p : Prop} [Decidable p] (h : ¬ decide p = true) : ¬ p := fun z => h (decide_eq_true z)
def spEvent (t : Adr) : Sp := fun vs H Q _ => ∃ (a : Addr) (s : RmS) (fp : List Addr) (u : Sy35.St) (c r : Nat), vs = [.ref a, nV c, nV r] ∧ RmAt t H a s fp ∧ Gd s u ∧ Post t H Q a fp u (.event c r)
theorem fm_congr {α β : Type} {f g : α → Option β} : ∀ (l : List α), (∀ x ∈ l, f x = g x) → l.filterMap f = l.filterMap g
  | [], _ => rfl
  | a :: l, h => by
    rw [List.filterMap_cons, List.filterMap_cons, h a (List.mem_cons_self ..), fm_congr l fun x hx => h x (List.mem_cons_of_mem _ hx)]
theorem eventAt_app {u : Sy35.St} {l : List Sy35.Event} {i : Nat} (h : i < u.events.length) : Sy35.eventAt { u with events := u.events ++ l } i = Sy35.eventAt u i := by
  unfold Sy35.eventAt
  rw [List.getD_eq_getElem?_getD, List.getD_eq_getElem?_getD]
  show ((u.events ++ l)[i]?).getD _ = _
  rw [List.getElem?_append_left h]
theorem Gd.app {s : RmS} {u : Sy35.St} (g : Gd s u) (l : List Sy35.Event) (c : Nat) : Sy35.era { u with events := u.events ++ l } c = Sy35.era u c ∧ Sy35.begun { u with events := u.events ++ l } c = Sy35.begun u c := by
  have lt : ∀ p ∈ u.sets, p.1 < u.events.length ∧ p.2 < u.events.length := fun p hp => by
    have := g.setlt p hp
    rw [← g.evs, List.length_map]
    omega
  constructor
  · unfold Sy35.era
    congr 1
    refine List.filter_congr fun x hx => ?_
    rw [eventAt_app (lt x hx).1]
  · unfold Sy35.begun
    congr 2
    refine fm_congr _ fun x hx => ?_
    rw [eventAt_app (lt x hx).1, eventAt_app (lt x hx).2]
theorem good_note {s : RmS} {u : Sy35.St} {c r : Nat} (g : Gd s u) (hc : c < s.rates.length) (hn : s.evs.length < 24) (hb : s.begun.getD c 0 ≤ r) : Gd (noted s c r s.evs.length) { u with events := u.events ++ [⟨c, Sy35.era u c, r⟩] } := by
  refine ⟨g.rates, ?_, g.sigs, g.elen, g.blen, fun d hd => ?_, fun d hd => ?_, fun i j e f he hf hij => ?_, fun i e he => ?_, fun p hp => ?_, fun p hp e f he hf => ?_, ?_, clk_note g.clk (fun i e he => ?_) hb⟩
  · show (s.evs ++ _).map _ = _
    rw [List.map_append, g.evs]
    show _ ++ [_] = _ ++ [_]
    rw [g.era c hc]
  · rw [(g.app _ d).1]; exact g.era d hd
  · rw [(g.app _ d).2]; exact g.begun d hd
  · have lt := fun p (hp : p ∈ u.sets) => g.setlt p hp
    have he : (s.evs ++ [(⟨c, s.eras.getD c 0, r⟩, s.evs.length)])[i]? = some e := he
    have hf : (s.evs ++ [(⟨c, s.eras.getD c 0, r⟩, s.evs.length)])[j]? = some f := hf
    have cases2 : ∀ {i : Nat} {e : Ev}, (s.evs ++ [((⟨c, s.eras.getD c 0, r⟩ : Sy35.Event), s.evs.length)])[i]? = some e → s.evs[i]? = some e ∨ (i = s.evs.length ∧ e.2 = s.evs.length) := fun {i e} h => by
      by_cases hi : i < s.evs.length
      · rw [List.getElem?_append_left hi] at h; exact .inl h
      · have := (List.getElem?_eq_some_iff.mp h).1
        rw [List.length_append] at this
        have ei : i = s.evs.length := by simp at this; omega
        subst ei
        rw [List.getElem?_append_right (Nat.le_refl _)] at h
        simp at h
        exact .inr ⟨rfl, by rw [← h]⟩
    rcases cases2 he with he | ⟨e1, e2⟩ <;> rcases cases2 hf with hf | ⟨f1, f2⟩
    · exact g.inst i j e f he hf hij
    · have h1 := g.instle i e he
      have h2 := (List.getElem?_eq_some_iff.mp he).1
      constructor
      · intro z; omega
      · rintro (z | z)
        · have := lt _ z; simp at this; omega
        · have := lt _ z; simp at this; omega
    · have h1 := g.instle j f hf
      have h2 := (List.getElem?_eq_some_iff.mp hf).1
      constructor
      · intro z; omega
      · rintro (z | z)
        · have := lt _ z; simp at this; omega
        · have := lt _ z; simp at this; omega
    · exact absurd (e1.trans f1.symm) hij
  · have he : (s.evs ++ [(⟨c, s.eras.getD c 0, r⟩, s.evs.length)])[i]? = some e := he
    by_cases hi : i < s.evs.length
    · rw [List.getElem?_append_left hi] at he; exact g.instle i e he
    · rw [List.getElem?_append_right (by omega)] at he
      have := (List.getElem?_eq_some_iff.mp he).1
      have ei : i - s.evs.length = 0 := by simp at this; omega
      rw [ei] at he
      simp at he
      rw [← he]
      show s.evs.length ≤ i
      omega
  · have := g.setlt p hp
    refine ⟨this.1, ?_⟩
    show p.2 < (s.evs ++ _).length
    rw [List.length_append]
    omega
  · have h := g.setlt p hp
    have he : (s.evs ++ [(⟨c, s.eras.getD c 0, r⟩, s.evs.length)])[p.1]? = some e := he
    have hf : (s.evs ++ [(⟨c, s.eras.getD c 0, r⟩, s.evs.length)])[p.2]? = some f := hf
    rw [List.getElem?_append_left (by omega)] at he hf
    exact g.setdiff p hp e f he hf
  · have o := g.ok
    refine ⟨⟨o.rok.rate, fun e he => ?_⟩, ?_, o.sfew, fun x hx => ?_, o.sgl, o.sne⟩
    · have he : e ∈ s.evs ++ [(⟨c, s.eras.getD c 0, r⟩, s.evs.length)] := he
      rcases List.mem_append.mp he with h | h
      · exact o.rok.clk e h
      · rw [List.mem_singleton.mp h]; exact hc
    · show (s.evs ++ _).length ≤ 24
      rw [List.length_append]
      show s.evs.length + 1 ≤ 24
      omega
    · have := o.sgn x hx
      show _ < (s.evs ++ _).length ∧ _ < (s.evs ++ _).length
      rw [List.length_append]
      omega
  · have h1 := g.instle i e he
    have h2 := (List.getElem?_eq_some_iff.mp he).1
    omega
section
variable {P : Program} {w : World} {K : PySem.W.Frag} {mg : Str → Option Value} {base : Heap} {t : Adr}
theorem ok_tell_event (T : Txt K mg t) : FnOk P w K mg base CX0 4 t.f_tell_event t.d_tell_event ["room", "clock", "reading"] (spEvent t) := by
  refine T.F_tell_event.ok sc_tell_event (fun vs H Q E h => ?_) (fun cdv A outer s H vs Q E hr h => ?_)
  · obtain ⟨_, _, _, _, _, _, rfl, _⟩ := h
    rfl
  · obtain ⟨a, s, fp, u, c, r, rfl, hR, g, k⟩ := h
    obtain ⟨dx, la, lb, lc, ld, le, xs, hfp, R⟩ := id hR
    have st : Sy35.step u (.event c r) = (if u.rates.length ≤ c ∨ Sy35.READING < r then (u, Sy35.ok (-1)) else if r < Sy35.begun u c then (u, Sy35.ok (-6)) else if Sy35.EVENTS ≤ Sy35.size u then (u, Sy35.ok (-5)) else ({ u with events := u.events ++ [⟨c, Sy35.era u c, r⟩] }, Sy35.ok (Sy35.size u : Nat))) := rfl
    refine ⟨_, (pss_cons (ps_if (PW.pt (pw_or (pt_not (pt_val (pe_meth (pv 0) T.cl_Room T.h_Room_has_clock (ok_Room_has_clock T) (hr.mono (by decide)) T.b_Room_has_clock .nil pass0 (pa_cons (pv 1) pa_nil)))) (pw_or1 (pt_cmp (pc_gt (pv 2) (pe_gint rfl T.g_MOST_READING)))))) (pss_one (ps_ret (pe_lst (pa_cons (pe_un un_neg pe_int) pa_nil)))) pss_nil) (pss_cons (ps_if (pt_cmp (pc_lt (pv 2) (pe_ix (ixL (K := K) rfl) (pe_fldK (K := K) rfl (pv 0) rfl) (pv 1) (fun _ _ => rfl)))) (pss_one (ps_ret (pe_lst (pa_cons (pe_un un_neg pe_int) pa_nil)))) pss_nil) (pss_cons (ps_set (i := 3) sc_tell_event.nd rfl (Or.inl rfl) (pe_callB (call_lenK (K := K) rfl) (by rfl) T.z_len PySem.boot_len (pa_cons (pe_fldK (K := K) rfl (pv 0) rfl) pa_nil))) (pss_cons (ps_if (pt_cmp (pc_ge (pv 3) (pe_gint rfl T.g_MOST_EVENTS))) (pss_one (ps_ret (pe_lst (pa_cons (pe_un un_neg pe_int) pa_nil)))) pss_nil) (pss_cons (ps_expr (pe_meth (pv 0) T.cl_Room T.h_Room_note (ok_Room_note T) hr T.b_Room_note .nil pass0 (pa_cons (pv 1) (pa_cons (pv 2) (pa_cons (pv 3) pa_nil))))) (pss_one (ps_ret (pe_lst (pa_cons (pv 3) pa_nil))))))))), ?_⟩
    refine ⟨_, rfl, a, dx, _, rfl, R.obj, rfl, _, rfl, a, s, fp, c, rfl, hR, _, rfl, ite2 (fun h => iteT ?_) (fun h => ?_)⟩
    · rw [if_pos (.inl (by have := not_dec h; rw [← g.rates]; omega))] at st
      exact ⟨_, rfl, one_fits, fun p hp => k.new hR g st (Same.refl H) hp⟩
    · have hc : c < s.rates.length := by have := yes_dec h; omega
      refine ⟨_, rfl, _, _, rfl, rfl, _, rfl, ite2 (fun h => ?_) (fun h => ?_)⟩
      · rw [if_pos (.inr (by have := d_t h; show 1000000 < r; omega))] at st
        exact ⟨_, rfl, one_fits, fun p hp => k.new hR g st (Same.refl H) hp⟩
      · rw [if_neg (by rw [← g.rates]; have := d_f h; show ¬ (_ ∨ 1000000 < r); omega)] at st
        have hcb : c < s.begun.length := by rw [g.blen]; exact hc
        refine ⟨_, rfl, _, rfl, a, _, dx, _, _, rfl, R.obj, T.cl_Room, T.n_Room_begun, rfl, _, rfl, lc, _, _, _, rfl, rfl, SqL.of R.bgn, at_of (j := c) rfl (ints_get hcb), _, _, rfl, rfl, _, rfl, ite2 (fun h => ?_) (fun h => ?_)⟩
        · rw [if_pos (by have := d_t h; rw [← g.begun c hc]; omega)] at st
          exact ⟨_, rfl, one_fits, fun p hp => k.new hR g st (Same.refl H) hp⟩
        · rw [if_neg (by have := d_f h; rw [← g.begun c hc]; omega)] at st
          have hbr : s.begun.getD c 0 ≤ r := by have := d_f h; omega
          obtain ⟨as, e1, e2, e3⟩ := R.evs.ex
          refine ⟨_, rfl, a, _, dx, _, _, rfl, R.obj, T.cl_Room, T.n_Room_events, rfl, ld, _, rfl, .inl (SqL.of e1), _, rfl, _, _, rfl, rfl, _, rfl, ite2 (fun h => ?_) (fun h => ?_)⟩
          · rw [if_pos (by have := d_t h; rw [g.size]; rw [List.length_map, e2] at this; show 24 ≤ _; omega)] at st
            exact ⟨_, rfl, one_fits, fun p hp => k.new hR g st (Same.refl H) hp⟩
          · have hn : s.evs.length < 24 := by have := d_f h; rw [List.length_map, e2] at this; omega
            rw [if_neg (by rw [g.size]; show ¬ 24 ≤ _; omega)] at st
            refine ⟨_, rfl, a, dx, _, rfl, R.obj, rfl, _, rfl, _, rfl, _, rfl, a, s, fp, c, r, s.evs.length, by rw [List.length_map, e2]; rfl, hR, by rw [g.elen]; exact hc, by omega, fun H' R' kp => ?_⟩
            refine ⟨_, rfl, one_fits, fun p hp => ?_⟩
            rw [List.length_map, e2]
            have hpH : H p = none := kp.dom p hp
            refine k _ fp p (noted s c r s.evs.length) (R'.same (Same.new hp)) ?_ (kp.trans (Keep.same fp (Same.new hp))) hpH ?_
            · rw [st]; exact good_note g hc hn hbr
            · rw [st, upd_same, g.size]; rfl
end
end Ck
namespace Ck
open PySem PySem.Spec PyProof.Rows L2
def reachStep (s : RmS) (c m : Nat) (e : Ev) : Nat := if e.1.clock = c ∧ e.1.era = s.eras.getD c 0 then max m e.1.reading else m
def reach (s : RmS) (c : Nat) : Nat := s.evs.foldl (reachStep s c) (s.begun.getD c 0)
theorem reach_lt {s : RmS} {c x : Nat} : ∀ (l : List Ev) (m : Nat), x < l.foldl (reachStep s c) m ↔ x < m ∨ ∃ e ∈ l, e.1.clock = c ∧ e.1.era = s.eras.getD c 0 ∧ x < e.1.reading
  | [], m => by simp
  | e :: l, m => by
    rw [List.foldl_cons, reach_lt l]
    unfold reachStep
    constructor
    · rintro (h | ⟨f, hf, h⟩)
      · split at h
        · rename_i hc
          by_cases z : x < m
          · exact .inl z
          · exact .inr ⟨e, List.mem_cons_self .., hc.1, hc.2, by omega⟩
        · exact .inl h
      · exact .inr ⟨f, List.mem_cons_of_mem _ hf, h⟩
    · rintro (h | ⟨f, hf, h⟩)
      · left
        split <;> omega
      · rcases List.mem_cons.mp hf with rfl | hf
        · left
          rw [if_pos ⟨h.1, h.2.1⟩]
          omega
        · exact .inr ⟨f, hf, h⟩
def spReach (t : Adr) : Sp := fun vs H Q _ => ∃ (a : Addr) (s : RmS) (fp : List Addr) (c : Nat), vs = [.ref a, nV c] ∧ RmAt t H a s fp ∧ c < s.eras.length ∧ c < s.begun.length ∧ Q (nV (reach s c)) H
def spSet (t : Adr) : Sp := fun vs H Q _ => ∃ (a : Addr) (s : RmS) (fp : List Addr) (u : Sy35.St) (c x y : Nat), vs = [.ref a, nV c, nV x, nV y] ∧ RmAt t H a s fp ∧ Gd s u ∧ Post t H Q a fp u (.set c x y)
theorem ixN_nat {n c : Nat} (h : c < n) : ixN n (c : Int) = some c := by
  unfold ixN
  rw [if_pos (by omega), if_pos (by omega)]
  simp
theorem RmI.ersPut {t : Adr} {H : Hp} {a : Addr} {s : RmS} {dx la lb lc ld le : Addr} {xs : List Addr} (R : RmI t H a s dx la lb lc ld le xs) (ns : List Nat) :
    RmI t (upd H lb (.lst (ns.map nV))) a { s with eras := ns } dx la lb lc ld le xs := by
  have nd := R.nd
  simp only [List.nodup_cons, List.mem_cons, not_or] at nd
  obtain ⟨⟨n1, n2, n3, n4, n5, n6⟩, ⟨n7, n8, n9, n10, n11⟩, ⟨n12, n13, n14, n15⟩, ⟨n16, n17, n18⟩, ⟨n19, n20⟩, n21, n22⟩ := nd
  refine ⟨by rw [upd_ne n2]; exact R.obj, ?_, upd_same, ?_, ?_, by rw [upd_ne (Ne.symm n14)]; exact R.sgl, R.sgn, fun i y q => ?_, R.nd⟩
  · show upd H lb _ la = _
    rw [upd_ne n7]; exact R.rts
  · show upd H lb _ lc = _
    rw [upd_ne (Ne.symm n12)]; exact R.bgn
  · obtain ⟨as, e1, e2, e3⟩ := R.evs.ex
    refine ⟨as, by rw [upd_ne (Ne.symm n13)]; exact e1, e2, fun i f hf => ?_⟩
    obtain ⟨p, h2, h3⟩ := e3 i f hf
    have z := ev_ne_lst h3 R.ers
    obtain ⟨d, h3⟩ := h3
    exact ⟨p, h2, d, by rw [upd_ne z]; exact h3⟩
  · obtain ⟨p, h2, h3⟩ := R.sgs i y q
    have z := sg_ne_lst h3 R.ers
    obtain ⟨d, h3⟩ := h3
    exact ⟨p, h2, d, by rw [upd_ne z]; exact h3⟩
theorem RmI.bgnPut {t : Adr} {H : Hp} {a : Addr} {s : RmS} {dx la lb lc ld le : Addr} {xs : List Addr} (R : RmI t H a s dx la lb lc ld le xs) (ns : List Nat) :
    RmI t (upd H lc (.lst (ns.map nV))) a { s with begun := ns } dx la lb lc ld le xs := by
  have nd := R.nd
  simp only [List.nodup_cons, List.mem_cons, not_or] at nd
  obtain ⟨⟨n1, n2, n3, n4, n5, n6⟩, ⟨n7, n8, n9, n10, n11⟩, ⟨n12, n13, n14, n15⟩, ⟨n16, n17, n18⟩, ⟨n19, n20⟩, n21, n22⟩ := nd
  refine ⟨by rw [upd_ne n3]; exact R.obj, ?_, ?_, upd_same, ?_, by rw [upd_ne (Ne.symm n17)]; exact R.sgl, R.sgn, fun i y q => ?_, R.nd⟩
  · show upd H lc _ la = _
    rw [upd_ne n8]; exact R.rts
  · show upd H lc _ lb = _
    rw [upd_ne n12]; exact R.ers
  · obtain ⟨as, e1, e2, e3⟩ := R.evs.ex
    refine ⟨as, by rw [upd_ne (Ne.symm n16)]; exact e1, e2, fun i f hf => ?_⟩
    obtain ⟨p, h2, h3⟩ := e3 i f hf
    have z := ev_ne_lst h3 R.bgn
    obtain ⟨d, h3⟩ := h3
    exact ⟨p, h2, d, by rw [upd_ne z]; exact h3⟩
  · obtain ⟨p, h2, h3⟩ := R.sgs i y q
    have z := sg_ne_lst h3 R.bgn
    obtain ⟨d, h3⟩ := h3
    exact ⟨p, h2, d, by rw [upd_ne z]; exact h3⟩
def setRm (s : RmS) (c x y : Nat) : RmS := noted { noted s c x s.evs.length with eras := s.eras.set c (s.eras.getD c 0 + 1), begun := s.begun.set c y } c y s.evs.length
theorem getD_set {l : List Nat} {c d v : Nat} (h : c < l.length) : (l.set c v).getD d 0 = if d = c then v else l.getD d 0 := by
  rw [List.getD_eq_getElem?_getD, List.getD_eq_getElem?_getD]
  by_cases e : d = c
  · subst e
    rw [if_pos rfl, List.getElem?_set_self h]
    rfl
  · rw [if_neg e, List.getElem?_set_ne (Ne.symm e)]
theorem setRm_evs {s : RmS} {c x y : Nat} (h : c < s.eras.length) : (setRm s c x y).evs = s.evs ++ [(⟨c, s.eras.getD c 0, x⟩, s.evs.length), (⟨c, s.eras.getD c 0 + 1, y⟩, s.evs.length)] := by
  unfold setRm noted
  simp only
  rw [getD_set h, if_pos rfl, List.append_assoc]
  rfl
theorem good_set {s : RmS} {u : Sy35.St} {c x y : Nat} (g : Gd s u) (hc : c < s.rates.length) (hn : s.evs.length + 2 ≤ 24) (hx : reach s c ≤ x) :
    Gd (setRm s c x y) { u with events := u.events ++ [⟨c, Sy35.era u c, x⟩, ⟨c, Sy35.era u c + 1, y⟩], sets := u.sets ++ [(Sy35.size u, Sy35.size u + 1)] } := by
  have hce : c < s.eras.length := by rw [g.elen]; exact hc
  have hcb : c < s.begun.length := by rw [g.blen]; exact hc
  have hev := setRm_evs (x := x) (y := y) hce
  have hul : u.events.length = s.evs.length := by rw [← g.evs, List.length_map]
  rw [g.size]
  have at1 : Sy35.eventAt { u with events := u.events ++ [⟨c, Sy35.era u c, x⟩, ⟨c, Sy35.era u c + 1, y⟩], sets := u.sets ++ [(s.evs.length, s.evs.length + 1)] } s.evs.length = ⟨c, Sy35.era u c, x⟩ := by
    unfold Sy35.eventAt
    simp only
    rw [List.getD_eq_getElem?_getD, List.getElem?_append_right (by omega), hul]
    simp
  have at2 : Sy35.eventAt { u with events := u.events ++ [⟨c, Sy35.era u c, x⟩, ⟨c, Sy35.era u c + 1, y⟩], sets := u.sets ++ [(s.evs.length, s.evs.length + 1)] } (s.evs.length + 1) = ⟨c, Sy35.era u c + 1, y⟩ := by
    unfold Sy35.eventAt
    simp only
    rw [List.getD_eq_getElem?_getD, List.getElem?_append_right (by omega), hul]
    simp
  have era' : ∀ d, Sy35.era { u with events := u.events ++ [⟨c, Sy35.era u c, x⟩, ⟨c, Sy35.era u c + 1, y⟩], sets := u.sets ++ [(s.evs.length, s.evs.length + 1)] } d = Sy35.era u d + (if d = c then 1 else 0) := fun d => by
    have h0 := (g.app [⟨c, Sy35.era u c, x⟩, ⟨c, Sy35.era u c + 1, y⟩] d).1
    unfold Sy35.era at h0 ⊢
    simp only [List.filter_append, List.length_append]
    refine congr (congrArg _ h0) ?_
    by_cases e : d = c
    · subst e
      rw [if_pos rfl]
      simp [List.filter_cons, at1]
      rw [if_pos (by unfold Sy35.era at at1; rw [at1])]
      rfl
    · rw [if_neg e]
      rw [List.filter_cons, if_neg, List.filter_nil]
      · rfl
      · unfold Sy35.era at at1
        rw [at1]
        simp
        exact fun z => e z.symm
  have bgn' : ∀ d, Sy35.begun { u with events := u.events ++ [⟨c, Sy35.era u c, x⟩, ⟨c, Sy35.era u c + 1, y⟩], sets := u.sets ++ [(s.evs.length, s.evs.length + 1)] } d = if d = c then y else Sy35.begun u d := fun d => by
    have h0 := (g.app [⟨c, Sy35.era u c, x⟩, ⟨c, Sy35.era u c + 1, y⟩] d).2
    unfold Sy35.begun at h0 ⊢
    simp only [List.filterMap_append]
    by_cases e : d = c
    · subst e
      rw [if_pos rfl, List.filterMap_cons]
      simp only [at1, at2, if_true, List.filterMap_nil]
      rw [List.getLast?_append]
      rfl
    · rw [if_neg e, List.filterMap_cons]
      simp only [at1, at2, List.filterMap_nil]
      rw [if_neg (fun z => e z.symm), List.append_nil]
      exact h0
  have cases3 : ∀ {i : Nat} {e : Ev}, (setRm s c x y).evs[i]? = some e → (i < s.evs.length ∧ s.evs[i]? = some e) ∨ (i = s.evs.length ∧ e = (⟨c, s.eras.getD c 0, x⟩, s.evs.length)) ∨ (i = s.evs.length + 1 ∧ e = (⟨c, s.eras.getD c 0 + 1, y⟩, s.evs.length)) := fun {i e} h => by
    rw [hev] at h
    by_cases hi : i < s.evs.length
    · rw [List.getElem?_append_left hi] at h; exact .inl ⟨hi, h⟩
    · right
      rw [List.getElem?_append_right (by omega)] at h
      have hl := (List.getElem?_eq_some_iff.mp h).1
      simp at hl
      by_cases z : i = s.evs.length
      · left
        subst z
        simp at h
        exact ⟨rfl, h.symm⟩
      · right
        have z : i = s.evs.length + 1 := by omega
        subst z
        simp at h
        exact ⟨rfl, h.symm⟩
  have hlen : (setRm s c x y).evs.length = s.evs.length + 2 := by rw [hev, List.length_append]; rfl
  have ilt : ∀ {i : Nat} {e : Ev}, s.evs[i]? = some e → e.2 < s.evs.length := fun {i e} h => by
    have h1 := g.instle i e h
    have h2 := (List.getElem?_eq_some_iff.mp h).1
    omega
  have olds : ∀ {i j : Nat}, (i, j) ∈ u.sets ++ [(s.evs.length, s.evs.length + 1)] ↔ (i, j) ∈ u.sets ∨ (i = s.evs.length ∧ j = s.evs.length + 1) := fun {i j} => by
    rw [List.mem_append]
    simp
  have lts : ∀ {i j : Nat}, (i, j) ∈ u.sets → i < s.evs.length ∧ j < s.evs.length := fun {i j} h => by
    have := g.setlt _ h
    simp at this
    omega
  refine ⟨g.rates, ?_, g.sigs, ?_, ?_, fun d hd => ?_, fun d hd => ?_, fun i j e f he hf hij => ?_, fun i e he => ?_, fun p hp => ?_, fun p hp e f he hf => ?_, ?_, ?_⟩
  · rw [hev, List.map_append, g.evs, g.era c hc]
    rfl
  · show (s.eras.set _ _).length = _
    rw [List.length_set]; exact g.elen
  · show (s.begun.set _ _).length = _
    rw [List.length_set]; exact g.blen
  · rw [era' d]
    show (s.eras.set _ _).getD d 0 = _
    rw [getD_set hce]
    by_cases e : d = c
    · rw [if_pos e, if_pos e, e, g.era c hc]
    · rw [if_neg e, if_neg e, g.era d hd]; rfl
  · rw [bgn' d]
    show (s.begun.set _ _).getD d 0 = _
    rw [getD_set hcb]
    by_cases e : d = c
    · rw [if_pos e, if_pos e]
    · rw [if_neg e, if_neg e, g.begun d hd]
  · show _ ↔ (i, j) ∈ u.sets ++ _ ∨ (j, i) ∈ u.sets ++ _
    rw [olds, olds]
    rcases cases3 he with ⟨hi, he⟩ | ⟨hi, he⟩ | ⟨hi, he⟩ <;> rcases cases3 hf with ⟨hj, hf⟩ | ⟨hj, hf⟩ | ⟨hj, hf⟩
    · rw [g.inst i j e f he hf hij]
      constructor
      · rintro (z | z)
        · exact .inl (.inl z)
        · exact .inr (.inl z)
      · rintro ((z | z) | (z | z))
        · exact .inl z
        · omega
        · exact .inr z
        · omega
    · have h1 := ilt he
      have h2 : f.2 = s.evs.length := by rw [hf]
      constructor
      · intro z; omega
      · rintro ((z | z) | (z | z))
        · have := lts z; omega
        · omega
        · have := lts z; omega
        · omega
    · have h1 := ilt he
      have h2 : f.2 = s.evs.length := by rw [hf]
      constructor
      · intro z; omega
      · rintro ((z | z) | (z | z))
        · have := lts z; omega
        · omega
        · have := lts z; omega
        · omega
    · have h1 := ilt hf
      have h2 : e.2 = s.evs.length := by rw [he]
      constructor
      · intro z; omega
      · rintro ((z | z) | (z | z))
        · have := lts z; omega
        · omega
        · have := lts z; omega
        · omega
    · omega
    · rw [he, hf]
      exact ⟨fun _ => .inl (.inr ⟨hi, hj⟩), fun _ => rfl⟩
    · have h1 := ilt hf
      have h2 : e.2 = s.evs.length := by rw [he]
      constructor
      · intro z; omega
      · rintro ((z | z) | (z | z))
        · have := lts z; omega
        · omega
        · have := lts z; omega
        · omega
    · rw [he, hf]
      exact ⟨fun _ => .inr (.inr ⟨hj, hi⟩), fun _ => rfl⟩
    · omega
  · rcases cases3 he with ⟨hi, he⟩ | ⟨hi, he⟩ | ⟨hi, he⟩
    · exact g.instle i e he
    · rw [he, hi]; exact Nat.le_refl _
    · rw [he, hi]; exact Nat.le_succ _
  · rw [hlen]
    rcases List.mem_append.mp hp with h | h
    · have := g.setlt p h
      exact ⟨this.1, by omega⟩
    · rw [List.mem_singleton.mp h]
      exact ⟨Nat.lt_succ_self _, Nat.lt_succ_self _⟩
  · rcases List.mem_append.mp hp with h | h
    · have q := g.setlt p h
      rcases cases3 he with ⟨hi, he⟩ | ⟨hi, he⟩ | ⟨hi, he⟩
      · rcases cases3 hf with ⟨hj, hf⟩ | ⟨hj, hf⟩ | ⟨hj, hf⟩
        · exact g.setdiff p h e f he hf
        · omega
        · omega
      · omega
      · omega
    · have hp := List.mem_singleton.mp h
      subst hp
      rcases cases3 he with ⟨hi, he⟩ | ⟨hi, he⟩ | ⟨hi, he⟩
      · exact absurd hi (Nat.lt_irrefl _)
      · rcases cases3 hf with ⟨hj, hf⟩ | ⟨hj, hf⟩ | ⟨hj, hf⟩
        · exact absurd hj (by show ¬ s.evs.length + 1 < s.evs.length; omega)
        · exact absurd hj (by show ¬ s.evs.length + 1 = s.evs.length; omega)
        · rw [he, hf]; exact ⟨rfl, rfl⟩
      · exact absurd hi (by show ¬ s.evs.length = s.evs.length + 1; omega)
  · have o := g.ok
    refine ⟨⟨o.rok.rate, fun e he => ?_⟩, by rw [hlen]; omega, o.sfew, fun z hz => ?_, o.sgl, o.sne⟩
    · rw [hev] at he
      rcases List.mem_append.mp he with h | h
      · exact o.rok.clk e h
      · simp at h
        rcases h with h | h <;> (rw [h]; exact hc)
    · have := o.sgn z hz
      rw [hlen]
      omega
  · have hr : ¬ x < reach s c := by omega
    unfold reach at hr
    rw [reach_lt] at hr
    refine clk_set (x := x) (y := y) g.clk hce hcb (fun i e he => ilt he) (by omega) (fun e he h1 h2 => ?_) rfl (fun d => getD_set hce) (fun d => getD_set hcb) (by rw [hev, List.append_assoc]; rfl)
    refine Nat.le_of_not_lt fun z => hr (.inr ⟨e, he, h1, h2, z⟩)
section
variable {P : Program} {w : World} {K : PySem.W.Frag} {mg : Str → Option Value} {base : Heap} {t : Adr}
theorem ok_era_reached (T : Txt K mg t) : FnOk P w K mg base CX0 1 t.f_era_reached t.d_era_reached ["room", "clock"] (spReach t) := by
  refine T.F_era_reached.ok sc_era_reached (fun vs H Q E h => ?_) (fun cdv A outer s H vs Q E hr h => ?_)
  · obtain ⟨_, _, _, _, rfl, _⟩ := h
    rfl
  · obtain ⟨a, s, fp, c, rfl, hR, hce, hcb, k⟩ := h
    obtain ⟨dx, la, lb, lc, ld, le, xs, hfp, R⟩ := id hR
    obtain ⟨as, e1, e2, e3⟩ := R.evs.ex
    refine ⟨_, (pss_cons (ps_set (i := 2) sc_era_reached.nd rfl (Or.inl rfl) (pe_ix (ixL (K := K) rfl) (pe_fldK (K := K) rfl (pv 0) rfl) (pv 1) (fun _ _ => rfl))) (pss_cons (ps_for PassesOwn.never rfl (pi_list (pe_fldK (K := K) rfl (pv 0) rfl)) (pg_name (i := 3) sc_era_reached.nd rfl (Or.inl rfl)) (pss_one (ps_if (PW.pt (pw_and (pt_cmp (pc_eqI (pe_fldK (K := K) rfl (pv 3) rfl) (pv 1))) (pw_and1 (pt_cmp (pc_eqI (pe_fldK (K := K) rfl (pv 3) rfl) (pe_ix (ixL (K := K) rfl) (pe_fldK (K := K) rfl (pv 0) rfl) (pv 1) (fun _ _ => rfl))))))) (pss_one (ps_set (i := 2) sc_era_reached.nd rfl (Or.inl rfl) (pe_callB (call_max2 rfl) (by rfl) T.z_max PyProof.Rows.boot_max (pa_cons (pv 2) (pa_cons (pe_fldK (K := K) rfl (pv 3) rfl) pa_nil))))) pss_nil))) (pss_one (ps_ret (pv 2))))), ?_⟩
    refine ⟨_, rfl, a, _, dx, _, _, rfl, R.obj, T.cl_Room, T.n_Room_begun, rfl, _, rfl, lc, _, _, _, rfl, rfl, SqL.of R.bgn, at_of (j := c) rfl (ints_get hcb), ?_⟩
    refine ⟨_, rfl, a, _, dx, _, _, rfl, R.obj, T.cl_Room, T.n_Room_events, rfl, ld, rfl, ⟨_, SqL.of e1⟩, for_list (K := K) (a := ld) (xs := as.map V.ref) (fun i σ H' => H' = H ∧ ∃ v : Option V, σ = [some (.ref a), some (nV c), some (nV ((s.evs.take i).foldl (reachStep s c) (s.begun.getD c 0))), v])
      ⟨rfl, none, rfl⟩ (fun i σ H' _ p => by rw [p.1]; exact SqL.of e1) (fun i x σ H' hx p => ?_) (fun σ H' p => ?_)⟩
    · obtain ⟨rfl, v, rfl⟩ := p
      obtain ⟨p, hp, rfl⟩ := ref_at hx
      have hi : i < s.evs.length := by rw [← e2]; exact (List.getElem?_eq_some_iff.mp hp).1
      have hl : s.evs[i]? = some s.evs[i] := List.getElem?_eq_getElem hi
      generalize s.evs[i] = e at hl
      obtain ⟨p', hp', de, he⟩ := e3 i e hl
      rw [hp] at hp'
      cases hp'
      have fin : ∀ m, m = reachStep s c ((s.evs.take i).foldl (reachStep s c) (s.begun.getD c 0)) e → (∃ v : Option V, [some (.ref a), some (nV c), some (nV m), some (V.ref p)] = [some (.ref a), some (nV c), some (nV ((s.evs.take (i + 1)).foldl (reachStep s c) (s.begun.getD c 0))), v]) := fun m hm => by
        refine ⟨some (V.ref p), ?_⟩
        rw [hm, List.take_add_one, hl]
        show _ = [_, _, some (nV (List.foldl (reachStep s c) (s.begun.getD c 0) (s.evs.take i ++ [e]))), _]
        rw [List.foldl_append]
        rfl
      refine ⟨_, rfl, p, _, de, _, _, rfl, he, T.cl_Event, T.n_Event_clock, rfl, _, rfl, _, _, rfl, rfl, _, rfl, ite2 (fun h => ?_) (fun h => iteF ⟨rfl, fin _ ?_⟩)⟩
      · have hc : e.1.clock = c := by have := d_t h; omega
        refine ⟨_, rfl, p, _, de, _, _, rfl, he, T.cl_Event, T.n_Event_era, rfl, _, rfl, a, _, dx, _, _, rfl, R.obj, T.cl_Room, T.n_Room_eras, rfl, _, rfl, lb, _, _, _, rfl, rfl, SqL.of R.ers, at_of (j := c) rfl (ints_get hce), _, _, rfl, rfl, _, rfl, ite2 (fun h' => ?_) (fun h' => ⟨rfl, fin _ ?_⟩)⟩
        · have hcr : e.1.era = s.eras.getD c 0 := by have := d_t h'; omega
          refine ⟨_, rfl, _, rfl, p, _, de, _, _, rfl, he, T.cl_Event, T.n_Event_reading, rfl, _, _, rfl, rfl, ?_⟩
          have q : ∀ m n : Nat, V.int (if (n : Int) > (m : Int) then (n : Int) else (m : Int)) = nV (max m n) := fun m n => by
            show V.int _ = V.int _
            congr 1
            split <;> omega
          rw [q]
          refine fin _ ?_
          unfold reachStep
          rw [if_pos ⟨hc, hcr⟩]
        · unfold reachStep
          rw [if_neg (fun z => h' (decide_eq_true (by rw [z.2])))]
      · unfold reachStep
        rw [if_neg (fun z => h (decide_eq_true (by rw [z.1])))]
    · obtain ⟨rfl, v, rfl⟩ := p
      refine ⟨_, rfl, ?_⟩
      rw [List.length_map, e2, List.take_length]
      exact k
end
end Ck
namespace Ck
open PySem PySem.Spec PyProof.Rows L2
theorem reach_spec {s : RmS} {u : Sy35.St} {c x : Nat} (g : Gd s u) (hc : c < s.rates.length) : x < reach s c ↔ (x < Sy35.begun u c ∨ ((Sy35.readings u c (Sy35.era u c)).any fun (r : Nat) => decide (x < r)) = true) := by
  unfold reach
  rw [reach_lt, g.begun c hc, g.era c hc]
  refine or_congr Iff.rfl ?_
  rw [List.any_eq_true]
  unfold Sy35.readings
  rw [← g.evs]
  constructor
  · rintro ⟨e, he, h1, h2, h3⟩
    refine ⟨e.1.reading, List.mem_map.mpr ⟨e.1, List.mem_filter.mpr ⟨List.mem_map.mpr ⟨e, he, rfl⟩, ?_⟩, rfl⟩, decide_eq_true h3⟩
    rw [h1, h2]
    simp
  · rintro ⟨r, hr, h3⟩
    obtain ⟨f, hf, rfl⟩ := List.mem_map.mp hr
    obtain ⟨hf, hq⟩ := List.mem_filter.mp hf
    obtain ⟨e, he, rfl⟩ := List.mem_map.mp hf
    simp at hq
    exact ⟨e, he, hq.1, hq.2, of_decide_eq_true h3⟩
theorem set_map {ns : List Nat} {c v : Nat} : (ns.map nV).set c (nV v) = (ns.set c v).map nV := by rw [List.map_set]
theorem set_to {Q : Hp → Prop} {H : Hp} {p : Addr} {l l' : List V} (e : l = l') (h : Q (upd H p (.lst l'))) : Q (upd H p (.lst l)) := e ▸ h
theorem Keep.inRoom {H : Hp} {fp : List Addr} {l : Addr} {o : HO} (h : l ∈ fp) : Keep H fp (upd H l o) fp :=
  ⟨fun b o' hb n => ⟨by rw [upd_ne (fun z => n (by rw [z]; exact h))]; exact hb, n⟩, fun b hb => (upd_none hb).2⟩
theorem RmI.dom {t : Adr} {H : Hp} {a : Addr} {s : RmS} {dx la lb lc ld le : Addr} {xs : List Addr} (R : RmI t H a s dx la lb lc ld le xs) {x : Addr} (hx : H x = none) : x ∉ a :: la :: lb :: lc :: ld :: le :: xs := fun m => by
  obtain ⟨as, e1, _⟩ := R.evs.ex
  simp only [List.mem_cons] at m
  rcases m with z | z | z | z | z | z | z
  · exact ne_of_none R.obj hx z.symm
  · exact ne_of_none R.rts hx z.symm
  · exact ne_of_none R.ers hx z.symm
  · exact ne_of_none R.bgn hx z.symm
  · exact ne_of_none e1 hx z.symm
  · exact ne_of_none R.sgl hx z.symm
  · obtain ⟨i, hi, e⟩ := List.getElem_of_mem z
    have hs : i < s.sigs.length := by rw [← R.sgn]; exact hi
    obtain ⟨p, h1, d, h2⟩ := R.sgs i _ (List.getElem?_eq_getElem hs)
    rw [List.getElem?_eq_getElem hi] at h1
    have q : xs[i] = p := Option.some.inj h1
    rw [e] at q
    rw [q, h2] at hx
    cases hx
theorem RmI.sgsPut {t : Adr} {H : Hp} {a : Addr} {s : RmS} {dx la lb lc ld le : Addr} {xs : List Addr} {x : Addr} {y : Sy35.Signal} (R : RmI t H a s dx la lb lc ld le xs) (hy : SigAt t H x y) (hx : x ∉ a :: la :: lb :: lc :: ld :: le :: xs) :
    RmI t (upd H le (.lst (xs.map V.ref ++ [V.ref x]))) a { s with sigs := s.sigs ++ [y] } dx la lb lc ld le (xs ++ [x]) := by
  have nd := R.nd
  simp only [List.nodup_cons, List.mem_cons, not_or] at nd
  obtain ⟨⟨n1, n2, n3, n4, n5, n6⟩, ⟨n7, n8, n9, n10, n11⟩, ⟨n12, n13, n14, n15⟩, ⟨n16, n17, n18⟩, ⟨n19, n20⟩, n21, n22⟩ := nd
  have sg : ∀ {p : Addr} {f : Sy35.Signal}, SigAt t H p f → SigAt t (upd H le (.lst (xs.map V.ref ++ [V.ref x]))) p f := fun {p f} h => by
    have z := sg_ne_lst h R.sgl
    obtain ⟨d, h⟩ := h
    exact ⟨d, by rw [upd_ne z]; exact h⟩
  refine ⟨by rw [upd_ne n5]; exact R.obj, ?_, ?_, ?_, ?_, by rw [upd_same, List.map_append]; rfl, by rw [List.length_append, List.length_append, R.sgn]; rfl, fun i z q => ?_, ?_⟩
  · show upd H le _ la = _
    rw [upd_ne n10]; exact R.rts
  · show upd H le _ lb = _
    rw [upd_ne n14]; exact R.ers
  · show upd H le _ lc = _
    rw [upd_ne n17]; exact R.bgn
  · obtain ⟨as, e1, e2, e3⟩ := R.evs.ex
    refine ⟨as, by rw [upd_ne n19]; exact e1, e2, fun i f hf => ?_⟩
    obtain ⟨p, h2, h3⟩ := e3 i f hf
    have z := ev_ne_lst h3 R.sgl
    obtain ⟨d, h3⟩ := h3
    exact ⟨p, h2, d, by rw [upd_ne z]; exact h3⟩
  · have q : (s.sigs ++ [y])[i]? = some z := q
    by_cases hi : i < s.sigs.length
    · rw [List.getElem?_append_left hi] at q
      obtain ⟨p, h2, h3⟩ := R.sgs i z q
      exact ⟨p, by rw [List.getElem?_append_left (by rw [R.sgn]; exact hi)]; exact h2, sg h3⟩
    · have ei : i = s.sigs.length := by
        have := (List.getElem?_eq_some_iff.mp q).1
        rw [List.length_append] at this
        simp at this
        omega
      subst ei
      rw [List.getElem?_append_right (Nat.le_refl _)] at q
      simp at q
      subst q
      exact ⟨x, by rw [List.getElem?_append_right (by rw [R.sgn]; exact Nat.le_refl _), R.sgn]; simp, sg hy⟩
  · have e : a :: la :: lb :: lc :: ld :: le :: (xs ++ [x]) = (a :: la :: lb :: lc :: ld :: le :: xs) ++ [x] := rfl
    rw [e]
    exact nd_snoc R.nd hx
def spSignal (t : Adr) : Sp := fun vs H Q _ => ∃ (a : Addr) (s : RmS) (fp : List Addr) (u : Sy35.St) (i j l m : Nat), vs = [.ref a, nV i, nV j, nV l, nV m] ∧ RmAt t H a s fp ∧ Gd s u ∧ Post t H Q a fp u (.signal i j l m)
def spStrike (t : Adr) : Sp := fun vs H Q _ => ∃ (a : Addr) (s : RmS) (fp : List Addr) (u : Sy35.St) (n : Nat), vs = [.ref a, nV n] ∧ RmAt t H a s fp ∧ Gd s u ∧ Post t H Q a fp u (.strike n)
def spBegin (K : PySem.W.Frag) (t : Adr) : Sp := fun vs H Q _ => ∃ (a ra : Addr) (s : RmS) (fp : List Addr) (u : Sy35.St) (l : List Nat), vs = [.ref a, .ref ra] ∧ RmAt t H a s fp ∧ Gd s u ∧ SqL K H ra (l.map nV) ∧ l.length ≤ 1000 ∧ Post t H Q a fp u (.begins l)
theorem good_sig {s : RmS} {u : Sy35.St} {i j l m : Nat} (g : Gd s u) (hi : i < s.evs.length) (hj : j < s.evs.length) (hn : s.sigs.length < 30) (hlm : l ≤ m) (hij : i ≠ j) :
    Gd { s with sigs := s.sigs ++ [⟨i, j, l, m, false⟩] } { u with signals := u.signals ++ [⟨i, j, l, m, false⟩] } := by
  refine ⟨g.rates, g.evs, ?_, g.elen, g.blen, g.era, g.begun, g.inst, g.instle, g.setlt, g.setdiff, ⟨g.ok.rok, g.ok.few, ?_, fun x hx => ?_, fun x hx => ?_, fun x hx => ?_⟩, let ⟨T, off, h⟩ := g.clk; ⟨T, off, h.ele, h.now, h.old, h.all, h.rise⟩⟩
  · show s.sigs ++ _ = _
    rw [g.sigs]
  · show (s.sigs ++ _).length ≤ 30
    rw [List.length_append]
    show s.sigs.length + 1 ≤ 30
    omega
  · rcases List.mem_append.mp hx with h | h
    · exact g.ok.sgn x h
    · rw [List.mem_singleton.mp h]; exact ⟨hi, hj⟩
  · rcases List.mem_append.mp hx with h | h
    · exact g.ok.sgl x h
    · rw [List.mem_singleton.mp h]; exact hlm
  · rcases List.mem_append.mp hx with h | h
    · exact g.ok.sne x h
    · rw [List.mem_singleton.mp h]; exact hij
theorem good_strike {s : RmS} {u : Sy35.St} {n : Nat} {x : Sy35.Signal} (g : Gd s u) (hx : s.sigs[n]? = some x) :
    Gd { s with sigs := s.sigs.set n { x with struck := true } } { u with signals := u.signals.set n { x with struck := true } } := by
  refine ⟨g.rates, g.evs, ?_, g.elen, g.blen, g.era, g.begun, g.inst, g.instle, g.setlt, g.setdiff, ⟨g.ok.rok, g.ok.few, ?_, fun y hy => ?_, fun y hy => ?_, fun y hy => ?_⟩, let ⟨T, off, h⟩ := g.clk; ⟨T, off, h.ele, h.now, h.old, h.all, h.rise⟩⟩
  · show s.sigs.set _ _ = _
    rw [g.sigs]
  · show (s.sigs.set _ _).length ≤ 30
    rw [List.length_set]
    exact g.ok.sfew
  · rcases List.mem_or_eq_of_mem_set hy with h | h
    · exact g.ok.sgn y h
    · rw [h]
      exact g.ok.sgn x (List.mem_of_getElem? hx)
  · rcases List.mem_or_eq_of_mem_set hy with h | h
    · exact g.ok.sgl y h
    · rw [h]
      exact g.ok.sgl x (List.mem_of_getElem? hx)
  · rcases List.mem_or_eq_of_mem_set hy with h | h
    · exact g.ok.sne y h
    · rw [h]
      exact g.ok.sne x (List.mem_of_getElem? hx)
theorem good_fresh {l : List Nat} (h1 : ∀ r ∈ l, r ≤ 999999) : Gd (freshRm l) ⟨l, [], [], []⟩ := by
  have z : ∀ c, c < l.length → (l.map fun _ => (0 : Nat)).getD c 0 = 0 := fun c hc => by
    rw [List.getD_eq_getElem?_getD, List.getElem?_map, List.getElem?_eq_getElem hc]
    rfl
  refine ⟨rfl, rfl, rfl, ?_, ?_, fun c hc => ?_, fun c hc => ?_, ?_, ?_, ?_, ?_, ⟨⟨h1, ?_⟩, Nat.zero_le _, Nat.zero_le _, ?_, ?_, ?_⟩, fun _ => 0, fun _ => 0, ?_, ?_, ?_, ?_, ?_⟩
  · exact List.length_map ..
  · exact List.length_map ..
  · exact z c hc
  · exact z c hc
  · intro i j e f he; cases he
  · intro i e he; cases he
  · intro p hp; cases hp
  · intro p hp; cases hp
  · intro e he; cases he
  · intro x hx; cases hx
  · intro x hx; cases hx
  · intro x hx; cases hx
  · intro i e he; cases he
  · intro i e he; cases he
  · intro i e he; cases he
  · intro i j e f he; cases he
  · intro i j e f he; cases he
section
variable {P : Program} {w : World} {K : PySem.W.Frag} {mg : Str → Option Value} {base : Heap} {t : Adr}
theorem ok_set_clock (T : Txt K mg t) : FnOk P w K mg base CX0 4 t.f_set_clock t.d_set_clock ["room", "clock", "showed", "told"] (spSet t) := by
  refine T.F_set_clock.ok sc_set_clock (fun vs H Q E h => ?_) (fun cdv A outer s H vs Q E hr h => ?_)
  · obtain ⟨_, _, _, _, _, _, _, rfl, _⟩ := h
    rfl
  · obtain ⟨a, s, fp, u, c, x, y, rfl, hR, g, k⟩ := h
    obtain ⟨dx, la, lb, lc, ld, le, xs, hfp, R⟩ := id hR
    have st : Sy35.step u (.set c x y) = (if u.rates.length ≤ c ∨ Sy35.READING < x ∨ Sy35.READING < y then (u, Sy35.ok (-1)) else if x < Sy35.begun u c ∨ ((Sy35.readings u c (Sy35.era u c)).any fun (r : Nat) => decide (x < r)) = true then (u, Sy35.ok (-6)) else if Sy35.EVENTS < Sy35.size u + 2 then (u, Sy35.ok (-5)) else
      ({ u with events := u.events ++ [⟨c, Sy35.era u c, x⟩, ⟨c, Sy35.era u c + 1, y⟩], sets := u.sets ++ [(Sy35.size u, Sy35.size u + 1)] }, Sy35.ok (Sy35.size u : Nat))) := rfl
    refine ⟨_, (pss_cons (ps_if (PW.pt (pw_or (pt_not (pt_val (pe_meth (pv 0) T.cl_Room T.h_Room_has_clock (ok_Room_has_clock T) (hr.mono (by decide)) T.b_Room_has_clock .nil pass0 (pa_cons (pv 1) pa_nil)))) (pw_or (pt_cmp (pc_gt (pv 2) (pe_gint rfl T.g_MOST_READING))) (pw_or1 (pt_cmp (pc_gt (pv 3) (pe_gint rfl T.g_MOST_READING))))))) (pss_one (ps_ret (pe_lst (pa_cons (pe_un un_neg pe_int) pa_nil)))) pss_nil) (pss_cons (ps_if (pt_cmp (pc_lt (pv 2) (pe_call (ok_era_reached T) (hr.mono (by decide)) rfl T.m_era_reached T.F_era_reached.kp T.b_era_reached .nil pass0 (pa_cons (pv 0) (pa_cons (pv 1) pa_nil))))) (pss_one (ps_ret (pe_lst (pa_cons (pe_un un_neg pe_int) pa_nil)))) pss_nil) (pss_cons (ps_set (i := 4) sc_set_clock.nd rfl (Or.inl rfl) (pe_callB (call_lenK (K := K) rfl) (by rfl) T.z_len PySem.boot_len (pa_cons (pe_fldK (K := K) rfl (pv 0) rfl) pa_nil))) (pss_cons (ps_if (pt_cmp (pc_gt (pe_op op_add (pv 4) pe_int) (pe_gint rfl T.g_MOST_EVENTS))) (pss_one (ps_ret (pe_lst (pa_cons (pe_un un_neg pe_int) pa_nil)))) pss_nil) (pss_cons (ps_expr (pe_meth (pv 0) T.cl_Room T.h_Room_note (ok_Room_note T) hr T.b_Room_note .nil pass0 (pa_cons (pv 1) (pa_cons (pv 2) (pa_cons (pv 4) pa_nil))))) (pss_cons (ps_asg (pe_op op_add (pe_ix (ixL (K := K) rfl) (pe_fldK (K := K) rfl (pv 0) rfl) (pv 1) (fun _ _ => rfl)) pe_int) (pg_sub (pe_fldK (K := K) rfl (pv 0) rfl) (pv 1) set_list)) (pss_cons (ps_asg (pv 3) (pg_sub (pe_fldK (K := K) rfl (pv 0) rfl) (pv 1) set_list)) (pss_cons (ps_expr (pe_meth (pv 0) T.cl_Room T.h_Room_note (ok_Room_note T) hr T.b_Room_note .nil pass0 (pa_cons (pv 1) (pa_cons (pv 3) (pa_cons (pv 4) pa_nil))))) (pss_one (ps_ret (pe_lst (pa_cons (pv 4) pa_nil)))))))))))), ?_⟩
    refine ⟨_, rfl, a, dx, _, rfl, R.obj, rfl, _, rfl, a, s, fp, c, rfl, hR, _, rfl, ite2 (fun h => iteT ?_) (fun h => ?_)⟩
    · rw [if_pos (.inl (by have := not_dec h; rw [← g.rates]; omega))] at st
      exact ⟨_, rfl, one_fits, fun p hp => k.new hR g st (Same.refl H) hp⟩
    · have hc : c < s.rates.length := by have := yes_dec h; omega
      refine ⟨_, rfl, _, _, rfl, rfl, _, rfl, ite2 (fun h => iteT ?_) (fun hx => ?_)⟩
      · rw [if_pos (.inr (.inl (by have := d_t h; show 1000000 < x; omega)))] at st
        exact ⟨_, rfl, one_fits, fun p hp => k.new hR g st (Same.refl H) hp⟩
      · refine ⟨_, rfl, _, _, rfl, rfl, _, rfl, ite2 (fun h => ?_) (fun hy => ?_)⟩
        · rw [if_pos (.inr (.inr (by have := d_t h; show 1000000 < y; omega)))] at st
          exact ⟨_, rfl, one_fits, fun p hp => k.new hR g st (Same.refl H) hp⟩
        · rw [if_neg (by rw [← g.rates]; have := d_f hx; have := d_f hy; show ¬ (_ ∨ 1000000 < x ∨ 1000000 < y); omega)] at st
          have hcb : c < s.begun.length := by rw [g.blen]; exact hc
          have hce : c < s.eras.length := by rw [g.elen]; exact hc
          refine ⟨_, rfl, _, rfl, _, rfl, a, s, fp, c, rfl, hR, hce, hcb, _, _, rfl, rfl, _, rfl, ite2 (fun h => ?_) (fun h => ?_)⟩
          · rw [if_pos ((reach_spec g hc).mp (by have := d_t h; omega))] at st
            exact ⟨_, rfl, one_fits, fun p hp => k.new hR g st (Same.refl H) hp⟩
          · have hxr : reach s c ≤ x := by have := d_f h; omega
            rw [if_neg (fun z => h (decide_eq_true (by have := (reach_spec g hc).mpr z; omega)))] at st
            obtain ⟨as, e1, e2, e3⟩ := R.evs.ex
            refine ⟨_, rfl, a, _, dx, _, _, rfl, R.obj, T.cl_Room, T.n_Room_events, rfl, ld, _, rfl, .inl (SqL.of e1), ?_⟩
            rw [List.length_map, e2]
            refine ⟨_, rfl, _, _, rfl, rfl, _, _, rfl, rfl, _, rfl, ite2 (fun h => ?_) (fun h => ?_)⟩
            · rw [if_pos (by have := d_t h; rw [g.size]; show 24 < _; omega)] at st
              exact ⟨_, rfl, one_fits, fun p hp => k.new hR g st (Same.refl H) hp⟩
            · have hn : s.evs.length + 2 ≤ 24 := by have := d_f h; omega
              rw [if_neg (by rw [g.size]; show ¬ 24 < _; omega)] at st
              refine ⟨_, rfl, a, dx, _, rfl, R.obj, rfl, _, rfl, _, rfl, _, rfl, a, s, fp, c, x, s.evs.length, rfl, hR, hce, by omega, fun H1 R1 kp1 => ?_⟩
              obtain ⟨dx1, la1, lb1, lc1, ld1, le1, xs1, hfp1, I1⟩ := R1
              refine ⟨_, rfl, a, _, dx1, _, _, rfl, I1.obj, T.cl_Room, T.n_Room_eras, rfl, _, rfl, lb1, _, _, _, rfl, rfl, SqL.of I1.ers, at_of (j := c) rfl (ints_get hce), _, _, rfl, rfl, _, rfl, a, _, dx1, _, _, rfl, I1.obj, T.cl_Room, T.n_Room_eras, rfl, _, rfl, lb1, _, _, c, rfl, rfl, I1.ers, ixN_nat (by rw [List.length_map]; exact hce), set_to (l' := (s.eras.set c (s.eras.getD c 0 + 1)).map nV) set_map ?_⟩
              have I2 := I1.ersPut (s.eras.set c (s.eras.getD c 0 + 1))
              have kp2 : Keep H1 fp (upd H1 lb1 (.lst ((s.eras.set c (s.eras.getD c 0 + 1)).map nV))) fp := Keep.inRoom (by rw [hfp1]; simp)
              generalize upd H1 lb1 (.lst ((s.eras.set c (s.eras.getD c 0 + 1)).map nV)) = H2 at I2 kp2 ⊢
              refine ⟨_, rfl, _, rfl, a, _, dx1, _, _, rfl, I2.obj, T.cl_Room, T.n_Room_begun, rfl, _, rfl, lc1, _, _, c, rfl, rfl, I2.bgn, ixN_nat (by rw [List.length_map]; exact hcb), set_to (l' := (s.begun.set c y).map nV) set_map ?_⟩
              have I3 := I2.bgnPut (s.begun.set c y)
              have kp3 : Keep H2 fp (upd H2 lc1 (.lst ((s.begun.set c y).map nV))) fp := Keep.inRoom (by rw [hfp1]; simp)
              generalize upd H2 lc1 (.lst ((s.begun.set c y).map nV)) = H3 at I3 kp3 ⊢
              have hev1 : (noted s c x s.evs.length).evs.length < 1000 := by
                show (s.evs ++ _).length < _
                rw [List.length_append]
                show s.evs.length + 1 < 1000
                omega
              refine ⟨_, rfl, a, dx1, _, rfl, I3.obj, rfl, _, rfl, _, rfl, _, rfl, a, _, fp, c, y, s.evs.length, rfl, ⟨dx1, la1, lb1, lc1, ld1, le1, xs1, hfp1, I3⟩, (by show c < (s.eras.set _ _).length; rw [List.length_set]; exact hce), hev1, fun H4 R4 kp4 => ?_⟩
              have kp := ((kp1.trans kp2).trans kp3).trans kp4
              refine ⟨_, rfl, one_fits, fun p hp => ?_⟩
              refine k _ fp p (setRm s c x y) (RmAt.same R4 (Same.new hp)) ?_ (kp.trans (Keep.same fp (Same.new hp))) (kp.dom p hp) ?_
              · rw [st]; exact good_set g hc hn hxr
              · rw [st, upd_same, g.size]; rfl
theorem ok_tell_signal (T : Txt K mg t) : FnOk P w K mg base CX0 3 t.f_tell_signal t.d_tell_signal ["room", "first", "second", "least", "most"] (spSignal t) := by
  refine T.F_tell_signal.ok sc_tell_signal (fun vs H Q E h => ?_) (fun cdv A outer s H vs Q E hr h => ?_)
  · obtain ⟨_, _, _, _, _, _, _, _, rfl, _⟩ := h
    rfl
  · obtain ⟨a, s, fp, u, i, j, l, m, rfl, hR, g, k⟩ := h
    obtain ⟨dx, la, lb, lc, ld, le, xs, hfp, R⟩ := id hR
    have st : Sy35.step u (.signal i j l m) = (if Sy35.size u ≤ i ∨ Sy35.size u ≤ j ∨ i = j ∨ m < l ∨ Sy35.DELAY < m then (u, Sy35.ok (-1)) else if Sy35.SIGNALS ≤ u.signals.length then (u, Sy35.ok (-5)) else ({ u with signals := u.signals ++ [⟨i, j, l, m, false⟩] }, Sy35.ok (u.signals.length : Nat))) := rfl
    rw [g.size] at st
    refine ⟨_, (pss_cons (ps_if (PW.pt (pw_or (pt_not (pt_val (pe_meth (pv 0) T.cl_Room T.h_Room_has_both (ok_Room_has_both T) hr T.b_Room_has_both .nil pass0 (pa_cons (pv 1) (pa_cons (pv 2) pa_nil))))) (pw_or1 (pt_cmp (pc_eqI (pv 1) (pv 2)))))) (pss_one (ps_ret (pe_lst (pa_cons (pe_un un_neg pe_int) pa_nil)))) pss_nil) (pss_cons (ps_if (PW.pt (pw_or (pt_cmp (pc_lt (pv 4) (pv 3))) (pw_or1 (pt_cmp (pc_gt (pv 4) (pe_gint rfl T.g_MOST_ON_WAY)))))) (pss_one (ps_ret (pe_lst (pa_cons (pe_un un_neg pe_int) pa_nil)))) pss_nil) (pss_cons (ps_set (i := 5) sc_tell_signal.nd rfl (Or.inl rfl) (pe_callB (call_lenK (K := K) rfl) (by rfl) T.z_len PySem.boot_len (pa_cons (pe_fldK (K := K) rfl (pv 0) rfl) pa_nil))) (pss_cons (ps_if (pt_cmp (pc_ge (pv 5) (pe_gint rfl T.g_MOST_SIGNALS))) (pss_one (ps_ret (pe_lst (pa_cons (pe_un un_neg pe_int) pa_nil)))) pss_nil) (pss_cons (ps_expr (pe_bm PySem.F.plainAttrs_list PySem.F.slot_list_append PySem.F.type_list_append mt_append (pe_fldK (K := K) rfl (pv 0) rfl) (pa_cons (pe_make T.M_Signal (ok_Signal_init T) hr rfl T.m_Signal T.b_Signal_init .nil pass0 (pa_cons (pv 1) (pa_cons (pv 2) (pa_cons (pv 3) (pa_cons (pv 4) pa_nil))))) pa_nil))) (pss_one (ps_ret (pe_lst (pa_cons (pv 5) pa_nil))))))))), ?_⟩
    refine ⟨_, rfl, a, dx, _, rfl, R.obj, rfl, _, rfl, _, rfl, a, s, fp, i, j, rfl, hR, _, rfl, ite2 (fun h => iteT ?_) (fun hb => ?_)⟩
    · rw [if_pos (by have := not_dec h; omega)] at st
      exact ⟨_, rfl, one_fits, fun p hp => k.new hR g st (Same.refl H) hp⟩
    · obtain ⟨hi, hj⟩ := yes_dec hb
      · refine ⟨_, rfl, _, rfl, _, _, rfl, rfl, _, rfl, ite2 (fun h => ?_) (fun hij => ?_)⟩
        · rw [if_pos (.inr (.inr (.inl (by have := d_t h; omega))))] at st
          exact ⟨_, rfl, one_fits, fun p hp => k.new hR g st (Same.refl H) hp⟩
        · have hij : ¬ i = j := by have := d_f hij; omega
          refine ⟨_, rfl, _, rfl, _, _, rfl, rfl, _, rfl, ite2 (fun h => iteT ?_) (fun hml => ?_)⟩
          · rw [if_pos (.inr (.inr (.inr (.inl (by have := d_t h; omega)))))] at st
            exact ⟨_, rfl, one_fits, fun p hp => k.new hR g st (Same.refl H) hp⟩
          · have hml := d_f hml
            refine ⟨_, rfl, _, _, rfl, rfl, _, rfl, ite2 (fun h => ?_) (fun hm => ?_)⟩
            · rw [if_pos (.inr (.inr (.inr (.inr (by have := d_t h; show 1000000000000 < m; omega)))))] at st
              exact ⟨_, rfl, one_fits, fun p hp => k.new hR g st (Same.refl H) hp⟩
            · have hm := d_f hm
              rw [if_neg (by show ¬ (_ ∨ _ ∨ _ ∨ _ ∨ 1000000000000 < m); omega)] at st
              refine ⟨_, rfl, a, _, dx, _, _, rfl, R.obj, T.cl_Room, T.n_Room_signals, rfl, le, _, rfl, .inl (SqL.of R.sgl), ?_⟩
              rw [List.length_map, R.sgn]
              refine ⟨_, rfl, _, _, rfl, rfl, _, rfl, ite2 (fun h => ?_) (fun h => ?_)⟩
              · rw [if_pos (by have := d_t h; rw [← g.sigs]; show 30 ≤ _; omega)] at st
                exact ⟨_, rfl, one_fits, fun p hp => k.new hR g st (Same.refl H) hp⟩
              · have hn : s.sigs.length < 30 := by have := d_f h; omega
                rw [if_neg (by rw [← g.sigs]; show ¬ 30 ≤ _; omega)] at st
                refine ⟨_, rfl, a, _, dx, _, _, rfl, R.obj, T.cl_Room, T.n_Room_signals, rfl, .inl ⟨rfl, _, SqL.of R.sgl⟩, _, rfl, _, rfl, _, rfl, _, rfl, fun x d n1 n2 n3 => ?_⟩
                refine ⟨x, d, i, j, l, m, rfl, upd_same, fun H1 he k1 => ⟨rfl, ?_⟩⟩
                have s1 : Same H H1 := Same.made n1 n2 k1
                refine ⟨le, _, _, rfl, rfl, s1 _ _ R.sgl, (by rw [List.length_map, R.sgn]; exact small_line (by omega)), ?_⟩
                have R2 := (R.same s1).sgsPut he (R.dom n1)
                refine ⟨_, rfl, one_fits, fun p hp => ?_⟩
                have kp : Keep H fp (upd H1 le (.lst (xs.map V.ref ++ [V.ref x]))) (fp ++ [x]) := ⟨fun b o hb n => ?_, fun b hb => s1.free (upd_none hb).2⟩
                · refine k _ (fp ++ [x]) p { s with sigs := s.sigs ++ [⟨i, j, l, m, false⟩] } (RmAt.same ⟨dx, la, lb, lc, ld, le, xs ++ [x], by rw [hfp]; rfl, R2⟩ (Same.new hp)) ?_ (kp.trans (Keep.same _ (Same.new hp))) (kp.dom p hp) ?_
                  · rw [st]; exact good_sig g hi hj hn (by omega) hij
                  · rw [st, upd_same, ← g.sigs]; rfl
                · have z : b ≠ le := fun z => n (by rw [hfp, z]; simp)
                  rw [upd_ne z]
                  refine ⟨s1 _ _ hb, fun q => ?_⟩
                  rcases List.mem_append.mp q with q | q
                  · exact n q
                  · exact ne_of_none hb n1 (List.mem_singleton.mp q)
end
end Ck
namespace Ck
open PySem PySem.Spec PyProof.Rows L2
theorem ev_ne_sg {t : Adr} {H : Hp} {p q : Addr} {e : Ev} {x : Sy35.Signal} (h : EvAt t H p e) (h' : SigAt t H q x) : p ≠ q := by
  obtain ⟨dx, h⟩ := h
  obtain ⟨dy, h'⟩ := h'
  refine ne_of h h' fun z => ?_
  injection z with _ _ z
  have z1 : ((("clock" : Str), V.int e.1.clock) : Str × V) = (("first" : Str), V.int x.from_) := (List.cons.inj z).1
  exact absurd (Prod.mk.inj z1).1 (by decide)
theorem RmI.sgsHit {t : Adr} {H : Hp} {a : Addr} {s : RmS} {dx la lb lc ld le : Addr} {xs : List Addr} {i : Nat} {p dy : Addr} {y z : Sy35.Signal} (R : RmI t H a s dx la lb lc ld le xs) (hp : xs[i]? = some p) (h0 : H p = some (.ins t.c_Signal dy (sgF y))) :
    RmI t (upd H p (.ins t.c_Signal dy (sgF z))) a { s with sigs := s.sigs.set i z } dx la lb lc ld le xs := by
  have nd := R.nd
  simp only [List.nodup_cons, List.mem_cons, not_or] at nd
  obtain ⟨⟨n1, n2, n3, n4, n5, n6⟩, ⟨n7, n8, n9, n10, n11⟩, ⟨n12, n13, n14, n15⟩, ⟨n16, n17, n18⟩, ⟨n19, n20⟩, n21, n22⟩ := nd
  have mp : p ∈ xs := List.mem_of_getElem? hp
  refine ⟨by rw [upd_ne (fun q => n6 (by rw [q]; exact mp))]; exact R.obj, ?_, ?_, ?_, ?_, by rw [upd_ne (fun q => n21 (by rw [q]; exact mp))]; exact R.sgl, by rw [List.length_set]; exact R.sgn, fun j v q => ?_, R.nd⟩
  · show upd H p _ la = _
    rw [upd_ne (fun q => n11 (by rw [q]; exact mp))]; exact R.rts
  · show upd H p _ lb = _
    rw [upd_ne (fun q => n15 (by rw [q]; exact mp))]; exact R.ers
  · show upd H p _ lc = _
    rw [upd_ne (fun q => n18 (by rw [q]; exact mp))]; exact R.bgn
  · obtain ⟨as, e1, e2, e3⟩ := R.evs.ex
    refine ⟨as, by rw [upd_ne (fun q => n20 (by rw [q]; exact mp))]; exact e1, e2, fun j f hf => ?_⟩
    obtain ⟨r, h2, h3⟩ := e3 j f hf
    have ne := ev_ne_sg h3 ⟨dy, h0⟩
    obtain ⟨d, h3⟩ := h3
    exact ⟨r, h2, d, by rw [upd_ne ne]; exact h3⟩
  · have q : (s.sigs.set i z)[j]? = some v := q
    by_cases hj : j = i
    · subst hj
      have hl : j < s.sigs.length := by rw [← R.sgn]; exact (List.getElem?_eq_some_iff.mp hp).1
      rw [List.getElem?_set_self hl] at q
      cases q
      exact ⟨p, hp, dy, upd_same⟩
    · rw [List.getElem?_set_ne (Ne.symm hj)] at q
      obtain ⟨r, h2, d, h3⟩ := R.sgs j v q
      have ne : r ≠ p := fun e => hj (nd_ix n22 h2 (by rw [e]; exact hp))
      exact ⟨r, h2, d, by rw [upd_ne ne]; exact h3⟩
def spRefusal (t : Adr) : Sp := fun vs H Q _ => ∃ (a : Addr) (s : RmS) (fp : List Addr) (n : Nat), vs = [.ref a, nV n] ∧ RmAt t H a s fp ∧
  (s.sigs[n]? = none → ∀ p, H p = none → Q (.ref p) (upd H p (.lst [.int (-2)]))) ∧ (∀ x, s.sigs[n]? = some x → x.struck = true → ∀ p, H p = none → Q (.ref p) (upd H p (.lst [.int (-4)]))) ∧ (∀ x, s.sigs[n]? = some x → x.struck = false → Q .non H)
section
variable {P : Program} {w : World} {K : PySem.W.Frag} {mg : Str → Option Value} {base : Heap} {t : Adr}
theorem ok_signal_refusal (T : Txt K mg t) : FnOk P w K mg base CX0 1 t.f_signal_refusal t.d_signal_refusal ["room", "number"] (spRefusal t) := by
  refine T.F_signal_refusal.ok sc_signal_refusal (fun vs H Q E h => ?_) (fun cdv A outer s H vs Q E hr h => ?_)
  · obtain ⟨_, _, _, _, rfl, _⟩ := h
    rfl
  · obtain ⟨a, s, fp, n, rfl, hR, k1, k2, k3⟩ := h
    obtain ⟨dx, la, lb, lc, ld, le, xs, hfp, R⟩ := id hR
    refine ⟨_, (pss_cons (ps_if (pt_cmp (pc_ge (pv 1) (pe_callB (call_lenK (K := K) rfl) (by rfl) T.z_len PySem.boot_len (pa_cons (pe_fldK (K := K) rfl (pv 0) rfl) pa_nil)))) (pss_one (ps_ret (pe_lst (pa_cons (pe_un un_neg pe_int) pa_nil)))) pss_nil) (pss_cons (ps_if (pt_val (pe_fldK (K := K) rfl (pe_ix (ixL (K := K) rfl) (pe_fldK (K := K) rfl (pv 0) rfl) (pv 1) (fun _ _ => rfl)) rfl)) (pss_one (ps_ret (pe_lst (pa_cons (pe_un un_neg pe_int) pa_nil)))) pss_nil) (pss_one (ps_ret pe_non)))), ?_⟩
    refine ⟨_, rfl, _, rfl, a, _, dx, _, _, rfl, R.obj, T.cl_Room, T.n_Room_signals, rfl, le, _, rfl, .inl (SqL.of R.sgl), _, _, rfl, rfl, _, rfl, ite2 (fun h => ?_) (fun h => ?_)⟩
    · have hn : s.sigs.length ≤ n := by have := d_t h; rw [List.length_map, R.sgn] at this; omega
      exact ⟨_, rfl, one_fits, fun p hp => k1 (List.getElem?_eq_none hn) p hp⟩
    · have hn : n < s.sigs.length := by have := d_f h; rw [List.length_map, R.sgn] at this; omega
      have hl : s.sigs[n]? = some s.sigs[n] := List.getElem?_eq_getElem hn
      generalize s.sigs[n] = x at hl
      obtain ⟨p, hp, dy, hx⟩ := R.sgs n x hl
      refine ⟨_, rfl, a, _, dx, _, _, rfl, R.obj, T.cl_Room, T.n_Room_signals, rfl, _, rfl, le, _, _, _, rfl, rfl, SqL.of R.sgl, at_of (j := n) rfl (at_ref hp), p, _, dy, _, _, rfl, hx, T.cl_Signal, T.n_Signal_struck, rfl, _, rfl, ite2 (fun h => ?_) (fun h => ?_)⟩
      · exact ⟨_, rfl, one_fits, fun p hp => k2 x hl h p hp⟩
      · exact k3 x hl (by cases e : x.struck with
          | true => exact absurd e h
          | false => rfl)
theorem ok_strike (T : Txt K mg t) : FnOk P w K mg base CX0 2 t.f_strike t.d_strike ["room", "number"] (spStrike t) := by
  refine T.F_strike.ok sc_strike (fun vs H Q E h => ?_) (fun cdv A outer s H vs Q E hr h => ?_)
  · obtain ⟨_, _, _, _, _, rfl, _⟩ := h
    rfl
  · obtain ⟨a, s, fp, u, n, rfl, hR, g, k⟩ := h
    obtain ⟨dx, la, lb, lc, ld, le, xs, hfp, R⟩ := id hR
    have st : Sy35.step u (.strike n) = (match u.signals[n]? with
      | none => (u, Sy35.ok (-2))
      | some x => if x.struck = true then (u, Sy35.ok (-4)) else ({ u with signals := u.signals.set n { x with struck := true } }, Sy35.ok 0)) := rfl
    rw [← g.sigs] at st
    refine ⟨_, (pss_cons (ps_set (i := 2) sc_strike.nd rfl (Or.inl rfl) (pe_call (ok_signal_refusal T) hr rfl T.m_signal_refusal T.F_signal_refusal.kp T.b_signal_refusal .nil pass0 (pa_cons (pv 0) (pa_cons (pv 1) pa_nil)))) (pss_cons (ps_if (pt_cmp (pc_notN (pv 2))) (pss_one (ps_ret (pv 2))) pss_nil) (pss_cons (ps_fld (pe_ix (ixL (K := K) rfl) (pe_fldK (K := K) rfl (pv 0) rfl) (pv 1) (fun _ _ => rfl)) pe_bl rfl) (pss_one (ps_ret (pe_lst (pa_cons pe_int pa_nil))))))), ?_⟩
    refine ⟨_, rfl, _, rfl, a, s, fp, n, rfl, hR, fun h0 p hp => ?_, fun x hl h p hp => ?_, fun x hl h => ?_⟩
    · rw [h0] at st
      exact ⟨_, rfl, _, rfl, iteT ⟨_, rfl, k.new hR g st (Same.refl H) hp⟩⟩
    · rw [hl] at st
      have st2 : Sy35.step u (.strike n) = (if x.struck = true then (u, Sy35.ok (-4)) else ({ u with signals := s.sigs.set n { x with struck := true } }, Sy35.ok 0)) := st
      rw [if_pos h] at st2
      exact ⟨_, rfl, _, rfl, iteT ⟨_, rfl, k.new hR g st2 (Same.refl H) hp⟩⟩
    · obtain ⟨p, hp, dy, hx⟩ := R.sgs n x hl
      rw [hl] at st
      have st2 : Sy35.step u (.strike n) = (if x.struck = true then (u, Sy35.ok (-4)) else ({ u with signals := s.sigs.set n { x with struck := true } }, Sy35.ok 0)) := st
      rw [if_neg (by rw [h]; exact Bool.false_ne_true)] at st2
      refine ⟨_, rfl, _, rfl, iteF ?_⟩
      refine ⟨_, rfl, a, _, dx, _, _, rfl, R.obj, T.cl_Room, T.n_Room_signals, rfl, _, rfl, le, _, _, _, rfl, rfl, SqL.of R.sgl, at_of (j := n) rfl (at_ref hp), p, _, dy, _, rfl, hx, T.cl_Signal, T.n_Signal_struck, few rfl, ?_⟩
      have R2 := R.sgsHit (z := { x with struck := true }) hp hx
      have kp : Keep H fp (upd H p (.ins t.c_Signal dy (sgF { x with struck := true }))) fp := Keep.inRoom (by rw [hfp]; simp; exact .inr (.inr (.inr (.inr (.inr (.inr (List.mem_of_getElem? hp)))))))
      refine ⟨one_fits, fun q hq => ?_⟩
      refine k _ fp q { s with sigs := s.sigs.set n { x with struck := true } } (RmAt.same ⟨dx, la, lb, lc, ld, le, xs, hfp, R2⟩ (Same.new hq)) ?_ (kp.trans (Keep.same _ (Same.new hq))) (kp.dom q hq) ?_
      · rw [st2]
        have := good_strike g hl
        rw [← g.sigs] at this
        exact this
      · rw [st2]
        exact upd_same
theorem ok_begin (T : Txt K mg t) : FnOk P w K mg base CX0 2 t.f_begin t.d_begin ["room", "rates"] (spBegin K t) := by
  refine T.F_begin.ok sc_begin (fun vs H Q E h => ?_) (fun cdv A outer s H vs Q E hr h => ?_)
  · obtain ⟨_, _, _, _, _, _, rfl, _⟩ := h
    rfl
  · obtain ⟨a, ra, s, fp, u, l, rfl, hR, g, hl, hz, k⟩ := h
    obtain ⟨dx, la, lb, lc, ld, le, xs, hfp, R⟩ := id hR
    have st : Sy35.step u (.begins l) = (if l.length = 0 ∨ Sy35.CLOCKS < l.length ∨ (l.any fun (r : Nat) => decide (Sy35.RATE < r)) = true then (u, Sy35.ok (-1)) else (⟨l, [], [], []⟩, Sy35.ok 0)) := rfl
    refine ⟨_, (pss_cons (ps_if (PW.pt (pw_or (pt_cmp (pc_lt (pe_callB (call_lenK (K := K) rfl) (by rfl) T.z_len PySem.boot_len (pa_cons (pv 1) pa_nil)) pe_int)) (pw_or1 (pt_cmp (pc_gt (pe_callB (call_lenK (K := K) rfl) (by rfl) T.z_len PySem.boot_len (pa_cons (pv 1) pa_nil)) (pe_gint rfl T.g_MOST_CLOCKS)))))) (pss_one (ps_ret (pe_lst (pa_cons (pe_un un_neg pe_int) pa_nil)))) pss_nil) (pss_cons (ps_if (pt_cmp (pc_gt (pe_callB (cr_maxK (K := K) rfl rfl) (by rfl) T.z_max PyProof.Rows.boot_max (pa_cons (pv 1) pa_nil)) (pe_gint rfl T.g_MOST_RATE))) (pss_one (ps_ret (pe_lst (pa_cons (pe_un un_neg pe_int) pa_nil)))) pss_nil) (pss_cons (ps_expr (pe_meth (pv 0) T.cl_Room T.h_Room_renew (ok_Room_renew T) hr T.b_Room_renew .nil pass0 (pa_cons (pv 1) pa_nil))) (pss_one (ps_ret (pe_lst (pa_cons pe_int pa_nil))))))), ?_⟩
    refine ⟨_, rfl, ra, _, rfl, .inl hl, _, _, rfl, rfl, _, rfl, ite2 (fun h => iteT ?_) (fun h1 => ?_)⟩
    · rw [if_pos (.inl (by have := d_t h; rw [List.length_map] at this; omega))] at st
      exact ⟨_, rfl, one_fits, fun p hp => k.new hR g st (Same.refl H) hp⟩
    · have h1 : 0 < l.length := by have := d_f h1; rw [List.length_map] at this; omega
      refine ⟨_, rfl, ra, _, rfl, .inl hl, _, _, rfl, rfl, _, rfl, ite2 (fun h => ?_) (fun h2 => ?_)⟩
      · rw [if_pos (.inr (.inl (by have := d_t h; rw [List.length_map] at this; show 6 < _; omega)))] at st
        exact ⟨_, rfl, one_fits, fun p hp => k.new hR g st (Same.refl H) hp⟩
      · have h2 : l.length ≤ 6 := by have := d_f h2; rw [List.length_map] at this; omega
        have el : l.map nV = (l.map (fun (n : Nat) => (n : Int))).map V.int := by rw [List.map_map]; rfl
        refine ⟨_, rfl, ra, l.map (fun (n : Nat) => (n : Int)), rfl, by rw [← el]; exact hl, by rw [List.length_map]; exact h1, fun m hm hle => ⟨_, _, rfl, rfl, _, rfl, ite2 (fun h => ?_) (fun h => ?_)⟩⟩
        · obtain ⟨r, hr, rfl⟩ := List.mem_map.mp hm
          rw [if_pos (.inr (.inr (List.any_eq_true.mpr ⟨r, hr, decide_eq_true (by have := d_t h; show 999999 < r; omega)⟩)))] at st
          exact ⟨_, rfl, one_fits, fun p hp => k.new hR g st (Same.refl H) hp⟩
        · have hall : ∀ r ∈ l, r ≤ 999999 := fun r hr => by
            have q1 := hle _ (List.mem_map.mpr ⟨r, hr, rfl⟩)
            have q2 := d_f h
            omega
          rw [if_neg (by
            rintro (z | z | z)
            · omega
            · have : 6 < l.length := z
              omega
            · obtain ⟨r, hr, z⟩ := List.any_eq_true.mp z
              have := hall r hr
              have : 999999 < r := of_decide_eq_true z
              omega)] at st
          refine ⟨_, rfl, a, dx, _, rfl, R.obj, rfl, _, rfl, a, ra, dx, _, l, rfl, R.obj, .inr ⟨_, _, _, _, _, rfl⟩, hl, hz, fun H1 fp1 R1 k1 => ?_⟩
          refine ⟨one_fits, fun q hq => ?_⟩
          have kp : Keep H fp H1 fp1 := ⟨fun b o hb n => k1 b o hb (fun z => n (by rw [hfp, z]; simp)), fun b hb => by
            cases e : H b with
            | none => rfl
            | some o =>
              by_cases z : b = a
              · obtain ⟨_, _, _, _, _, _, _, _, I⟩ := R1
                rw [z, I.obj] at hb
                cases hb
              · rw [(k1 b o e z).1] at hb
                cases hb⟩
          refine k _ fp1 q (freshRm l) (R1.same (Same.new hq)) ?_ (kp.trans (Keep.same _ (Same.new hq))) (kp.dom q hq) ?_
          · rw [st]; exact good_fresh hall
          · rw [st]; exact upd_same
end
end Ck
namespace Ck
theorem way_added {n : Nat} {t : Sy35.Table} (h : Sq n t) (i j : Nat) (b : Int) : wayTab t i j b = Sy35.added n t i j b := by
  unfold wayTab Sy35.added
  refine List.map_congr_left fun l hl => ?_
  have e := h.row l hl
  cases q : l.getD i none with
  | none =>
    show wayRow (Sy35.sum none (some b)) l _ = l
    rfl
  | some x =>
    show (List.range l.length).map _ = (List.range n).map _
    rw [e]
    rfl
theorem way_over {n : Nat} {t : Sy35.Table} (h : Sq n t) (k : Nat) : wayTab t k k 0 = Sy35.over n t k := by
  unfold wayTab Sy35.over
  refine List.map_congr_left fun l hl => ?_
  have e := h.row l hl
  cases q : l.getD k none with
  | none => rfl
  | some x =>
    simp only [q]
    show (List.range l.length).map _ = (List.range n).map _
    rw [e]
    have z : Sy35.sum (some x) (some 0) = some x := by show some (x + 0) = some x; rw [Int.add_zero]
    rw [z]
theorem way_sig {n : Nat} {t : Sy35.Table} (h : Sq n t) (x : Sy35.Signal) : waySig t x = Sy35.withSignal n t x := by
  unfold waySig Sy35.withSignal
  rw [way_added (wayTab_sq h _ _ _), way_added h]
theorem map_range {α β : Type} (l : List α) (g : α → β) (f : Nat → β) (h : ∀ i x, l[i]? = some x → g x = f i) : l.map g = (List.range l.length).map f := by
  apply List.ext_getElem?
  intro i
  rw [List.getElem?_map, List.getElem?_map]
  by_cases hi : i < l.length
  · rw [List.getElem?_range hi, List.getElem?_eq_getElem hi]
    exact congrArg some (h i _ (List.getElem?_eq_getElem hi))
  · rw [List.getElem?_eq_none (by omega), List.getElem?_eq_none (by rw [List.length_range]; omega)]
    rfl
theorem Gd.at_ {s : RmS} {u : Sy35.St} (g : Gd s u) {i : Nat} {e : Ev} (h : s.evs[i]? = some e) : Sy35.eventAt u i = e.1 := by
  unfold Sy35.eventAt
  rw [List.getD_eq_getElem?_getD, ← g.evs, List.getElem?_map, h]
  rfl
theorem clock_direct {s : RmS} {u : Sy35.St} (g : Gd s u) {i j : Nat} {e f : Ev} (he : s.evs[i]? = some e) (hf : s.evs[j]? = some f) : clockB s.rates e f = Sy35.direct u [] i j := by
  have d : Sy35.direct u [] i j = Sy35.lesser (Sy35.byClock u i j) (Sy35.bySets u i j) := rfl
  rw [d]
  have hset : (u.sets.contains (i, j) = true ∨ u.sets.contains (j, i) = true) ↔ ((i, j) ∈ u.sets ∨ (j, i) ∈ u.sets) := by simp
  have sin : ((i, j) ∈ u.sets ∨ (j, i) ∈ u.sets ∨ i = j) → Sy35.bySets u i j = some 0 := fun h => by
    unfold Sy35.bySets
    rw [if_pos]
    rcases h with h | h | h
    · exact .inl (by simpa using h)
    · exact .inr (.inl (by simpa using h))
    · exact .inr (.inr h)
  have sout : ¬ ((i, j) ∈ u.sets ∨ (j, i) ∈ u.sets ∨ i = j) → Sy35.bySets u i j = none := fun h => by
    unfold Sy35.bySets
    rw [if_neg]
    rintro (z | z | z)
    · exact h (.inl (by simpa using z))
    · exact h (.inr (.inl (by simpa using z)))
    · exact h (.inr (.inr z))
  have diff : ((i, j) ∈ u.sets ∨ (j, i) ∈ u.sets) → e.1.clock = f.1.clock ∧ ¬ e.1.era = f.1.era := by
    rintro (h | h)
    · have := g.setdiff _ h e f he hf
      exact ⟨this.1, by omega⟩
    · have := g.setdiff _ h f e hf he
      exact ⟨this.1.symm, by omega⟩
  unfold Sy35.byClock clockB
  rw [g.at_ he, g.at_ hf]
  simp only
  by_cases hc : e.1.clock = f.1.clock
  · have nc : ¬ (e.1.clock ≠ f.1.clock) := fun z => z hc
    rw [if_neg nc, if_neg nc]
    by_cases hr : e.1.era = f.1.era
    · rw [if_pos hr, if_pos hr]
      have rr : Sy35.rate u e.1.clock = ((s.rates.getD e.1.clock 0 : Nat) : Int) := by unfold Sy35.rate; rw [g.rates]
      rw [rr]
      by_cases hij : i = j
      · rw [sin (.inr (.inr hij))]
        subst hij
        rw [he] at hf
        cases hf
        have z : (e.1.reading : Int) - (e.1.reading : Int) = 0 := by omega
        rw [z]
        simp [Sy35.lesser]
      · rw [sout]
        · rfl
        · rintro (h | h | h)
          · exact (diff (.inl h)).2 hr
          · exact (diff (.inr h)).2 hr
          · exact hij h
    · rw [if_neg hr, if_neg hr]
      have hij : i ≠ j := fun z => by
        subst z
        rw [he] at hf
        cases hf
        exact hr rfl
      by_cases hl : f.1.era < e.1.era
      · rw [if_pos (.inl hl), if_pos hl]
        unfold Sy35.bySets
        split <;> rfl
      · rw [if_neg hl]
        have q := g.inst i j e f he hf hij
        by_cases hi : f.2 = e.2
        · rw [if_pos (.inr hi), sin]
          · rfl
          · rcases q.mp hi.symm with z | z
            · exact .inl z
            · exact .inr (.inl z)
        · rw [if_neg (by rintro (z | z); exact hl z; exact hi z), sout]
          · rfl
          · rintro (z | z | z)
            · exact hi (q.mpr (.inl z)).symm
            · exact hi (q.mpr (.inr z)).symm
            · exact hij z
  · rw [if_pos hc, if_pos hc, sout]
    · rfl
    · rintro (z | z | z)
      · exact hc (diff (.inl z)).1
      · exact hc (diff (.inr z)).1
      · subst z
        rw [he] at hf
        cases hf
        exact hc rfl
theorem clock_table {s : RmS} {u : Sy35.St} (g : Gd s u) : clockT0 s.rates s.evs = Sy35.tableOf (Sy35.size u) fun i j => Sy35.direct u [] i j := by
  unfold clockT0 Sy35.tableOf
  rw [g.size]
  refine map_range _ _ _ fun i e he => ?_
  refine map_range _ _ _ fun j f hf => ?_
  exact clock_direct g he hf
theorem closed_fold {n : Nat} (l : List Nat) : ∀ {t : Sy35.Table}, Sq n t → l.foldl (fun t k => wayTab t k k 0) t = l.foldl (Sy35.over n) t := by
  induction l with
  | nil => intro t _; rfl
  | cons k l ih =>
    intro t h
    rw [List.foldl_cons, List.foldl_cons, ih (wayTab_sq h k k 0), way_over h]
theorem clock_base {s : RmS} {u : Sy35.St} (g : Gd s u) : clockT s.rates s.evs = Sy35.base u := by
  unfold clockT Sy35.base Sy35.closed
  rw [closed_fold _ (clockT0_sq s.rates s.evs), clock_table g, g.size]
theorem believing_fold {u : Sy35.St} : ∀ (L : List (Nat × Sy35.Signal)) (l : List Nat) (t : Sy35.Table), Sq (Sy35.size u) t → Sy35.believing u L l t = L.foldl (fun acc x => belStep acc x.1 x.2) (l, t)
  | [], _, _, _ => rfl
  | x :: L, l, t, h => by
    rw [List.foldl_cons]
    unfold Sy35.believing belStep
    by_cases c : x.2.struck = true ∨ Sy35.tooSoon t x.2 = true ∨ Sy35.tooLate t x.2 = true
    · rw [if_pos c, if_pos c]
      exact believing_fold L l t h
    · rw [if_neg c, if_neg c, way_sig h]
      exact believing_fold L _ _ (by rw [← way_sig h]; exact wayTab_sq (wayTab_sq h _ _ _) _ _ _)
theorem numbered_at {u : Sy35.St} {k : Nat} : (Sy35.numbered u)[k]? = (u.signals[k]?).map fun x => (k, x) := by
  unfold Sy35.numbered
  rw [List.getElem?_map, List.getElem?_zipIdx]
  cases u.signals[k]? with
  | none => rfl
  | some x => simp
theorem bel_upTo {s : RmS} {u : Sy35.St} (g : Gd s u) (k : Nat) : belUp s.sigs (clockT s.rates s.evs) k = Sy35.upTo u k := by
  unfold Sy35.upTo
  rw [believing_fold _ _ _ (by rw [← clock_base g, g.size]; exact clockT_sq _ _), ← clock_base g]
  induction k with
  | zero => rfl
  | succ k ih =>
    rw [List.take_add_one, List.foldl_append, ← ih, numbered_at, ← g.sigs]
    cases e : s.sigs[k]? with
    | none =>
      unfold belUp
      rw [List.range_succ, List.foldl_append]
      simp [e]
    | some x =>
      rw [belUp_succ e]
      rfl
theorem bel_all {s : RmS} {u : Sy35.St} (g : Gd s u) : belOf s = Sy35.all u := by
  unfold belOf Sy35.all
  rw [bel_upTo g, g.sigs]
theorem upTo_sq {s : RmS} {u : Sy35.St} (g : Gd s u) (k : Nat) : Sq s.evs.length (Sy35.upTo u k).2 := by
  rw [← bel_upTo g]
  exact (belUp_sq (clockT_sq _ _) k).1
theorem all_sq {s : RmS} {u : Sy35.St} (g : Gd s u) : Sq s.evs.length (Sy35.all u).2 := upTo_sq g _
end Ck
namespace Ck
open PySem PySem.Spec PyProof.Rows L2
theorem line_big {n : Nat} (h : n ≤ 2000000) : n ≤ sizeLine := Nat.le_trans h (by decide)
def spWLen : Sp := fun vs H Q _ => ∃ (la : Addr) (xs : List V), vs = [.ref la] ∧ H la = some (.lst xs) ∧ xs.length ≤ 1000000 ∧ ∀ (H' : Hp) (p : Addr), Same H H' → H p = none → H' p = some (.lst (.int (xs.length : Nat) :: xs)) → Q (.ref p) H'
def toldL (b : Sy35.Bound) : List Int := ((Sy35.told b).length : Int) :: Sy35.told b
def spBList : Sp := fun vs H Q _ => ∃ (b : Sy35.Bound), vs = [bV b] ∧ ∀ (H' : Hp) (p : Addr), Same H H' → H p = none → H' p = some (.lst ((toldL b).map V.int)) → Q (.ref p) H'
def spCount : Sp := fun vs H Q _ => ∃ (na : Addr) (l : List Nat), vs = [.ref na] ∧ IntsAt H na l ∧ l.length ≤ 1000 ∧ ∀ (H' : Hp) (p : Addr), Same H H' → H p = none → H' p = some (.lst ((Sy35Neutral.out (Sy35.listed l)).map V.int)) → Q (.ref p) H'
def spBelieved (t : Adr) : Sp := fun vs H Q _ => ∃ (a : Addr) (s : RmS) (fp : List Addr) (u : Sy35.St), vs = [.ref a] ∧ RmAt t H a s fp ∧ Gd s u ∧ Post t H Q a fp u .believed
def spBetween (t : Adr) : Sp := fun vs H Q _ => ∃ (a : Addr) (s : RmS) (fp : List Addr) (u : Sy35.St) (i j : Nat), vs = [.ref a, nV i, nV j] ∧ RmAt t H a s fp ∧ Gd s u ∧ Post t H Q a fp u (.between i j)
section
variable {P : Program} {w : World} {K : PySem.W.Frag} {mg : Str → Option Value} {base : Heap} {t : Adr}
theorem ok_with_length (T : Txt K mg t) : FnOk P w K mg base CX0 1 t.f_with_length t.d_with_length ["numbers"] spWLen := by
  refine T.F_with_length.ok sc_with_length (fun vs H Q E h => ?_) (fun cdv A outer s H vs Q E hr h => ?_)
  · obtain ⟨_, _, rfl, _⟩ := h
    rfl
  · obtain ⟨la, xs, rfl, h1, hz, k⟩ := h
    refine ⟨_, (pss_one (ps_ret (pe_op op_cat (pe_lst (pa_cons (pe_callB (call_lenK (K := K) rfl) (by rfl) T.z_len PySem.boot_len (pa_cons (pv 0) pa_nil)) pa_nil)) (pv 0)))), ?_⟩
    refine ⟨_, rfl, la, _, rfl, .inl (SqL.of h1), one_fits, fun l1 f1 => ⟨_, rfl, l1, la, _, _, rfl, rfl, upd_same, (Same.new f1) _ _ h1, line_big (by show 1 + xs.length ≤ _; omega), fun p hp => ?_⟩⟩
    exact k _ p ((Same.new f1).trans (Same.new hp)) ((Same.new f1).free hp) upd_same
theorem ok_bound_list (T : Txt K mg t) : FnOk P w K mg base CX0 2 t.f_bound_list t.d_bound_list ["bound"] spBList := by
  refine T.F_bound_list.ok sc_bound_list (fun vs H Q E h => ?_) (fun cdv A outer s H vs Q E hr h => ?_)
  · obtain ⟨_, rfl, _⟩ := h
    rfl
  · obtain ⟨b, rfl, k⟩ := h
    refine ⟨_, (pss_cons (ps_if (pt_cmp (pc_isN (pv 0))) (pss_one (ps_ret (pe_call (ok_with_length T) hr rfl T.m_with_length T.F_with_length.kp T.b_with_length .nil pass0 (pa_cons (pe_lst pa_nil) pa_nil)))) pss_nil) (pss_one (ps_ret (pe_call (ok_with_length T) hr rfl T.m_with_length T.F_with_length.kp T.b_with_length .nil pass0 (pa_cons (pe_lst (pa_cons (pv 0) pa_nil)) pa_nil))))), ?_⟩
    refine ⟨_, rfl, _, rfl, ?_⟩
    cases b with
    | none =>
      refine iteT ⟨Nat.zero_le _, fun l1 f1 => ⟨l1, [], rfl, upd_same, Nat.zero_le _, fun H' p sm hp h => ?_⟩⟩
      exact k H' p ((Same.new f1).trans sm) ((Same.new f1).free hp) h
    | some x =>
      refine iteF ⟨_, rfl, one_fits, fun l1 f1 => ⟨l1, [.int x], rfl, upd_same, Nat.le_of_ble_eq_true rfl, fun H' p sm hp h => ?_⟩⟩
      exact k H' p ((Same.new f1).trans sm) ((Same.new f1).free hp) h
theorem ok_counted (T : Txt K mg t) : FnOk P w K mg base CX0 2 t.f_counted t.d_counted ["numbers"] spCount := by
  refine T.F_counted.ok sc_counted (fun vs H Q E h => ?_) (fun cdv A outer s H vs Q E hr h => ?_)
  · obtain ⟨_, _, rfl, _⟩ := h
    rfl
  · obtain ⟨na, l, rfl, hn, hz, k⟩ := h
    refine ⟨_, (pss_one (ps_ret (pe_op op_cat (pe_lst (pa_cons (pe_callB (call_lenK (K := K) rfl) (by rfl) T.z_len PySem.boot_len (pa_cons (pv 0) pa_nil)) pa_nil)) (pe_call (ok_with_length T) hr rfl T.m_with_length T.F_with_length.kp T.b_with_length .nil pass0 (pa_cons (pv 0) pa_nil))))), ?_⟩
    refine ⟨_, rfl, na, _, rfl, .inl (SqL.of hn), one_fits, fun l1 f1 => ⟨_, rfl, na, _, rfl, Same.new f1 _ _ hn, by rw [List.length_map]; omega, fun H2 p2 s2 f2 h2 => ?_⟩⟩
    have e1 := s2 _ _ (upd_same (H := H) (a := l1))
    refine ⟨l1, p2, _, _, rfl, rfl, e1, h2, line_big (by simp; omega), fun p hp => ?_⟩
    have sm := (Same.new (o := .lst [.int (l.map nV).length]) f1).trans s2
    refine k _ p (sm.trans (Same.new hp)) (sm.free hp) ?_
    rw [upd_same]
    congr 2
    unfold Sy35Neutral.out Sy35.listed Sy35.ints
    simp
theorem ok_tell_believed (T : Txt K mg t) : FnOk P w K mg base CX0 8 t.f_tell_believed t.d_tell_believed ["room"] (spBelieved t) := by
  refine T.F_tell_believed.ok sc_tell_believed (fun vs H Q E h => ?_) (fun cdv A outer s H vs Q E hr h => ?_)
  · obtain ⟨_, _, _, _, rfl, _⟩ := h
    rfl
  · obtain ⟨a, s, fp, u, rfl, hR, g, k⟩ := h
    have st : Sy35.step u .believed = (u, Sy35.listed (Sy35.believed u)) := rfl
    refine ⟨_, (pss_one (ps_ret (pe_call (ok_counted T) (hr.mono (by decide)) rfl T.m_counted T.F_counted.kp T.b_counted .nil pass0 (pa_cons (pe_fldK (K := K) rfl (pe_call (ok_belief_of T) hr rfl T.m_belief_of T.F_belief_of.kp T.b_belief_of .nil pass0 (pa_cons (pv 0) pa_nil)) rfl) pa_nil)))), ?_⟩
    refine ⟨_, rfl, a, s, fp, rfl, hR, g.ok, fun H1 b dx na ta s1 hb hn ht => ?_⟩
    rw [bel_all g] at hn ht
    have hlen : (Sy35.all u).1.length ≤ 30 := by
      rw [← bel_all g]
      have := (belUp_sq (sigs := s.sigs) (clockT_sq s.rates s.evs) s.sigs.length).2
      have := g.ok.sfew
      show (belUp _ _ _).1.length ≤ 30
      omega
    refine ⟨b, _, dx, _, _, rfl, hb, T.cl_Belief, T.n_Belief_numbers, rfl, na, _, rfl, hn, by omega, fun H2 p s2 hp h2 => ?_⟩
    exact k.plain hR g st (s1.trans s2) (s1.free hp) h2
theorem ok_tell_between (T : Txt K mg t) : FnOk P w K mg base CX0 8 t.f_tell_between t.d_tell_between ["room", "base", "other"] (spBetween t) := by
  refine T.F_tell_between.ok sc_tell_between (fun vs H Q E h => ?_) (fun cdv A outer s H vs Q E hr h => ?_)
  · obtain ⟨_, _, _, _, _, _, rfl, _⟩ := h
    rfl
  · obtain ⟨a, s, fp, u, i, j, rfl, hR, g, k⟩ := h
    obtain ⟨dx, la, lb, lc, ld, le, xs, hfp, R⟩ := id hR
    have st : Sy35.step u (.between i j) = (u, if Sy35.size u ≤ i ∨ Sy35.size u ≤ j then Sy35.ok (-1) else ⟨0, [Sy35.told (Sy35.least u i j), Sy35.told (Sy35.greatest u i j)]⟩) := rfl
    rw [g.size] at st
    refine ⟨_, (pss_cons (ps_if (pt_not (pt_val (pe_meth (pv 0) T.cl_Room T.h_Room_has_both (ok_Room_has_both T) (hr.mono (by decide)) T.b_Room_has_both .nil pass0 (pa_cons (pv 1) (pa_cons (pv 2) pa_nil))))) (pss_one (ps_ret (pe_lst (pa_cons (pe_un un_neg pe_int) pa_nil)))) pss_nil) (pss_cons (ps_set (i := 3) sc_tell_between.nd rfl (Or.inl rfl) (pe_fldK (K := K) rfl (pe_call (ok_belief_of T) hr rfl T.m_belief_of T.F_belief_of.kp T.b_belief_of .nil pass0 (pa_cons (pv 0) pa_nil)) rfl)) (pss_one (ps_ret (pe_op op_cat (pe_op op_cat (pe_lst (pa_cons pe_int pa_nil)) (pe_call (ok_bound_list T) (hr.mono (by decide)) rfl T.m_bound_list T.F_bound_list.kp T.b_bound_list .nil pass0 (pa_cons (pe_call (ok_least_later T) (hr.mono (by decide)) rfl T.m_least_later T.F_least_later.kp T.b_least_later .nil pass0 (pa_cons (pv 3) (pa_cons (pv 1) (pa_cons (pv 2) pa_nil)))) pa_nil))) (pe_call (ok_bound_list T) (hr.mono (by decide)) rfl T.m_bound_list T.F_bound_list.kp T.b_bound_list .nil pass0 (pa_cons (pe_ix (ixL (K := K) rfl) (pe_ix (ixL (K := K) rfl) (pv 3) (pv 1) (fun _ _ => rfl)) (pv 2) (fun _ _ => rfl)) pa_nil))))))), ?_⟩
    refine ⟨_, rfl, a, dx, _, rfl, R.obj, rfl, _, rfl, _, rfl, a, s, fp, i, j, rfl, hR, _, rfl, ite2 (fun h => ?_) (fun hb => ?_)⟩
    · rw [if_pos (by have := not_dec h; omega)] at st
      exact ⟨_, rfl, one_fits, fun p hp => k.new hR g st (Same.refl H) hp⟩
    · obtain ⟨hi, hj⟩ := yes_dec hb
      · skip
        rw [if_neg (by omega)] at st
        refine ⟨_, rfl, a, s, fp, rfl, hR, g.ok, fun H1 b dx na ta s1 hb hn ht => ?_⟩
        rw [bel_all g] at hn ht
        have sq := all_sq g
        refine ⟨b, _, dx, _, _, rfl, hb, T.cl_Belief, T.n_Belief_table, rfl, ?_⟩
        refine ⟨one_fits, fun l1 f1 => ?_⟩
        have s2 : Same H1 (upd H1 l1 (.lst [.int 0])) := Same.new f1
        have ht2 := ht.same s2
        refine ⟨_, rfl, _, rfl, _, rfl, _, ta, s.evs.length, _, i, j, rfl, ht2, sq, hi, hj, _, rfl, fun H3 p3 s3 f3 h3 => ?_⟩
        have e1 := s3 _ _ (upd_same (H := H1) (a := l1) (o := .lst [.int 0]))
        have small : ∀ b : Sy35.Bound, (toldL b).length ≤ 2 := fun b => by cases b <;> exact Nat.le_of_ble_eq_true rfl
        have sm1 := small ((Sy35.entry (Sy35.all u).2 j i).map fun x => -x)
        refine ⟨l1, p3, _, _, rfl, rfl, e1, h3, line_big (by rw [List.length_map]; show 1 + _ ≤ _; omega), fun l4 f4 => ?_⟩
        have s4 : Same H3 (upd H3 l4 (.lst ([V.int 0] ++ (toldL ((Sy35.entry (Sy35.all u).2 j i).map fun x => -x)).map V.int))) := Same.new f4
        obtain ⟨as, p, rs, q1, q2, q3, q4⟩ := ((ht2.same s3).same s4).get sq hi hj
        refine ⟨_, rfl, _, rfl, ta, _, _, _, rfl, rfl, SqL.of q1, at_of (j := i) rfl q2, _, rfl, p, _, _, _, rfl, rfl, SqL.of q3, at_of (j := j) rfl q4, _, rfl, fun H5 p5 s5 f5 h5 => ?_⟩
        have e4 := s5 _ _ (upd_same (H := H3) (a := l4) (o := .lst ([V.int 0] ++ (toldL ((Sy35.entry (Sy35.all u).2 j i).map fun x => -x)).map V.int)))
        have sm2 := small (Sy35.entry (Sy35.all u).2 i j)
        refine ⟨l4, p5, _, _, rfl, rfl, e4, h5, line_big (by simp; omega), fun p6 f6 => ?_⟩
        have sm := (((s1.trans s2).trans s3).trans s4).trans s5
        refine k.plain hR g st (sm.trans (Same.new f6)) (sm.free f6) ?_
        rw [upd_same]
        congr 2
        unfold Sy35Neutral.out Sy35.least Sy35.greatest toldL
        simp
end
end Ck
namespace Ck
abbrev cI (n : Nat) : Int := (n : Int)
inductive RawOf : List Int → Sy35.Call → Prop
  | begins (x : List Nat) (h : x.length ≤ 60) : RawOf (0 :: cI x.length :: x.map cI) (.begins x)
  | event (a b : Nat) : RawOf [1, cI a, cI b] (.event a b)
  | set (a b c : Nat) : RawOf [2, cI a, cI b, cI c] (.set a b c)
  | signal (a b c d : Nat) : RawOf [3, cI a, cI b, cI c, cI d] (.signal a b c d)
  | strike (a : Nat) : RawOf [4, cI a] (.strike a)
  | believed : RawOf [5] .believed
  | between (a b : Nat) : RawOf [6, cI a, cI b] (.between a b)
  | order (a b : Nat) : RawOf [7, cI a, cI b] (.order a b)
  | reason (a b : Nat) : RawOf [8, cI a, cI b] (.reason a b)
  | against (a : Nat) : RawOf [9, cI a] (.against a)
  | could (a b c d : Nat) : RawOf [10, cI a, cI b, cI c, cI d] (.could a b c d)
  | of_ (a : Nat) : RawOf [11, cI a] (.of_ a)
  | once (a : Nat) : RawOf [12, cI a] (.once a)
theorem many_nat : ∀ (k : Nat) (l : List Int) (x : List Nat) (r : List Int), Sy35Neutral.many_ Sy35Neutral.natIn k l = some (x, r) → l = x.map cI ++ r ∧ x.length = k
  | 0, l, x, r, h => by
    have h : some (([] : List Nat), l) = some (x, r) := h
    injection h with h
    injection h with h1 h2
    subst h1 h2
    exact ⟨rfl, rfl⟩
  | k + 1, l, x, r, h => by
    unfold Sy35Neutral.many_ at h
    cases l with
    | nil => simp [Sy35Neutral.natIn] at h
    | cons n l =>
      unfold Sy35Neutral.natIn at h
      simp only at h
      by_cases c : 0 ≤ n ∧ n ≤ 2000000000000
      · rw [if_pos c] at h
        have h : (Sy35Neutral.many_ Sy35Neutral.natIn k l).map (fun (y : List Nat × List Int) => (n.toNat :: y.1, y.2)) = some (x, r) := h
        cases e : Sy35Neutral.many_ Sy35Neutral.natIn k l with
        | none => rw [e] at h; cases h
        | some y =>
          rw [e] at h
          injection h with h
          injection h with h1 h2
          obtain ⟨q1, q2⟩ := many_nat k l y.1 y.2 e
          subst h1 h2
          refine ⟨?_, by rw [List.length_cons, q2]⟩
          rw [q1, List.map_cons]
          have z : cI n.toNat = n := by show ((n.toNat : Nat) : Int) = n; omega
          rw [z]
          rfl
      · rw [if_neg c] at h
        cases h
theorem all_nat {k : Nat} {l : List Int} {x : List Nat} (h : Sy35Neutral.all_ (Sy35Neutral.some_ k l) = some x) : l = x.map cI ∧ x.length = k := by
  unfold Sy35Neutral.all_ Sy35Neutral.some_ at h
  cases e : Sy35Neutral.many_ Sy35Neutral.natIn k l with
  | none => rw [e] at h; cases h
  | some y =>
    rw [e] at h
    have h : (if y.2.isEmpty = true then some y.1 else none) = some x := h
    by_cases c : y.2.isEmpty = true
    · rw [if_pos c] at h
      cases h
      obtain ⟨q1, q2⟩ := many_nat k l y.1 y.2 e
      have z : y.2 = [] := List.isEmpty_iff.mp c
      rw [z, List.append_nil] at q1
      exact ⟨q1, q2⟩
    · rw [if_neg c] at h
      cases h
theorem row_nat {l : List Int} {x : List Nat} (h : Sy35Neutral.all_ (Sy35Neutral.rowIn l) = some x) : l = cI x.length :: x.map cI ∧ x.length ≤ 60 := by
  unfold Sy35Neutral.rowIn at h
  cases l with
  | nil => cases h
  | cons n l =>
    unfold Sy35Neutral.listIn at h
    simp only at h
    by_cases c : 0 ≤ n ∧ n ≤ 60
    · rw [if_pos c] at h
      have h : Sy35Neutral.all_ (Sy35Neutral.some_ n.toNat l) = some x := h
      obtain ⟨h1, h2⟩ := all_nat h
      refine ⟨?_, by omega⟩
      rw [← h1, h2]
      congr 1
      show n = ((n.toNat : Nat) : Int)
      omega
    · rw [if_neg c] at h
      cases h
theorem raw_of {cl : List Int} {c : Sy35.Call} (h : Sy35Neutral.callOf cl = some c) : RawOf cl c := by
  unfold Sy35Neutral.callOf at h
  split at h
  · obtain ⟨x, hx, rfl⟩ := Option.map_eq_some_iff.mp h
    obtain ⟨rfl, h2⟩ := row_nat hx
    exact .begins x h2
  · obtain ⟨x, hx, rfl⟩ := Option.map_eq_some_iff.mp h
    obtain ⟨rfl, h2⟩ := all_nat hx
    match x, h2 with
    | [a, b], _ => exact .event a b
  · obtain ⟨x, hx, rfl⟩ := Option.map_eq_some_iff.mp h
    obtain ⟨rfl, h2⟩ := all_nat hx
    match x, h2 with
    | [a, b, c], _ => exact .set a b c
  · obtain ⟨x, hx, rfl⟩ := Option.map_eq_some_iff.mp h
    obtain ⟨rfl, h2⟩ := all_nat hx
    match x, h2 with
    | [a, b, c, d], _ => exact .signal a b c d
  · obtain ⟨x, hx, rfl⟩ := Option.map_eq_some_iff.mp h
    obtain ⟨rfl, h2⟩ := all_nat hx
    match x, h2 with
    | [a], _ => exact .strike a
  · obtain ⟨x, hx, rfl⟩ := Option.map_eq_some_iff.mp h
    obtain ⟨rfl, h2⟩ := all_nat hx
    match x, h2 with
    | [], _ => exact .believed
  · obtain ⟨x, hx, rfl⟩ := Option.map_eq_some_iff.mp h
    obtain ⟨rfl, h2⟩ := all_nat hx
    match x, h2 with
    | [a, b], _ => exact .between a b
  · obtain ⟨x, hx, rfl⟩ := Option.map_eq_some_iff.mp h
    obtain ⟨rfl, h2⟩ := all_nat hx
    match x, h2 with
    | [a, b], _ => exact .order a b
  · obtain ⟨x, hx, rfl⟩ := Option.map_eq_some_iff.mp h
    obtain ⟨rfl, h2⟩ := all_nat hx
    match x, h2 with
    | [a, b], _ => exact .reason a b
  · obtain ⟨x, hx, rfl⟩ := Option.map_eq_some_iff.mp h
    obtain ⟨rfl, h2⟩ := all_nat hx
    match x, h2 with
    | [a], _ => exact .against a
  · obtain ⟨x, hx, rfl⟩ := Option.map_eq_some_iff.mp h
    obtain ⟨rfl, h2⟩ := all_nat hx
    match x, h2 with
    | [a, b, c, d], _ => exact .could a b c d
  · obtain ⟨x, hx, rfl⟩ := Option.map_eq_some_iff.mp h
    obtain ⟨rfl, h2⟩ := all_nat hx
    match x, h2 with
    | [a], _ => exact .of_ a
  · obtain ⟨x, hx, rfl⟩ := Option.map_eq_some_iff.mp h
    obtain ⟨rfl, h2⟩ := all_nat hx
    match x, h2 with
    | [a], _ => exact .once a
  · cases h
theorem call_cut {l : List Int} {c : List (List Int)} {t : List Int} (h : PyFlat.call PySy35.shape l = some (c, t)) : ∃ w, PySy35.whole c = [w] ∧ l = w ++ t ∧ 0 < w.length := by
  cases l with
  | nil => cases h
  | cons p r =>
    unfold PyFlat.call at h
    simp only at h
    cases e : PySy35.shape p with
    | none => rw [e] at h; cases h
    | some nk =>
      obtain ⟨n, k⟩ := nk
      rw [e] at h
      simp only at h
      by_cases hl : r.length < n
      · rw [if_pos hl] at h; cases h
      · rw [if_neg hl] at h
        have plain : k = 0 → PySy35.whole [p :: r.take n] = [p :: r.take n] → ∃ w, PySy35.whole c = [w] ∧ p :: r = w ++ t ∧ 0 < w.length := fun hk hw => by
          subst hk
          have h : some ([p :: r.take n], r.drop n) = some (c, t) := h
          injection h with h
          injection h with h1 h2
          subst h1 h2
          exact ⟨_, hw, by rw [List.cons_append, List.take_append_drop], Nat.succ_pos _⟩
        unfold PySy35.shape at e
        by_cases p0 : p = 0
        · rw [if_pos p0] at e
          injection e with e
          injection e with e1 e2
          subst e1 e2 p0
          unfold PyFlat.rows at h
          rw [List.drop_zero] at h
          cases r with
          | nil => cases h
          | cons m r =>
            unfold PyFlat.row at h
            by_cases hm : 0 ≤ m ∧ m.toNat ≤ r.length
            · simp only [if_pos hm] at h
              have h : some ([[0], r.take m.toNat], r.drop m.toNat) = some (c, t) := h
              injection h with h
              injection h with h1 h2
              subst h1 h2
              refine ⟨[0] ++ [((r.take m.toNat).length : Int)] ++ r.take m.toNat, rfl, ?_, Nat.succ_pos _⟩
              have z : ((r.take m.toNat).length : Int) = m := by rw [List.length_take]; omega
              rw [z]
              show 0 :: m :: r = 0 :: m :: (r.take m.toNat ++ r.drop m.toNat)
              rw [List.take_append_drop]
            · simp only [if_neg hm] at h
              cases h
        · rw [if_neg p0] at e
          have two : n = 2 → ∃ a b r', r = a :: b :: r' := fun hn => match r, (by rw [hn] at hl; exact hl : ¬ r.length < 2) with
            | a :: b :: r', _ => ⟨a, b, r', rfl⟩
            | [], z => absurd (by decide : ([] : List Int).length < 2) z
            | [a], z => absurd (Nat.lt_succ_self 1) z
          have one : n = 1 → ∃ a r', r = a :: r' := fun hn => match r, (by rw [hn] at hl; exact hl : ¬ r.length < 1) with
            | a :: r', _ => ⟨a, r', rfl⟩
            | [], z => absurd (by decide : ([] : List Int).length < 1) z
          have three : n = 3 → ∃ a b d r', r = a :: b :: d :: r' := fun hn => match r, (by rw [hn] at hl; exact hl : ¬ r.length < 3) with
            | a :: b :: d :: r', _ => ⟨a, b, d, r', rfl⟩
            | [], z => absurd (by decide : ([] : List Int).length < 3) z
            | [a], z => absurd (show 1 < 3 by decide) z
            | [a, b], z => absurd (show 2 < 3 by decide) z
          have four : n = 4 → ∃ a b d f r', r = a :: b :: d :: f :: r' := fun hn => match r, (by rw [hn] at hl; exact hl : ¬ r.length < 4) with
            | a :: b :: d :: f :: r', _ => ⟨a, b, d, f, r', rfl⟩
            | [], z => absurd (by decide : ([] : List Int).length < 4) z
            | [a], z => absurd (show 1 < 4 by decide) z
            | [a, b], z => absurd (show 2 < 4 by decide) z
            | [a, b, d], z => absurd (show 3 < 4 by decide) z
          by_cases p1 : p = 1
          · rw [if_pos p1] at e
            injection e with e; injection e with e1 e2
            obtain ⟨a, b, r', rfl⟩ := two e1.symm
            subst e1 e2 p1
            exact plain rfl rfl
          · rw [if_neg p1] at e
            by_cases p2 : p = 2
            · rw [if_pos p2] at e
              injection e with e; injection e with e1 e2
              obtain ⟨a, b, d, r', rfl⟩ := three e1.symm
              subst e1 e2 p2
              exact plain rfl rfl
            · rw [if_neg p2] at e
              by_cases p3 : p = 3
              · rw [if_pos p3] at e
                injection e with e; injection e with e1 e2
                obtain ⟨a, b, d, f, r', rfl⟩ := four e1.symm
                subst e1 e2 p3
                exact plain rfl rfl
              · rw [if_neg p3] at e
                by_cases p4 : p = 4
                · rw [if_pos p4] at e
                  injection e with e; injection e with e1 e2
                  obtain ⟨a, r', rfl⟩ := one e1.symm
                  subst e1 e2 p4
                  exact plain rfl rfl
                · rw [if_neg p4] at e
                  by_cases p5 : p = 5
                  · rw [if_pos p5] at e
                    injection e with e; injection e with e1 e2
                    subst e1 e2 p5
                    exact plain rfl rfl
                  · rw [if_neg p5] at e
                    by_cases p6 : p = 6
                    · rw [if_pos p6] at e
                      injection e with e; injection e with e1 e2
                      obtain ⟨a, b, r', rfl⟩ := two e1.symm
                      subst e1 e2 p6
                      exact plain rfl rfl
                    · rw [if_neg p6] at e
                      by_cases p7 : p = 7
                      · rw [if_pos p7] at e
                        injection e with e; injection e with e1 e2
                        obtain ⟨a, b, r', rfl⟩ := two e1.symm
                        subst e1 e2 p7
                        exact plain rfl rfl
                      · rw [if_neg p7] at e
                        by_cases p8 : p = 8
                        · rw [if_pos p8] at e
                          injection e with e; injection e with e1 e2
                          obtain ⟨a, b, r', rfl⟩ := two e1.symm
                          subst e1 e2 p8
                          exact plain rfl rfl
                        · rw [if_neg p8] at e
                          by_cases p9 : p = 9
                          · rw [if_pos p9] at e
                            injection e with e; injection e with e1 e2
                            obtain ⟨a, r', rfl⟩ := one e1.symm
                            subst e1 e2 p9
                            exact plain rfl rfl
                          · rw [if_neg p9] at e
                            by_cases p10 : p = 10
                            · rw [if_pos p10] at e
                              injection e with e; injection e with e1 e2
                              obtain ⟨a, b, d, f, r', rfl⟩ := four e1.symm
                              subst e1 e2 p10
                              exact plain rfl rfl
                            · rw [if_neg p10] at e
                              by_cases p11 : p = 11
                              · rw [if_pos p11] at e
                                injection e with e; injection e with e1 e2
                                obtain ⟨a, r', rfl⟩ := one e1.symm
                                subst e1 e2 p11
                                exact plain rfl rfl
                              · rw [if_neg p11] at e
                                by_cases p12 : p = 12
                                · rw [if_pos p12] at e
                                  injection e with e; injection e with e1 e2
                                  obtain ⟨a, r', rfl⟩ := one e1.symm
                                  subst e1 e2 p12
                                  exact plain rfl rfl
                                · rw [if_neg p12] at e
                                  cases e
end Ck
namespace Ck
def stp (s : Sy35.St) (c : List (List Int)) : Sy35.St × List Int := Sy35Neutral.step s (c.headD [])
def Run (ns gs rest : List Int) (u : Sy35.St) : Prop := ∃ (f : Nat) (cs : List (List (List Int))), PyFlat.calls PySy35.shape f rest = some cs ∧ PySy35.answers ns = gs ++ PyFlat.told (PyFlat.played stp u (cs.map PySy35.whole)) ∧ ∀ c ∈ cs.map PySy35.whole, (Sy35Neutral.callOf (c.headD [])).isSome = true
theorem run_start {ns : List Int} (h : PySy35.answers_asked ns = true) : Run ns [] ns Sy35.init := by
  unfold PySy35.answers_asked at h
  cases e : PySy35.calls ns with
  | none => rw [e] at h; cases h
  | some cs =>
    rw [e] at h
    simp only [Bool.and_eq_true] at h
    obtain ⟨h1, h2⟩ := h
    unfold Sy35Neutral.asked at h2
    simp only [Bool.and_eq_true] at h2
    have e0 := e
    unfold PySy35.calls at e0
    cases e1 : PyFlat.calls PySy35.shape ns.length ns with
    | none => rw [e1] at e0; cases e0
    | some cs0 =>
      rw [e1] at e0
      injection e0 with e0
      refine ⟨ns.length, cs0, e1, ?_, fun c hc => ?_⟩
      · unfold PySy35.answers
        rw [e, ← e0]
        rfl
      · rw [e0] at hc
        exact List.all_eq_true.mp h2.1 _ (List.mem_map.mpr ⟨c, hc, rfl⟩)
theorem run_end {ns gs : List Int} {u : Sy35.St} (h : Run ns gs [] u) : PySy35.answers ns = gs := by
  obtain ⟨f, cs, h1, h2, _⟩ := h
  have e : cs = [] := by
    cases f with
    | zero => exact (Option.some.inj h1).symm
    | succ f => exact (Option.some.inj h1).symm
  subst e
  rw [h2]
  exact List.append_nil gs
theorem run_step {ns gs : List Int} {p : Int} {r : List Int} {u : Sy35.St} (h : Run ns gs (p :: r) u) : ∃ (w t : List Int) (c : Sy35.Call), p :: r = w ++ t ∧ 0 < w.length ∧ RawOf w c ∧
    Run ns (gs ++ (((Sy35Neutral.out (Sy35.step u c).2).length : Int) :: Sy35Neutral.out (Sy35.step u c).2)) t (Sy35.step u c).1 := by
  obtain ⟨f, cs, h1, h2, h3⟩ := h
  cases f with
  | zero => cases h1
  | succ f =>
    unfold PyFlat.calls at h1
    cases e : PyFlat.call PySy35.shape (p :: r) with
    | none => rw [e] at h1; cases h1
    | some ct =>
      obtain ⟨c, t⟩ := ct
      rw [e] at h1
      simp only at h1
      cases e2 : PyFlat.calls PySy35.shape f t with
      | none => rw [e2] at h1; cases h1
      | some cs' =>
        rw [e2] at h1
        have e3 : c :: cs' = cs := Option.some.inj h1
        subst e3
        obtain ⟨w, hw, hl, hp⟩ := call_cut e
        have q := h3 (PySy35.whole c) (List.mem_cons_self ..)
        rw [hw] at q
        obtain ⟨c', hc'⟩ := Option.isSome_iff_exists.mp q
        have hc' : Sy35Neutral.callOf w = some c' := hc'
        have st : stp u (PySy35.whole c) = ((Sy35.step u c').1, Sy35Neutral.out (Sy35.step u c').2) := by
          unfold stp Sy35Neutral.step
          rw [hw]
          show (match Sy35Neutral.callOf w with | none => _ | some x => _) = _
          rw [hc']
        refine ⟨w, t, c', hl, hp, raw_of hc', f, cs', e2, ?_, fun d hd => h3 d (List.mem_cons_of_mem _ hd)⟩
        rw [h2, List.append_assoc]
        congr 1
        rw [List.map_cons]
        unfold PyFlat.told
        show List.flatMap _ ((stp u (PySy35.whole c)).2 :: PyFlat.played stp (stp u (PySy35.whole c)).1 (cs'.map PySy35.whole)) = _
        rw [st]
        rfl
theorem told_len : ∀ (l : List (List Int)), (PyFlat.told l).length = (l.map fun a => a.length + 1).sum
  | [] => rfl
  | a :: l => by
    have := told_len l
    unfold PyFlat.told at this ⊢
    rw [List.flatMap_cons, List.length_append, this]
    simp
theorem many_len : ∀ (cs : List (List (List Int))) (u : Sy35.St), ((PyFlat.played stp u cs).map fun a => a.length + 1).sum = Sy35Neutral.many u (cs.map fun c => c.headD []) + cs.length
  | [], _ => rfl
  | c :: cs, u => by
    have := many_len cs (stp u c).1
    unfold PyFlat.played
    rw [List.map_cons, List.sum_cons, this]
    have e : Sy35Neutral.many u (c.headD [] :: cs.map fun c => c.headD []) = (stp u c).2.length + Sy35Neutral.many (stp u c).1 (cs.map fun c => c.headD []) := rfl
    show _ = Sy35Neutral.many u (c.headD [] :: cs.map fun c => c.headD []) + (cs.length + 1)
    rw [e]
    omega
theorem run_size {ns : List Int} (h : PySy35.answers_asked ns = true) : (PySy35.answers ns).length ≤ 1000060 := by
  unfold PySy35.answers_asked at h
  cases e : PySy35.calls ns with
  | none => rw [e] at h; cases h
  | some cs =>
    rw [e] at h
    simp only [Bool.and_eq_true] at h
    obtain ⟨h1, h2⟩ := h
    unfold Sy35Neutral.asked at h2
    simp only [Bool.and_eq_true, decide_eq_true_eq] at h2
    obtain ⟨_, _, h4, h5⟩ := h2
    unfold PySy35.answers
    rw [e]
    show (PyFlat.told (PyFlat.played stp Sy35.init cs)).length ≤ _
    rw [told_len, many_len]
    rw [List.length_map] at h4
    have h5 : Sy35Neutral.many Sy35.init (cs.map fun c => c.headD []) ≤ 1000000 := h5
    omega
theorem run_pre {ns gs rest : List Int} {u : Sy35.St} (h : Run ns gs rest u) : gs.length ≤ (PySy35.answers ns).length := by
  obtain ⟨f, cs, _, h2, _⟩ := h
  rw [h2, List.length_append]
  omega
end Ck
namespace Ck
theorem sq_entry {n : Nat} {t : Sy35.Table} (h : Sq n t) {i j : Nat} {r : List Sy35.Bound} (e : t[i]? = some r) : Sy35.entry t i j = r.getD j none := by
  have q : t.getD i [] = r := by rw [List.getD_eq_getElem?_getD, e]; rfl
  unfold Sy35.entry
  rw [q]
theorem entry_way {n : Nat} {t : Sy35.Table} (h : Sq n t) {i j a b : Nat} {w : Int} (hi : i < n) (hj : j < n) :
    Sy35.entry (wayTab t a b w) i j = Sy35.lesser (Sy35.entry t i j) (Sy35.sum (Sy35.sum (Sy35.entry t i a) (some w)) (Sy35.entry t b j)) := by
  have hi' : i < t.length := by rw [h.len]; exact hi
  have e0 : t[i]? = some t[i] := List.getElem?_eq_getElem hi'
  have hl : t[i].length = n := h.row _ (List.getElem_mem hi')
  generalize t[i] = r at e0 hl
  have e1 : (wayTab t a b w)[i]? = some (wayRow (Sy35.sum (r.getD a none) (some w)) r (t.getD b [])) := by
    unfold wayTab
    rw [List.getElem?_map, e0]
    rfl
  rw [sq_entry (wayTab_sq h a b w) e1, sq_entry h e0, sq_entry h e0]
  show _ = Sy35.lesser _ (Sy35.sum _ ((t.getD b []).getD j none))
  generalize t.getD b [] = o
  cases q : r.getD a none with
  | none =>
    show r.getD j none = Sy35.lesser (r.getD j none) none
    cases r.getD j none <;> rfl
  | some x =>
    show ((List.range r.length).map fun j => Sy35.lesser (r.getD j none) (Sy35.sum (some (x + w)) (o.getD j none))).getD j none = _
    rw [List.getD_eq_getElem?_getD, List.getElem?_map, List.getElem?_range (by omega)]
    rfl
section
variable {n : Nat} {t : Sy35.Table} {a b i j : Nat} {w : Int}
theorem way_up1 (h : Sq n t) (hi : i < n) (hj : j < n) {x : Int} (e : Sy35.entry t i j = some x) : ∃ z, Sy35.entry (wayTab t a b w) i j = some z ∧ z ≤ x := by
  rw [entry_way h hi hj, e]
  cases Sy35.sum (Sy35.sum (Sy35.entry t i a) (some w)) (Sy35.entry t b j) with
  | none => exact ⟨x, rfl, Int.le_refl _⟩
  | some y => exact ⟨min x y, rfl, by omega⟩
theorem way_up2 (h : Sq n t) (hi : i < n) (hj : j < n) {x y : Int} (e1 : Sy35.entry t i a = some x) (e2 : Sy35.entry t b j = some y) : ∃ z, Sy35.entry (wayTab t a b w) i j = some z ∧ z ≤ x + w + y := by
  rw [entry_way h hi hj, e1, e2]
  cases Sy35.entry t i j with
  | none => exact ⟨x + w + y, rfl, Int.le_refl _⟩
  | some z => exact ⟨min z (x + w + y), rfl, by omega⟩
theorem way_dn (h : Sq n t) (hi : i < n) (hj : j < n) {z : Int} (e : Sy35.entry (wayTab t a b w) i j = some z) : Sy35.entry t i j = some z ∨ ∃ x y, Sy35.entry t i a = some x ∧ Sy35.entry t b j = some y ∧ z = x + w + y := by
  rw [entry_way h hi hj] at e
  cases e1 : Sy35.entry t i a with
  | none =>
    rw [e1] at e
    left
    cases e2 : Sy35.entry t i j with
    | none => rw [e2] at e; exact e
    | some x => rw [e2] at e; exact e
  | some x =>
    cases e3 : Sy35.entry t b j with
    | none =>
      rw [e1, e3] at e
      left
      cases e2 : Sy35.entry t i j with
      | none => rw [e2] at e; exact e
      | some x => rw [e2] at e; exact e
    | some y =>
      rw [e1, e3] at e
      cases e2 : Sy35.entry t i j with
      | none =>
        rw [e2] at e
        have e : some (x + w + y) = some z := e
        exact .inr ⟨x, y, rfl, rfl, (Option.some.inj e).symm⟩
      | some u =>
        rw [e2] at e
        have e : some (min u (x + w + y)) = some z := e
        have e := Option.some.inj e
        by_cases c : u ≤ x + w + y
        · exact .inl (congrArg some (by omega))
        · exact .inr ⟨x, y, rfl, rfl, by omega⟩
end
def TriTo (n k : Nat) (t : Sy35.Table) : Prop := ∀ i m j x y, i < n → m < n → j < n → m < k → Sy35.entry t i m = some x → Sy35.entry t m j = some y → ∃ z, Sy35.entry t i j = some z ∧ z ≤ x + y
abbrev Tri (n : Nat) (t : Sy35.Table) : Prop := TriTo n n t
def Dg (n : Nat) (t : Sy35.Table) : Prop := ∀ i, i < n → Sy35.entry t i i = some 0
def Nn (n : Nat) (t : Sy35.Table) : Prop := ∀ i x, i < n → Sy35.entry t i i = some x → 0 ≤ x
def Sat (n : Nat) (T : Nat → Int) (t : Sy35.Table) : Prop := ∀ i j x, i < n → j < n → Sy35.entry t i j = some x → T j - T i ≤ x
theorem Sat.nn {n : Nat} {T : Nat → Int} {t : Sy35.Table} (h : Sat n T t) : Nn n t := fun i x hi e => by
  have := h i i x hi hi e
  omega
theorem Sat.way {n : Nat} {T : Nat → Int} {t : Sy35.Table} (h : Sat n T t) (hs : Sq n t) {a b : Nat} {w : Int} (ha : a < n) (hb : b < n) (hw : T b - T a ≤ w) : Sat n T (wayTab t a b w) := fun i j z hi hj e => by
  rcases way_dn hs hi hj e with e | ⟨x, y, e1, e2, rfl⟩
  · exact h i j z hi hj e
  · have := h i a x hi ha e1
    have := h b j y hb hj e2
    omega
theorem Sat.unway {n : Nat} {T : Nat → Int} {t : Sy35.Table} {a b : Nat} {w : Int} (h : Sat n T (wayTab t a b w)) (hs : Sq n t) : Sat n T t := fun i j x hi hj e => by
  obtain ⟨z, e1, e2⟩ := way_up1 (a := a) (b := b) (w := w) hs hi hj e
  have := h i j z hi hj e1
  omega
theorem Sat.edge {n : Nat} {T : Nat → Int} {t : Sy35.Table} {a b : Nat} {w : Int} (h : Sat n T (wayTab t a b w)) (hs : Sq n t) (ha : a < n) (hb : b < n) {x y : Int} (e1 : Sy35.entry t a a = some x) (h1 : x ≤ 0) (e2 : Sy35.entry t b b = some y) (h2 : y ≤ 0) : T b - T a ≤ w := by
  obtain ⟨z, e, hz⟩ := way_up2 (w := w) hs ha hb e1 e2
  have := h a b z ha hb e
  omega
theorem Nn.unway {n : Nat} {t : Sy35.Table} {a b : Nat} {w : Int} (h : Nn n (wayTab t a b w)) (hs : Sq n t) : Nn n t := fun i x hi e => by
  obtain ⟨z, e1, e2⟩ := way_up1 (a := a) (b := b) (w := w) hs hi hi e
  have := h i z hi e1
  omega
theorem Tri.way {n : Nat} {t : Sy35.Table} (h : Tri n t) (hs : Sq n t) {a b : Nat} {w : Int} (ha : a < n) (hb : b < n) (hw : ∀ x, Sy35.entry t b a = some x → 0 ≤ x + w) : Tri n (wayTab t a b w) := by
  intro i m j x y hi hm hj _ e1 e2
  rcases way_dn hs hi hm e1 with e1 | ⟨x1, x2, p1, p2, rfl⟩ <;> rcases way_dn hs hm hj e2 with e2 | ⟨y1, y2, q1, q2, rfl⟩
  · obtain ⟨z, hz, hl⟩ := h i m j x y hi hm hj hm e1 e2
    obtain ⟨z', hz', hl'⟩ := way_up1 (a := a) (b := b) (w := w) hs hi hj hz
    exact ⟨z', hz', by omega⟩
  · obtain ⟨z, hz, hl⟩ := h i m a x y1 hi hm ha hm e1 q1
    obtain ⟨z', hz', hl'⟩ := way_up2 (w := w) hs hi hj hz q2
    exact ⟨z', hz', by omega⟩
  · obtain ⟨z, hz, hl⟩ := h b m j x2 y hb hm hj hm p2 e2
    obtain ⟨z', hz', hl'⟩ := way_up2 (w := w) hs hi hj p1 hz
    exact ⟨z', hz', by omega⟩
  · obtain ⟨z, hz, hl⟩ := h b m a x2 y1 hb hm ha hm p2 q1
    have := hw z hz
    obtain ⟨z', hz', hl'⟩ := way_up2 (w := w) hs hi hj p1 q2
    exact ⟨z', hz', by omega⟩
theorem Dg.way {n : Nat} {t : Sy35.Table} (d : Dg n t) (h : Tri n t) (hs : Sq n t) {a b : Nat} {w : Int} (ha : a < n) (hb : b < n) (hw : ∀ x, Sy35.entry t b a = some x → 0 ≤ x + w) : Dg n (wayTab t a b w) := fun i hi => by
  obtain ⟨z, e1, e2⟩ := way_up1 (a := a) (b := b) (w := w) hs hi hi (d i hi)
  rcases way_dn hs hi hi e1 with q | ⟨x, y, p1, p2, rfl⟩
  · rw [e1, ← q, d i hi]
  · obtain ⟨v, hv, hl⟩ := h b i a y x hb hi ha hi p2 p1
    have := hw v hv
    rw [e1]
    congr 1
    omega
theorem TriTo.close {n k : Nat} {t : Sy35.Table} (h : TriTo n k t) (hs : Sq n t) (hk : k < n) (hn : ∀ x, Sy35.entry t k k = some x → 0 ≤ x) : TriTo n (k + 1) (wayTab t k k 0) := by
  intro i m j x y hi hm hj hmk e1 e2
  by_cases c : m = k
  · subst c
    have f1 : ∃ x', Sy35.entry t i m = some x' ∧ x' ≤ x := by
      rcases way_dn hs hi hm e1 with e | ⟨x1, x2, p1, p2, rfl⟩
      · exact ⟨x, e, Int.le_refl _⟩
      · have := hn _ p2
        exact ⟨x1, p1, by omega⟩
    have f2 : ∃ y', Sy35.entry t m j = some y' ∧ y' ≤ y := by
      rcases way_dn hs hm hj e2 with e | ⟨y1, y2, q1, q2, rfl⟩
      · exact ⟨y, e, Int.le_refl _⟩
      · have := hn _ q1
        exact ⟨y2, q2, by omega⟩
    obtain ⟨x', p, hx⟩ := f1
    obtain ⟨y', q, hy⟩ := f2
    obtain ⟨z, hz, hl⟩ := way_up2 (w := 0) hs hi hj p q
    exact ⟨z, hz, by omega⟩
  · have hmk : m < k := by omega
    rcases way_dn hs hi hm e1 with e1 | ⟨x1, x2, p1, p2, rfl⟩ <;> rcases way_dn hs hm hj e2 with e2 | ⟨y1, y2, q1, q2, rfl⟩
    · obtain ⟨z, hz, hl⟩ := h i m j x y hi hm hj hmk e1 e2
      obtain ⟨z', hz', hl'⟩ := way_up1 (a := k) (b := k) (w := 0) hs hi hj hz
      exact ⟨z', hz', by omega⟩
    · obtain ⟨z, hz, hl⟩ := h i m k x y1 hi hm hk hmk e1 q1
      obtain ⟨z', hz', hl'⟩ := way_up2 (w := 0) hs hi hj hz q2
      exact ⟨z', hz', by omega⟩
    · obtain ⟨z, hz, hl⟩ := h k m j x2 y hk hm hj hmk p2 e2
      obtain ⟨z', hz', hl'⟩ := way_up2 (w := 0) hs hi hj p1 hz
      exact ⟨z', hz', by omega⟩
    · obtain ⟨z, hz, hl⟩ := h k m k x2 y1 hk hm hk hmk p2 q1
      have := hn z hz
      obtain ⟨z', hz', hl'⟩ := way_up2 (w := 0) hs hi hj p1 q2
      exact ⟨z', hz', by omega⟩
def closeTo (t : Sy35.Table) (k : Nat) : Sy35.Table := (List.range k).foldl (fun t k => wayTab t k k 0) t
theorem closeTo_succ (t : Sy35.Table) (k : Nat) : closeTo t (k + 1) = wayTab (closeTo t k) k k 0 := by
  unfold closeTo
  rw [List.range_succ, List.foldl_append]
  rfl
theorem closeTo_sq {n : Nat} {t : Sy35.Table} (h : Sq n t) (k : Nat) : Sq n (closeTo t k) := foldSq _ h
theorem closeTo_nn {n : Nat} {t : Sy35.Table} (hs : Sq n t) : ∀ {k m : Nat}, m ≤ k → Nn n (closeTo t k) → Nn n (closeTo t m)
  | 0, m, h, q => by
    have : m = 0 := by omega
    subst this
    exact q
  | k + 1, m, h, q => by
    by_cases c : m = k + 1
    · subst c; exact q
    · refine closeTo_nn hs (k := k) (by omega) ?_
      rw [closeTo_succ] at q
      exact q.unway (closeTo_sq hs k)
theorem closeTo_tri {n : Nat} {t : Sy35.Table} (hs : Sq n t) (hn : Nn n (closeTo t n)) : ∀ k, k ≤ n → TriTo n k (closeTo t k)
  | 0, _ => fun i m j x y _ _ _ h => absurd h (Nat.not_lt_zero m)
  | k + 1, hk => by
    rw [closeTo_succ]
    exact (closeTo_tri hs hn k (by omega)).close (closeTo_sq hs k) (by omega) fun x e => closeTo_nn hs (k := n) (m := k) (by omega) hn k x (by omega) e
theorem closeTo_sat {n : Nat} {T : Nat → Int} {t : Sy35.Table} (hs : Sq n t) (h : Sat n T t) : ∀ k, k ≤ n → Sat n T (closeTo t k)
  | 0, _ => h
  | k + 1, hk => by
    rw [closeTo_succ]
    exact (closeTo_sat hs h k (by omega)).way (closeTo_sq hs k) (by omega) (by omega) (by omega)
theorem closeTo_unsat {n : Nat} {T : Nat → Int} {t : Sy35.Table} (hs : Sq n t) : ∀ k, Sat n T (closeTo t k) → Sat n T t
  | 0, h => h
  | k + 1, h => by
    rw [closeTo_succ] at h
    exact closeTo_unsat hs k (h.unway (closeTo_sq hs k))
theorem closeTo_diag {n : Nat} {t : Sy35.Table} (hs : Sq n t) (hd : ∀ i, i < n → ∃ x, Sy35.entry t i i = some x ∧ x ≤ 0) : ∀ k i, i < n → ∃ x, Sy35.entry (closeTo t k) i i = some x ∧ x ≤ 0
  | 0, i, hi => hd i hi
  | k + 1, i, hi => by
    obtain ⟨x, e, h⟩ := closeTo_diag hs hd k i hi
    obtain ⟨z, e', h'⟩ := way_up1 (a := k) (b := k) (w := 0) (closeTo_sq hs k) hi hi e
    rw [closeTo_succ]
    exact ⟨z, e', by omega⟩
def leastOf : List (Option Int) → Int
  | [] => 0
  | none :: l => leastOf l
  | some x :: l => min x (leastOf l)
theorem leastOf_le : ∀ {l : List (Option Int)} {x : Int}, some x ∈ l → leastOf l ≤ x
  | o :: l, x, h => by
    rcases List.mem_cons.mp h with h | h
    · subst h
      show min x (leastOf l) ≤ x
      omega
    · have := leastOf_le h
      cases o with
      | none => exact this
      | some y =>
        show min y (leastOf l) ≤ x
        omega
theorem leastOf_is : ∀ (l : List (Option Int)), leastOf l = 0 ∨ some (leastOf l) ∈ l
  | [] => .inl rfl
  | none :: l => by
    rcases leastOf_is l with h | h
    · exact .inl h
    · exact .inr (List.mem_cons_of_mem _ h)
  | some x :: l => by
    have hd : leastOf (some x :: l) = min x (leastOf l) := rfl
    by_cases c : x ≤ leastOf l
    · have e : leastOf (some x :: l) = x := by rw [hd]; omega
      rw [e]
      exact .inr (List.mem_cons_self ..)
    · have e : leastOf (some x :: l) = leastOf l := by rw [hd]; omega
      rw [e]
      rcases leastOf_is l with h | h
      · exact .inl h
      · exact .inr (List.mem_cons_of_mem _ h)
theorem times {n : Nat} {t : Sy35.Table} (h : Tri n t) (d : Dg n t) : ∃ T, Sat n T t := by
  refine ⟨fun j => leastOf ((List.range n).map fun i => Sy35.entry t i j), fun j k x hj hk e => ?_⟩
  have hm : ∀ i, i < n → ∀ k, Sy35.entry t i k ∈ (List.range n).map fun i => Sy35.entry t i k := fun i hi k => List.mem_map.mpr ⟨i, List.mem_range.mpr hi, rfl⟩
  show leastOf ((List.range n).map fun i => Sy35.entry t i k) - leastOf ((List.range n).map fun i => Sy35.entry t i j) ≤ x
  rcases leastOf_is ((List.range n).map fun i => Sy35.entry t i j) with q | q
  · rw [q]
    have := leastOf_le (x := x) (l := (List.range n).map fun i => Sy35.entry t i k) (by rw [← e]; exact hm j hj k)
    omega
  · obtain ⟨i, hi, ei⟩ := List.mem_map.mp q
    have hi := List.mem_range.mp hi
    obtain ⟨z, hz, hl⟩ := h i j k _ x hi hj hk hj ei e
    have := leastOf_le (x := z) (l := (List.range n).map fun i => Sy35.entry t i k) (by rw [← hz]; exact hm i hi k)
    omega
end Ck
namespace Ck
theorem entry_T0 {rates : List Nat} {evs : List Ev} {i j : Nat} {e f : Ev} (he : evs[i]? = some e) (hf : evs[j]? = some f) : Sy35.entry (clockT0 rates evs) i j = clockB rates e f := by
  have q : (clockT0 rates evs)[i]? = some (evs.map (clockB rates e)) := by
    unfold clockT0
    rw [List.getElem?_map, he]
    rfl
  rw [sq_entry (clockT0_sq rates evs) q, List.getD_eq_getElem?_getD, List.getElem?_map, hf]
  rfl
theorem clockB_self (rates : List Nat) (e : Ev) : clockB rates e e = some 0 := by
  unfold clockB
  rw [if_neg (by simp), if_pos rfl]
  have z : (e.1.reading : Int) - (e.1.reading : Int) = 0 := by omega
  rw [z]
  simp
theorem sat_T0 {s : RmS} (h : Clk s) : ∃ T, Sat s.evs.length T (clockT0 s.rates s.evs) := by
  obtain ⟨T, off, h⟩ := h
  refine ⟨T, fun i j x hi hj e => ?_⟩
  have e1 := List.getElem?_eq_getElem hi
  have e2 := List.getElem?_eq_getElem hj
  rw [entry_T0 e1 e2] at e
  exact h.all i j _ _ e1 e2 x e
theorem clockT_close (rates : List Nat) (evs : List Ev) : clockT rates evs = closeTo (clockT0 rates evs) evs.length := rfl
theorem diag_T0 {rates : List Nat} {evs : List Ev} : ∀ i, i < evs.length → ∃ x, Sy35.entry (clockT0 rates evs) i i = some x ∧ x ≤ 0 := fun i hi => by
  have e1 := List.getElem?_eq_getElem hi
  rw [entry_T0 e1 e1, clockB_self]
  exact ⟨0, rfl, Int.le_refl _⟩
theorem dg_of {n : Nat} {t : Sy35.Table} (h1 : ∀ i, i < n → ∃ x, Sy35.entry t i i = some x ∧ x ≤ 0) (h2 : Nn n t) : Dg n t := fun i hi => by
  obtain ⟨x, e, h⟩ := h1 i hi
  have := h2 i x hi e
  rw [e]
  congr 1
  omega
theorem base_ok {s : RmS} (h : Clk s) : Tri s.evs.length (clockT s.rates s.evs) ∧ Dg s.evs.length (clockT s.rates s.evs) := by
  obtain ⟨T, hT⟩ := sat_T0 h
  rw [clockT_close]
  have hs := clockT0_sq s.rates s.evs
  have hn := (closeTo_sat hs hT _ (Nat.le_refl _)).nn
  exact ⟨closeTo_tri hs hn _ (Nat.le_refl _), dg_of (closeTo_diag hs diag_T0 _) hn⟩
theorem sig_ok {n : Nat} {t : Sy35.Table} {x : Sy35.Signal} (hs : Sq n t) (h : Tri n t) (d : Dg n t) (h1 : x.from_ < n) (h2 : x.to_ < n) (hl : x.least ≤ x.most) (c1 : Sy35.tooSoon t x = false) (c2 : Sy35.tooLate t x = false) :
    Tri n (waySig t x) ∧ Dg n (waySig t x) := by
  have w1 : ∀ z, Sy35.entry t x.to_ x.from_ = some z → 0 ≤ z + (x.most : Int) := fun z e => by
    unfold Sy35.tooLate at c2
    rw [e] at c2
    have : ¬ z + (x.most : Int) < 0 := of_decide_eq_false c2
    omega
  have s1 := wayTab_sq hs x.from_ x.to_ (x.most : Int)
  have t1 := h.way hs h1 h2 w1
  have d1 := d.way h hs h1 h2 w1
  have w2 : ∀ z, Sy35.entry (wayTab t x.from_ x.to_ (x.most : Int)) x.from_ x.to_ = some z → 0 ≤ z + -(x.least : Int) := fun z e => by
    rcases way_dn hs h1 h2 e with e | ⟨a, b, e1, e2, rfl⟩
    · unfold Sy35.tooSoon at c1
      rw [e] at c1
      have : ¬ z < (x.least : Int) := of_decide_eq_false c1
      omega
    · rw [d _ h1] at e1
      rw [d _ h2] at e2
      cases e1
      cases e2
      omega
  exact ⟨t1.way s1 h2 h1 w2, d1.way t1 s1 h2 h1 w2⟩
theorem bel_ok {s : RmS} (h : Clk s) (ok : RmOk s) : ∀ k, Tri s.evs.length (belUp s.sigs (clockT s.rates s.evs) k).2 ∧ Dg s.evs.length (belUp s.sigs (clockT s.rates s.evs) k).2
  | 0 => base_ok h
  | k + 1 => by
    have ih := bel_ok h ok k
    cases e : s.sigs[k]? with
    | none =>
      have q : belUp s.sigs (clockT s.rates s.evs) (k + 1) = belUp s.sigs (clockT s.rates s.evs) k := by
        unfold belUp
        rw [List.range_succ, List.foldl_append]
        simp [e]
      rw [q]
      exact ih
    | some x =>
      rw [belUp_succ e]
      unfold belStep
      have hx := List.mem_of_getElem? e
      split
      · exact ih
      · rename_i c
        rw [not_or, not_or] at c
        exact sig_ok (belUp_sq (clockT_sq _ _) k).1 ih.1 ih.2 (ok.sgn x hx).1 (ok.sgn x hx).2 (ok.sgl x hx) (by simpa using c.2.1) (by simpa using c.2.2)
theorem upTo_ok {s : RmS} {u : Sy35.St} (g : Gd s u) (k : Nat) : Tri s.evs.length (Sy35.upTo u k).2 ∧ Dg s.evs.length (Sy35.upTo u k).2 := by
  rw [← bel_upTo g]
  exact bel_ok g.clk g.ok k
def SatS (T : Nat → Int) (x : Sy35.Signal) : Prop := T x.to_ - T x.from_ ≤ (x.most : Int) ∧ (x.least : Int) ≤ T x.to_ - T x.from_
theorem sat_sig {n : Nat} {T : Nat → Int} {t : Sy35.Table} {x : Sy35.Signal} (hs : Sq n t) (h1 : x.from_ < n) (h2 : x.to_ < n) (h : Sat n T t) (hx : SatS T x) : Sat n T (waySig t x) :=
  (h.way hs h1 h2 hx.1).way (wayTab_sq hs _ _ _) h2 h1 (by have := hx.2; omega)
theorem sat_sigs {n : Nat} {T : Nat → Int} : ∀ (L : List Sy35.Signal) {t : Sy35.Table}, Sq n t → (∀ x ∈ L, x.from_ < n ∧ x.to_ < n) → Sat n T t → (∀ x ∈ L, SatS T x) → Sat n T (L.foldl waySig t)
  | [], t, _, _, h, _ => h
  | x :: L, t, hs, hl, h, hx => sat_sigs L (wayTab_sq (wayTab_sq hs _ _ _) _ _ _) (fun y hy => hl y (List.mem_cons_of_mem _ hy)) (sat_sig hs (hl x (List.mem_cons_self ..)).1 (hl x (List.mem_cons_self ..)).2 h (hx x (List.mem_cons_self ..))) fun y hy => hx y (List.mem_cons_of_mem _ hy)
theorem nn_sigs {n : Nat} : ∀ (L : List Sy35.Signal) {t : Sy35.Table}, Sq n t → Nn n (L.foldl waySig t) → Nn n t
  | [], t, _, h => h
  | x :: L, t, hs, h => ((nn_sigs L (wayTab_sq (wayTab_sq hs _ _ _) _ _ _) h).unway (wayTab_sq hs _ _ _)).unway hs
theorem sig_nn {n : Nat} {t : Sy35.Table} {x : Sy35.Signal} (hs : Sq n t) (h : Tri n t) (d : Dg n t) (h1 : x.from_ < n) (h2 : x.to_ < n) (hn : Nn n (waySig t x)) : Tri n (waySig t x) ∧ Dg n (waySig t x) := by
  have s1 := wayTab_sq hs x.from_ x.to_ (x.most : Int)
  have n1 : Nn n (wayTab t x.from_ x.to_ (x.most : Int)) := hn.unway s1
  have w1 : ∀ z, Sy35.entry t x.to_ x.from_ = some z → 0 ≤ z + (x.most : Int) := fun z e => by
    obtain ⟨v, hv, hl⟩ := way_up2 (w := (x.most : Int)) hs h2 h2 e (d _ h2)
    have := n1 _ v h2 hv
    omega
  have t1 := h.way hs h1 h2 w1
  have d1 := d.way h hs h1 h2 w1
  have w2 : ∀ z, Sy35.entry (wayTab t x.from_ x.to_ (x.most : Int)) x.from_ x.to_ = some z → 0 ≤ z + -(x.least : Int) := fun z e => by
    obtain ⟨v, hv, hl⟩ := way_up2 (w := -(x.least : Int)) s1 h1 h1 e (d1 _ h1)
    have := hn _ v h1 hv
    omega
  exact ⟨t1.way s1 h2 h1 w2, d1.way t1 s1 h2 h1 w2⟩
theorem sigs_nn {n : Nat} : ∀ (L : List Sy35.Signal) {t : Sy35.Table}, Sq n t → (∀ x ∈ L, x.from_ < n ∧ x.to_ < n) → Tri n t → Dg n t → Nn n (L.foldl waySig t) → Tri n (L.foldl waySig t) ∧ Dg n (L.foldl waySig t)
  | [], t, _, _, h, d, _ => ⟨h, d⟩
  | x :: L, t, hs, hl, h, d, hn => by
    have s1 := wayTab_sq (wayTab_sq hs x.from_ x.to_ (x.most : Int)) x.to_ x.from_ (-(x.least : Int))
    obtain ⟨t1, d1⟩ := sig_nn hs h d (hl x (List.mem_cons_self ..)).1 (hl x (List.mem_cons_self ..)).2 (nn_sigs L s1 hn)
    exact sigs_nn L s1 (fun y hy => hl y (List.mem_cons_of_mem _ hy)) t1 d1 hn
theorem unsat_sigs {n : Nat} {T : Nat → Int} : ∀ (L : List Sy35.Signal) {t : Sy35.Table}, Sq n t → (∀ x ∈ L, x.from_ < n ∧ x.to_ < n) → (∀ i, i < n → ∃ x, Sy35.entry t i i = some x ∧ x ≤ 0) → Sat n T (L.foldl waySig t) → Sat n T t ∧ ∀ x ∈ L, SatS T x
  | [], t, _, _, _, h => ⟨h, fun x hx => nomatch hx⟩
  | x :: L, t, hs, hl, hd, h => by
    have s0 := wayTab_sq hs x.from_ x.to_ (x.most : Int)
    have s1 := wayTab_sq s0 x.to_ x.from_ (-(x.least : Int))
    have up : ∀ {t : Sy35.Table} (a b : Nat) (w : Int), Sq n t → (∀ i, i < n → ∃ x, Sy35.entry t i i = some x ∧ x ≤ 0) → ∀ i, i < n → ∃ x, Sy35.entry (wayTab t a b w) i i = some x ∧ x ≤ 0 := fun a b w hs hd i hi => by
      obtain ⟨x, e, hx⟩ := hd i hi
      obtain ⟨z, e', hz⟩ := way_up1 (a := a) (b := b) (w := w) hs hi hi e
      exact ⟨z, e', by omega⟩
    have hd0 := up x.from_ x.to_ (x.most : Int) hs hd
    have hd1 := up x.to_ x.from_ (-(x.least : Int)) s0 hd0
    obtain ⟨q1, q2⟩ := unsat_sigs L s1 (fun y hy => hl y (List.mem_cons_of_mem _ hy)) hd1 h
    have hx := hl x (List.mem_cons_self ..)
    have q3 := q1.unway s0
    obtain ⟨a1, p1, r1⟩ := hd _ hx.1
    obtain ⟨a2, p2, r2⟩ := hd _ hx.2
    obtain ⟨b1, o1, v1⟩ := hd0 _ hx.1
    obtain ⟨b2, o2, v2⟩ := hd0 _ hx.2
    have e1 := q3.edge hs hx.1 hx.2 p1 r1 p2 r2
    have e2 := q1.edge s0 hx.2 hx.1 o2 v2 o1 v1
    refine ⟨q3.unway hs, fun y hy => ?_⟩
    rcases List.mem_cons.mp hy with rfl | hy
    · exact ⟨e1, by omega⟩
    · exact q2 y hy
theorem feasible {n : Nat} {t : Sy35.Table} {L : List Sy35.Signal} (hs : Sq n t) (hd : ∀ i, i < n → ∃ x, Sy35.entry t i i = some x ∧ x ≤ 0) (hl : ∀ x ∈ L, x.from_ < n ∧ x.to_ < n) :
    Nn n (L.foldl waySig (closeTo t n)) ↔ ∃ T, Sat n T t ∧ ∀ x ∈ L, SatS T x := by
  have s1 := closeTo_sq hs n
  constructor
  · intro h
    have n1 := nn_sigs L s1 h
    have t1 := closeTo_tri hs n1 n (Nat.le_refl _)
    have d1 := dg_of (closeTo_diag hs hd n) n1
    obtain ⟨t2, d2⟩ := sigs_nn L s1 hl t1 d1 h
    obtain ⟨T, hT⟩ := times t2 d2
    obtain ⟨q1, q2⟩ := unsat_sigs L s1 hl (closeTo_diag hs hd n) hT
    exact ⟨T, closeTo_unsat hs n q1, q2⟩
  · rintro ⟨T, h1, h2⟩
    exact (sat_sigs L s1 hl (closeTo_sat hs h1 n (Nat.le_refl _)) h2).nn
end Ck
namespace Ck
def clkB (rates : List Nat) (e f : Sy35.Event) : Sy35.Bound :=
  if e.clock ≠ f.clock then none
  else if e.era = f.era then
    some (if 0 ≤ (f.reading : Int) - (e.reading : Int) then ((f.reading : Int) - (e.reading : Int)) * (Sy35.UNIT + ((rates.getD e.clock 0 : Nat) : Int)) else ((f.reading : Int) - (e.reading : Int)) * (Sy35.UNIT - ((rates.getD e.clock 0 : Nat) : Int)))
  else if f.era < e.era then some 0 else none
theorem byClock_clkB {u : Sy35.St} {a b : Nat} : Sy35.byClock u a b = clkB u.rates (Sy35.eventAt u a) (Sy35.eventAt u b) := rfl
theorem clkB_self (rates : List Nat) (e : Sy35.Event) : clkB rates e e = some 0 := by
  unfold clkB
  rw [if_neg (by simp), if_pos rfl]
  have z : (e.reading : Int) - (e.reading : Int) = 0 := by omega
  rw [z]
  simp
def belS (s : RmS) (k : Nat) : List Sy35.Signal := (belUp s.sigs (clockT s.rates s.evs) k).1.filterMap fun k => s.sigs[k]?
theorem bel_fold (s : RmS) : ∀ k, (belUp s.sigs (clockT s.rates s.evs) k).2 = (belS s k).foldl waySig (clockT s.rates s.evs)
  | 0 => rfl
  | k + 1 => by
    have ih := bel_fold s k
    unfold belS at ih ⊢
    cases e : s.sigs[k]? with
    | none =>
      have q : belUp s.sigs (clockT s.rates s.evs) (k + 1) = belUp s.sigs (clockT s.rates s.evs) k := by
        unfold belUp
        rw [List.range_succ, List.foldl_append]
        simp [e]
      rw [q]
      exact ih
    | some x =>
      rw [belUp_succ e]
      unfold belStep
      split
      · exact ih
      · show waySig _ x = _
        rw [List.filterMap_append, List.foldl_append, ← ih, List.filterMap_cons, e]
        rfl
theorem belS_in {s : RmS} (ok : RmOk s) (k : Nat) : ∀ x ∈ belS s k, x ∈ s.sigs := fun x hx => by
  obtain ⟨i, _, e⟩ := List.mem_filterMap.mp hx
  exact List.mem_of_getElem? e
theorem belS_spec {s : RmS} {u : Sy35.St} (g : Gd s u) : belS s s.sigs.length = Sy35.signalsOf u (Sy35.believed u) := by
  unfold belS Sy35.signalsOf Sy35.believed
  have : belUp s.sigs (clockT s.rates s.evs) s.sigs.length = Sy35.all u := bel_all g
  rw [this, g.sigs]
theorem sat_all {s : RmS} {u : Sy35.St} (g : Gd s u) (T : Nat → Int) : Sat s.evs.length T (Sy35.all u).2 ↔ Sat s.evs.length T (clockT0 s.rates s.evs) ∧ ∀ x ∈ belS s s.sigs.length, SatS T x := by
  have hs := clockT0_sq s.rates s.evs
  have hc := clockT_sq s.rates s.evs
  have hl : ∀ x ∈ belS s s.sigs.length, x.from_ < s.evs.length ∧ x.to_ < s.evs.length := fun x hx => g.ok.sgn x (belS_in g.ok _ x hx)
  have e : (Sy35.all u).2 = (belS s s.sigs.length).foldl waySig (clockT s.rates s.evs) := by
    rw [← bel_all g]
    exact bel_fold s s.sigs.length
  rw [e]
  constructor
  · intro h
    obtain ⟨q1, q2⟩ := unsat_sigs _ hc hl (closeTo_diag hs diag_T0 _) h
    exact ⟨closeTo_unsat hs _ q1, q2⟩
  · rintro ⟨h1, h2⟩
    exact sat_sigs _ hc hl (closeTo_sat hs h1 _ (Nat.le_refl _)) h2
def moreU (u : Sy35.St) (i : Nat) (x : Sy35.Event) : Sy35.St := { u with events := u.events ++ [x], sets := u.sets ++ [(i, u.events.length)] }
def moreT (u : Sy35.St) (i : Nat) (x : Sy35.Event) : Sy35.Table := Sy35.tableOf (u.events.length + 1) fun a b => Sy35.lesser (Sy35.byClock (moreU u i x) a b) (Sy35.bySets (moreU u i x) a b)
theorem tableOf_sq (n : Nat) (f : Nat → Nat → Sy35.Bound) : Sq n (Sy35.tableOf n f) := by
  refine ⟨by simp [Sy35.tableOf], fun r hr => ?_⟩
  obtain ⟨i, _, rfl⟩ := List.mem_map.mp hr
  simp
theorem entry_tableOf {n : Nat} {f : Nat → Nat → Sy35.Bound} {i j : Nat} (hi : i < n) (hj : j < n) : Sy35.entry (Sy35.tableOf n f) i j = f i j := by
  have e : (Sy35.tableOf n f)[i]? = some ((List.range n).map fun j => f i j) := by
    unfold Sy35.tableOf
    rw [List.getElem?_map, List.getElem?_range hi]
    rfl
  rw [sq_entry (tableOf_sq n f) e, List.getD_eq_getElem?_getD, List.getElem?_map, List.getElem?_range hj]
  rfl
theorem sigs_with {n : Nat} : ∀ (L : List Sy35.Signal) {t : Sy35.Table}, Sq n t → L.foldl (fun t x => Sy35.withSignal n t x) t = L.foldl waySig t
  | [], _, _ => rfl
  | x :: L, t, h => by
    rw [List.foldl_cons, List.foldl_cons, ← way_sig h]
    exact sigs_with L (wayTab_sq (wayTab_sq h _ _ _) _ _ _)
theorem closed_close {n : Nat} {t : Sy35.Table} (h : Sq n t) : Sy35.closed n t = closeTo t n := (closed_fold _ h).symm
theorem lesser_le1 {x y : Sy35.Bound} {T : Int} : (∀ b, Sy35.lesser x y = some b → T ≤ b) ↔ (∀ b, x = some b → T ≤ b) ∧ (∀ b, y = some b → T ≤ b) := by
  cases x with
  | none =>
    constructor
    · intro h
      exact ⟨fun b e => (by cases e), fun b e => h b (by rw [e]; rfl)⟩
    · rintro ⟨_, h⟩ b e
      exact h b e
  | some p =>
    cases y with
    | none =>
      constructor
      · intro h
        exact ⟨fun b e => h b e, fun b e => (by cases e)⟩
      · rintro ⟨h, _⟩ b e
        exact h b e
    | some q =>
      constructor
      · intro h
        have := h (min p q) rfl
        exact ⟨fun b e => (by cases e; omega), fun b e => (by cases e; omega)⟩
      · rintro ⟨h1, h2⟩ b e
        have e : min p q = b := Option.some.inj e
        have := h1 p rfl
        have := h2 q rfl
        omega
theorem could_iff {s : RmS} {u : Sy35.St} (g : Gd s u) {i c gr r : Nat} (hi : i < s.evs.length) :
    Sy35.could u i c gr r = true ↔ ∃ T, Sat s.evs.length T (Sy35.all u).2 ∧ ∀ a e, s.evs[a]? = some e → (∀ b, clkB s.rates e.1 ⟨c, gr, r⟩ = some b → T i - T a ≤ b) ∧ (∀ b, clkB s.rates ⟨c, gr, r⟩ e.1 = some b → T a - T i ≤ b) := by
  have hul : u.events.length = s.evs.length := by rw [← g.evs, List.length_map]
  have hN : Sy35.size (moreU u i ⟨c, gr, r⟩) = s.evs.length + 1 := by
    show (u.events ++ _).length = _
    rw [List.length_append, hul]
    rfl
  have hm := tableOf_sq (u.events.length + 1) fun a b => Sy35.lesser (Sy35.byClock (moreU u i ⟨c, gr, r⟩) a b) (Sy35.bySets (moreU u i ⟨c, gr, r⟩) a b)
  have hm : Sq (s.evs.length + 1) (moreT u i ⟨c, gr, r⟩) := by rw [← hul]; exact hm
  have hb : ∀ x ∈ belS s s.sigs.length, x.from_ < s.evs.length ∧ x.to_ < s.evs.length := fun x hx => g.ok.sgn x (belS_in g.ok _ x hx)
  have hb1 : ∀ x ∈ belS s s.sigs.length, x.from_ < s.evs.length + 1 ∧ x.to_ < s.evs.length + 1 := fun x hx => by have := hb x hx; omega
  have at1 : ∀ a e, s.evs[a]? = some e → Sy35.eventAt (moreU u i ⟨c, gr, r⟩) a = e.1 := fun a e he => by
    have hl := (List.getElem?_eq_some_iff.mp he).1
    have q : Sy35.eventAt (moreU u i ⟨c, gr, r⟩) a = Sy35.eventAt u a := by
      unfold Sy35.eventAt
      rw [List.getD_eq_getElem?_getD, List.getD_eq_getElem?_getD]
      show ((u.events ++ _)[a]?).getD _ = _
      rw [List.getElem?_append_left (by omega)]
    rw [q, g.at_ he]
  have at2 : Sy35.eventAt (moreU u i ⟨c, gr, r⟩) s.evs.length = ⟨c, gr, r⟩ := by
    unfold Sy35.eventAt
    rw [List.getD_eq_getElem?_getD]
    show ((u.events ++ [_])[s.evs.length]?).getD _ = _
    rw [← hul, List.getElem?_append_right (Nat.le_refl _)]
    simp
  have sets2 : ∀ a b, a < s.evs.length → b < s.evs.length → Sy35.bySets (moreU u i ⟨c, gr, r⟩) a b = Sy35.bySets u a b := fun a b ha hb => by
    unfold Sy35.bySets
    have q : ∀ x y, x < s.evs.length → y < s.evs.length → (moreU u i ⟨c, gr, r⟩).sets.contains (x, y) = u.sets.contains (x, y) := fun x y hx hy => by
      show (u.sets ++ [(i, u.events.length)]).contains (x, y) = _
      rw [Bool.eq_iff_iff, List.contains_iff_mem, List.contains_iff_mem, List.mem_append]
      constructor
      · rintro (h | h)
        · exact h
        · have := List.mem_singleton.mp h
          injection this with _ h2
          omega
      · exact .inl
    rw [q a b ha hb, q b a hb ha]
  have setsN : ∀ a, a < s.evs.length → (Sy35.bySets (moreU u i ⟨c, gr, r⟩) a s.evs.length = if a = i then some 0 else none) ∧ (Sy35.bySets (moreU u i ⟨c, gr, r⟩) s.evs.length a = if a = i then some 0 else none) := fun a ha => by
    have no1 : (s.evs.length, a) ∉ u.sets ++ [(i, u.events.length)] := fun h => by
      rcases List.mem_append.mp h with h | h
      · have := g.setlt _ h; simp at this; omega
      · have := List.mem_singleton.mp h
        injection this with h1 h2
        omega
    have ino : (a, s.evs.length) ∈ u.sets ++ [(i, u.events.length)] ↔ a = i := by
      rw [List.mem_append]
      constructor
      · rintro (h | h)
        · have := g.setlt _ h; simp at this
        · have := List.mem_singleton.mp h
          injection this
      · intro h
        exact .inr (List.mem_singleton.mpr (by rw [h, hul]))
    constructor
    · unfold Sy35.bySets
      by_cases h : a = i
      · rw [if_pos h, if_pos (.inl (List.contains_iff_mem.mpr (ino.mpr h)))]
      · rw [if_neg h, if_neg]
        rintro (z | z | z)
        · exact h (ino.mp (List.contains_iff_mem.mp z))
        · exact no1 (List.contains_iff_mem.mp z)
        · omega
    · unfold Sy35.bySets
      by_cases h : a = i
      · rw [if_pos h, if_pos (.inr (.inl (List.contains_iff_mem.mpr (ino.mpr h))))]
      · rw [if_neg h, if_neg]
        rintro (z | z | z)
        · exact no1 (List.contains_iff_mem.mp z)
        · exact h (ino.mp (List.contains_iff_mem.mp z))
        · omega
  have ent : ∀ a b, a < s.evs.length + 1 → b < s.evs.length + 1 → Sy35.entry (moreT u i ⟨c, gr, r⟩) a b = Sy35.lesser (Sy35.byClock (moreU u i ⟨c, gr, r⟩) a b) (Sy35.bySets (moreU u i ⟨c, gr, r⟩) a b) := fun a b ha hb => by
    unfold moreT
    rw [entry_tableOf (by omega) (by omega)]
  have hdg : ∀ a, a < s.evs.length + 1 → ∃ x, Sy35.entry (moreT u i ⟨c, gr, r⟩) a a = some x ∧ x ≤ 0 := fun a ha => by
    rw [ent a a ha ha]
    have q : Sy35.bySets (moreU u i ⟨c, gr, r⟩) a a = some 0 := by
      unfold Sy35.bySets
      rw [if_pos (.inr (.inr rfl))]
    rw [q]
    cases Sy35.byClock (moreU u i ⟨c, gr, r⟩) a a with
    | none => exact ⟨0, rfl, Int.le_refl _⟩
    | some x => exact ⟨min x 0, rfl, by omega⟩
  have old : ∀ a b e f, s.evs[a]? = some e → s.evs[b]? = some f → Sy35.entry (moreT u i ⟨c, gr, r⟩) a b = clockB s.rates e f := fun a b e f he hf => by
    have ha := (List.getElem?_eq_some_iff.mp he).1
    have hb := (List.getElem?_eq_some_iff.mp hf).1
    rw [ent a b (by omega) (by omega), sets2 a b ha hb, byClock_clkB, at1 a e he, at1 b f hf, clock_direct g he hf]
    show Sy35.lesser (clkB u.rates e.1 f.1) _ = Sy35.lesser (Sy35.byClock u a b) (Sy35.bySets u a b)
    rw [byClock_clkB, g.at_ he, g.at_ hf]
  have satM : ∀ T, Sat (s.evs.length + 1) T (moreT u i ⟨c, gr, r⟩) ↔ Sat s.evs.length T (clockT0 s.rates s.evs) ∧ T s.evs.length = T i ∧ ∀ a e, s.evs[a]? = some e → (∀ b, clkB s.rates e.1 ⟨c, gr, r⟩ = some b → T s.evs.length - T a ≤ b) ∧ (∀ b, clkB s.rates ⟨c, gr, r⟩ e.1 = some b → T a - T s.evs.length ≤ b) := fun T => by
    constructor
    · intro h
      refine ⟨fun a b x ha hb e => ?_, ?_, fun a e he => ?_⟩
      · have e1 := List.getElem?_eq_getElem ha
        have e2 := List.getElem?_eq_getElem hb
        rw [entry_T0 e1 e2, ← old a b _ _ e1 e2] at e
        exact h a b x (by omega) (by omega) e
      · have q1 := ent i s.evs.length (by omega) (by omega)
        have q2 := ent s.evs.length i (by omega) (by omega)
        rw [(setsN i hi).1, if_pos rfl] at q1
        rw [(setsN i hi).2, if_pos rfl] at q2
        have z1 := (lesser_le1 (T := T s.evs.length - T i)).mp (fun b e => h i s.evs.length b (by omega) (by omega) (q1.trans e))
        have z2 := (lesser_le1 (T := T i - T s.evs.length)).mp (fun b e => h s.evs.length i b (by omega) (by omega) (q2.trans e))
        have := z1.2 0 rfl
        have := z2.2 0 rfl
        omega
      · have ha := (List.getElem?_eq_some_iff.mp he).1
        have q1 := ent a s.evs.length (by omega) (by omega)
        have q2 := ent s.evs.length a (by omega) (by omega)
        rw [byClock_clkB, at1 a e he, at2] at q1 q2
        have z1 := (lesser_le1 (T := T s.evs.length - T a)).mp (fun b e => h a s.evs.length b (by omega) (by omega) (q1.trans e))
        have z2 := (lesser_le1 (T := T a - T s.evs.length)).mp (fun b e => h s.evs.length a b (by omega) (by omega) (q2.trans e))
        rw [g.rates]
        exact ⟨z1.1, z2.1⟩
    · rintro ⟨h1, h2, h3⟩ a b x ha hb e
      by_cases ca : a < s.evs.length
      · have e1 := List.getElem?_eq_getElem ca
        by_cases cb : b < s.evs.length
        · have e2 := List.getElem?_eq_getElem cb
          rw [old a b _ _ e1 e2, ← entry_T0 e1 e2] at e
          exact h1 a b x ca cb e
        · have eb : b = s.evs.length := by omega
          subst eb
          rw [ent a s.evs.length ha hb, (setsN a ca).1, byClock_clkB, at1 a _ e1, at2] at e
          refine (lesser_le1 (T := T s.evs.length - T a)).mpr ⟨fun b q => (h3 a _ e1).1 b (by rw [g.rates]; exact q), fun b q => ?_⟩ x e
          by_cases z : a = i
          · rw [if_pos z] at q
            cases q
            rw [z]
            omega
          · rw [if_neg z] at q
            cases q
      · have ea : a = s.evs.length := by omega
        subst ea
        by_cases cb : b < s.evs.length
        · have e2 := List.getElem?_eq_getElem cb
          rw [ent s.evs.length b ha hb, (setsN b cb).2, byClock_clkB, at1 b _ e2, at2] at e
          refine (lesser_le1 (T := T b - T s.evs.length)).mpr ⟨fun b q => (h3 _ _ e2).2 b (by rw [g.rates]; exact q), fun d q => ?_⟩ x e
          by_cases z : b = i
          · rw [if_pos z] at q
            cases q
            rw [z]
            omega
          · rw [if_neg z] at q
            cases q
        · have eb : b = s.evs.length := by omega
          subst eb
          rw [ent s.evs.length s.evs.length ha hb, byClock_clkB, at2, clkB_self] at e
          refine (lesser_le1 (T := T s.evs.length - T s.evs.length)).mpr ⟨fun b q => (by cases q; omega), fun d q => ?_⟩ x e
          unfold Sy35.bySets at q
          split at q
          · cases q; omega
          · cases q
  have nn : Sy35.could u i c gr r = true ↔ Nn (s.evs.length + 1) ((belS s s.sigs.length).foldl waySig (closeTo (moreT u i ⟨c, gr, r⟩) (s.evs.length + 1))) := by
    unfold Sy35.could
    have e1 : Sy35.size { u with events := u.events ++ [(⟨c, gr, r⟩ : Sy35.Event)], sets := u.sets ++ [(i, u.events.length)] } = s.evs.length + 1 := hN
    simp only [e1]
    rw [← belS_spec g]
    have e2 : Sy35.tableOf (s.evs.length + 1) (fun a b => Sy35.lesser (Sy35.byClock { u with events := u.events ++ [(⟨c, gr, r⟩ : Sy35.Event)], sets := u.sets ++ [(i, u.events.length)] } a b) (Sy35.bySets { u with events := u.events ++ [(⟨c, gr, r⟩ : Sy35.Event)], sets := u.sets ++ [(i, u.events.length)] } a b)) = moreT u i ⟨c, gr, r⟩ := by
      rw [← hul]
      rfl
    rw [e2, closed_close hm, sigs_with _ (closeTo_sq hm _), List.all_eq_true]
    constructor
    · intro h a x ha e
      have := h a (List.mem_range.mpr ha)
      rw [e] at this
      exact of_decide_eq_true this
    · intro h a ha
      have ha := List.mem_range.mp ha
      cases e : Sy35.entry ((belS s s.sigs.length).foldl waySig (closeTo (moreT u i ⟨c, gr, r⟩) (s.evs.length + 1))) a a with
      | none => rfl
      | some x => exact decide_eq_true (h a x ha e)
  rw [nn, feasible hm hdg hb1]
  constructor
  · rintro ⟨T, h1, h2⟩
    obtain ⟨q1, q2, q3⟩ := (satM T).mp h1
    rw [q2] at q3
    exact ⟨T, (sat_all g T).mpr ⟨q1, h2⟩, q3⟩
  · rintro ⟨T, h1, h2⟩
    obtain ⟨q1, q2⟩ := (sat_all g T).mp h1
    obtain ⟨T', tn, ts⟩ : ∃ T' : Nat → Int, (∀ a, a < s.evs.length → T' a = T a) ∧ T' s.evs.length = T i :=
      ⟨fun a => if a = s.evs.length then T i else T a, fun a ha => if_neg (by omega), if_pos rfl⟩
    refine ⟨T', (satM T').mpr ⟨fun a b x ha hb e => ?_, ?_, fun a e he => ?_⟩, fun x hx => ?_⟩
    · rw [tn a ha, tn b hb]
      exact q1 a b x ha hb e
    · rw [ts, tn i hi]
    · have ha := (List.getElem?_eq_some_iff.mp he).1
      rw [ts, tn a ha]
      exact h2 a e he
    · obtain ⟨z1, z2⟩ := hb x hx
      have := q2 x hx
      unfold SatS at this ⊢
      rw [tn _ z1, tn _ z2]
      exact this
end Ck
namespace Ck
section
variable (E : Nat → Nat → Bool) (n f : Nat)
def reach_ : Nat → Nat → Prop
  | 0, i => i = f
  | k + 1, i => i < n ∧ ∃ j, E i j = true ∧ reach_ k j
def isD (k i : Nat) : Prop := reach_ E n f k i ∧ ∀ m, m < k → ¬ reach_ E n f m i
inductive RowD : Nat → Nat → List Nat → Prop
  | zero : RowD 0 f [f]
  | succ {k i j : Nat} {r : List Nat} (hi : isD E n f (k + 1) i) (e : E i j = true) (hj : isD E n f k j) (lt : ∀ j', j' < j → E i j' = true → ¬ isD E n f k j') (hr : RowD k j r) : RowD (k + 1) i (i :: r)
end
section
variable {E : Nat → Nat → Bool} {n f : Nat}
theorem RowD.uniq {k i : Nat} {r r' : List Nat} (h : RowD E n f k i r) : RowD E n f k i r' → r = r' := by
  intro h'
  induction h generalizing r' with
  | zero => cases h'; rfl
  | @succ k i j r hi e hj lt hr ih =>
    cases h' with
    | @succ _ _ j2 r2 hi2 e2 hj2 lt2 hr2 =>
      have q : j = j2 := by
        rcases Nat.lt_trichotomy j j2 with z | z | z
        · exact absurd hj (lt2 j z e)
        · exact z
        · exact absurd hj2 (lt j2 z e2)
      subst q
      rw [ih hr2]
theorem isD.uniq {k m i : Nat} (h : isD E n f k i) (h' : isD E n f m i) : k = m := by
  rcases Nat.lt_trichotomy k m with z | z | z
  · exact absurd h.1 (h'.2 k z)
  · exact z
  · exact absurd h'.1 (h.2 m z)
theorem isD_of_reach : ∀ {k i : Nat}, reach_ E n f k i → ∃ m, m ≤ k ∧ isD E n f m i := by
  intro k
  induction k using Nat.strongRecOn with
  | _ k ih =>
    intro i h
    by_cases c : ∃ m, m < k ∧ reach_ E n f m i
    · obtain ⟨m, hm, h'⟩ := c
      obtain ⟨m', hm', q⟩ := ih m hm h'
      exact ⟨m', by omega, q⟩
    · exact ⟨k, Nat.le_refl _, h, fun m hm q => c ⟨m, hm, q⟩⟩
theorem isD.zero (f : Nat) : isD E n f 0 f := ⟨rfl, fun m h => absurd h (Nat.not_lt_zero m)⟩
theorem isD.lt {k i : Nat} (hf : f < n) (h : isD E n f k i) : i < n := by
  cases k with
  | zero => rw [show i = f from h.1]; exact hf
  | succ k => exact h.1.1
theorem isD.step {k i : Nat} (h : isD E n f (k + 1) i) : ∃ j, E i j = true ∧ isD E n f k j := by
  obtain ⟨⟨hi, j, e, hj⟩, hn⟩ := h
  exact ⟨j, e, hj, fun m hm q => hn (m + 1) (by omega) ⟨hi, j, e, q⟩⟩
theorem isD_succ_iff {m x : Nat} : isD E n f (m + 1) x ↔ x < n ∧ (∀ m', m' ≤ m → ¬ isD E n f m' x) ∧ ∃ j, isD E n f m j ∧ E x j = true := by
  constructor
  · intro h
    obtain ⟨j, e, hj⟩ := h.step
    exact ⟨h.1.1, fun m' hm q => by have := q.uniq h; omega, j, hj, e⟩
  · rintro ⟨hx, hn, j, hj, e⟩
    refine ⟨⟨hx, j, e, hj.1⟩, fun m' hm q => ?_⟩
    obtain ⟨m'', h1, h2⟩ := isD_of_reach q
    exact hn m'' (by omega) h2
theorem isD.below {a : Nat} : ∀ {b x : Nat}, isD E n f (a + b) x → ∃ y, isD E n f a y
  | 0, x, h => ⟨x, h⟩
  | b + 1, x, h => let ⟨j, _, hj⟩ := isD.step (k := a + b) h; isD.below hj
def lv (E : Nat → Nat → Bool) (n : Nat) : Nat → List Nat → List Nat → List (List Nat)
  | 0, _, now => [now]
  | k + 1, had, now =>
    let next := (List.range n).filter fun i => !had.contains i && now.any fun j => E i j
    if next.isEmpty = true then [now] else now :: lv E n k (had ++ next) next
theorem levels_lv (s : Sy35.St) (l : List Nat) (t : Sy35.Table) (f : Nat) : ∀ (k : Nat) (had now : List Nat), Sy35.levels s l t f k had now = lv (fun i j => Sy35.tight s l t f i j) (Sy35.size s) k had now
  | 0, _, _ => rfl
  | k + 1, had, now => by
    unfold Sy35.levels lv
    simp only
    rw [levels_lv s l t f k]
structure Lev (E : Nat → Nat → Bool) (n f k : Nat) (L : List Nat) : Prop where
  mem : ∀ x, x ∈ L ↔ isD E n f k x
  srt : L.Pairwise (· < ·)
theorem lv_spec (hf : f < n) : ∀ (fuel m : Nat) (had now : List Nat), (∀ x, x ∈ had ↔ ∃ m', m' ≤ m ∧ isD E n f m' x) → Lev E n f m now → ∀ k, k ≤ fuel → (∃ x, isD E n f (m + k) x) → ∃ L, (lv E n fuel had now)[k]? = some L ∧ Lev E n f (m + k) L
  | 0, m, had, now, _, hw, k, hk, _ => by
    have : k = 0 := by omega
    subst this
    exact ⟨now, rfl, hw⟩
  | fuel + 1, m, had, now, hh, hw, k, hk, hx => by
    unfold lv
    simp only
    have hn : ∀ x, x ∈ (List.range n).filter (fun i => !had.contains i && now.any fun j => E i j) ↔ isD E n f (m + 1) x := fun x => by
      rw [List.mem_filter, isD_succ_iff, List.mem_range, Bool.and_eq_true, List.any_eq_true]
      constructor
      · rintro ⟨h1, h2, j, h3, h4⟩
        refine ⟨h1, fun m' hm q => ?_, j, (hw.mem j).mp h3, h4⟩
        have : x ∈ had := (hh x).mpr ⟨m', hm, q⟩
        rw [List.contains_iff_mem.mpr this] at h2
        cases h2
      · rintro ⟨h1, h2, j, h3, h4⟩
        refine ⟨h1, ?_, j, (hw.mem j).mpr h3, h4⟩
        rw [Bool.not_eq_true', Bool.eq_false_iff]
        intro z
        obtain ⟨m', hm, q⟩ := (hh x).mp (List.contains_iff_mem.mp z)
        exact h2 m' hm q
    cases k with
    | zero =>
      refine ⟨now, ?_, hw⟩
      split <;> rfl
    | succ k =>
      obtain ⟨x, hx⟩ := hx
      have hx : isD E n f ((m + 1) + k) x := by rw [show m + 1 + k = m + (k + 1) by omega]; exact hx
      obtain ⟨y, hy⟩ := hx.below
      have ym := (hn y).mpr hy
      rw [if_neg (by
        intro z
        rw [List.isEmpty_iff] at z
        rw [z] at ym
        cases ym)]
      rw [List.getElem?_cons_succ, show m + (k + 1) = (m + 1) + k by omega]
      refine lv_spec hf fuel (m + 1) _ _ (fun z => ?_) ⟨hn, ?_⟩ k (by omega) ⟨x, hx⟩
      · rw [List.mem_append, hh, hn]
        constructor
        · rintro (⟨m', h1, h2⟩ | h)
          · exact ⟨m', by omega, h2⟩
          · exact ⟨m + 1, Nat.le_refl _, h⟩
        · rintro ⟨m', h1, h2⟩
          by_cases c : m' ≤ m
          · exact .inl ⟨m', c, h2⟩
          · have : m' = m + 1 := by omega
            subst this
            exact .inr h2
      · exact List.Pairwise.filter _ List.pairwise_lt_range
theorem few_of_nodup : ∀ (n : Nat) (l : List Nat), l.Nodup → (∀ x ∈ l, x < n) → l.length ≤ n
  | 0, l, _, h => by
    cases l with
    | nil => exact Nat.le_refl _
    | cons a l => exact absurd (h a (List.mem_cons_self ..)) (Nat.not_lt_zero a)
  | n + 1, l, nd, h => by
    by_cases c : n ∈ l
    · have e := List.length_erase_of_mem c
      have q := few_of_nodup n (l.erase n) (nd.erase n) fun x hx => by
        have h1 := h x (List.mem_of_mem_erase hx)
        have h2 : x ≠ n := fun z => by
          rw [z] at hx
          exact (List.Nodup.mem_erase_iff nd).mp hx |>.1 rfl
        omega
      have := List.length_pos_of_mem c
      omega
    · have q := few_of_nodup n l nd fun x hx => by
        have h1 := h x hx
        have h2 : x ≠ n := fun z => c (by rw [← z]; exact hx)
        omega
      omega
theorem isD.chain (hf : f < n) : ∀ {k i : Nat}, isD E n f k i → ∃ l : List Nat, l.length = k + 1 ∧ l.Nodup ∧ (∀ x ∈ l, x < n) ∧ ∀ x ∈ l, ∃ m, m ≤ k ∧ isD E n f m x
  | 0, i, h => ⟨[i], rfl, by simp, fun x hx => by rw [List.mem_singleton.mp hx]; exact h.lt hf, fun x hx => ⟨0, Nat.le_refl _, by rw [List.mem_singleton.mp hx]; exact h⟩⟩
  | k + 1, i, h => by
    obtain ⟨j, _, hj⟩ := h.step
    obtain ⟨l, h1, h2, h3, h4⟩ := hj.chain hf
    refine ⟨i :: l, by rw [List.length_cons, h1], List.nodup_cons.mpr ⟨fun m => ?_, h2⟩, fun x hx => ?_, fun x hx => ?_⟩
    · obtain ⟨m', hm, q⟩ := h4 i m
      have := q.uniq h
      omega
    · rcases List.mem_cons.mp hx with rfl | hx
      · exact h.lt hf
      · exact h3 x hx
    · rcases List.mem_cons.mp hx with rfl | hx
      · exact ⟨k + 1, Nat.le_refl _, h⟩
      · obtain ⟨m, hm, q⟩ := h4 x hx
        exact ⟨m, by omega, q⟩
theorem isD.le (hf : f < n) {k i : Nat} (h : isD E n f k i) : k < n := by
  obtain ⟨l, h1, h2, h3, _⟩ := h.chain hf
  have := few_of_nodup n l h2 h3
  omega
def wk (E : Nat → Nat → Bool) : Nat → List (List Nat) → List Nat
  | i, [] => [i]
  | i, now :: r => match now.find? fun j => E i j with
    | some j => i :: wk E j r
    | none => [i]
theorem walk_wk (s : Sy35.St) (l : List Nat) (t : Sy35.Table) (f : Nat) : ∀ (r : List (List Nat)) (i : Nat), Sy35.walk s l t f i r = wk (fun i j => Sy35.tight s l t f i j) i r
  | [], _ => rfl
  | now :: r, i => by
    unfold Sy35.walk wk
    cases now.find? fun j => Sy35.tight s l t f i j with
    | none => rfl
    | some j =>
      simp only
      rw [walk_wk s l t f r j]
theorem wk_row : ∀ (d i : Nat) (Ls : List (List Nat)), Ls.length = d → (∀ k L, Ls[k]? = some L → Lev E n f k L) → isD E n f d i → RowD E n f d i (wk E i Ls.reverse)
  | 0, i, Ls, hl, _, h => by
    have : Ls = [] := List.length_eq_zero_iff.mp hl
    subst this
    have : i = f := h.1
    subst this
    exact .zero
  | d + 1, i, Ls, hl, hL, h => by
    have hne : Ls ≠ [] := fun z => by rw [z] at hl; cases hl
    have e0 : Ls = Ls.dropLast ++ [Ls.getLast hne] := (List.dropLast_concat_getLast hne).symm
    have hld : Ls.dropLast.length = d := by rw [List.length_dropLast, hl]; rfl
    have hlast : Ls[d]? = some (Ls.getLast hne) := by
      have q : Ls[d]? = (Ls.dropLast ++ [Ls.getLast hne])[d]? := congrArg (fun (l : List (List Nat)) => l[d]?) e0
      rw [q, List.getElem?_append_right (by omega), hld]
      simp
    have lev := hL d _ hlast
    have e1 : Ls.reverse = Ls.getLast hne :: Ls.dropLast.reverse := by
      have q := congrArg List.reverse e0
      rw [q, List.reverse_append]
      rfl
    rw [e1]
    obtain ⟨j0, ej0, hj0⟩ := h.step
    unfold wk
    cases q : (Ls.getLast hne).find? fun j => E i j with
    | none => exact absurd ej0 (List.find?_eq_none.mp q j0 ((lev.mem j0).mpr hj0))
    | some j =>
      obtain ⟨ej, as, bs, e2, has⟩ := List.find?_eq_some_iff_append.mp q
      have hj : isD E n f d j := (lev.mem j).mp (by rw [e2]; simp)
      refine .succ h ej hj (fun j' hlt e' hj' => ?_) (wk_row d j Ls.dropLast hld (fun k L hk => hL k L ?_) hj)
      · have m := (lev.mem j').mpr hj'
        have srt := lev.srt
        rw [e2] at m srt
        rcases List.mem_append.mp m with m | m
        · have := has j' m
          rw [e'] at this
          cases this
        · rcases List.mem_cons.mp m with rfl | m
          · omega
          · have := (List.pairwise_cons.mp (List.pairwise_append.mp srt).2.1).1 j' m
            omega
      · have hk' := (List.getElem?_eq_some_iff.mp hk).1
        rw [e0, List.getElem?_append_left hk']
        exact hk
theorem take_levels (hf : f < n) {d i : Nat} (h : isD E n f d i) : ∃ Ls : List (List Nat), (lv E n n [f] [f]).takeWhile (fun x => !x.contains i) = Ls ∧ Ls.length = d ∧ ∀ k L, Ls[k]? = some L → Lev E n f k L := by
  have l0 : Lev E n f 0 [f] := ⟨fun x => by
    rw [List.mem_singleton]
    constructor
    · intro e; subst e; exact isD.zero _
    · intro e; exact e.1, by simp⟩
  have spec := lv_spec hf n 0 [f] [f] (fun x => by
    rw [List.mem_singleton]
    constructor
    · intro e; subst e; exact ⟨0, Nat.le_refl _, isD.zero _⟩
    · rintro ⟨m, hm, q⟩
      have : m = 0 := by omega
      subst this
      exact q.1) l0
  have at_ : ∀ k, k ≤ d → ∃ L, (lv E n n [f] [f])[k]? = some L ∧ Lev E n f k L := fun k hk => by
    have hx : isD E n f (k + (d - k)) i := by rw [show k + (d - k) = d by omega]; exact h
    obtain ⟨y, hy⟩ := hx.below
    obtain ⟨L, e, q⟩ := spec k (by have := hy.le hf; omega) ⟨y, by rw [Nat.zero_add]; exact hy⟩
    rw [Nat.zero_add] at q
    exact ⟨L, e, q⟩
  generalize lv E n n [f] [f] = ls at at_
  have key : ∀ (m : Nat) (ls : List (List Nat)), m ≤ d → (∀ k, k + m ≤ d → ∃ L, ls[k]? = some L ∧ Lev E n f (k + m) L) → (ls.takeWhile fun x => !x.contains i).length = d - m ∧ ∀ k L, (ls.takeWhile fun x => !x.contains i)[k]? = some L → Lev E n f (k + m) L := by
    intro m
    induction hm : d - m generalizing m with
    | zero =>
      intro ls hle hat
      have : m = d := by omega
      subst this
      obtain ⟨L, e, q⟩ := hat 0 (by omega)
      cases ls with
      | nil => cases e
      | cons a ls =>
        have ea : a = L := Option.some.inj e
        subst ea
        rw [Nat.zero_add] at q
        have hc : a.contains i = true := List.contains_iff_mem.mpr ((q.mem i).mpr h)
        rw [List.takeWhile_cons, hc]
        exact ⟨rfl, fun k L hk => by cases hk⟩
    | succ p ih =>
      intro ls hle hat
      obtain ⟨L, e, q⟩ := hat 0 (by omega)
      cases ls with
      | nil => cases e
      | cons a ls =>
        have ea : a = L := Option.some.inj e
        subst ea
        rw [Nat.zero_add] at q
        have hc : a.contains i = false := by
          rw [Bool.eq_false_iff]
          intro z
          have := ((q.mem i).mp (List.contains_iff_mem.mp z)).uniq h
          omega
        rw [List.takeWhile_cons, hc]
        obtain ⟨h1, h2⟩ := ih (m + 1) (by omega) ls (by omega) fun k hk => by
          obtain ⟨L, e, q⟩ := hat (k + 1) (by omega)
          exact ⟨L, e, by rw [show k + (m + 1) = k + 1 + m by omega]; exact q⟩
        refine ⟨by show (_ :: _).length = _; rw [List.length_cons, h1], fun k L hk => ?_⟩
        cases k with
        | zero =>
          have : a = L := Option.some.inj hk
          subst this
          rw [Nat.zero_add]
          exact q
        | succ k =>
          rw [show k + 1 + m = k + (m + 1) by omega]
          exact h2 k L hk
  obtain ⟨h1, h2⟩ := key 0 ls (Nat.zero_le _) fun k hk => at_ k hk
  exact ⟨_, rfl, by rw [h1]; rfl, h2⟩
end
theorem rowBy_row {s : Sy35.St} {l : List Nat} {t : Sy35.Table} {i f d : Nat} (hf : f < Sy35.size s) (h : isD (fun i j => Sy35.tight s l t f i j) (Sy35.size s) f d i) : RowD (fun i j => Sy35.tight s l t f i j) (Sy35.size s) f d i (Sy35.rowBy s l t i f) := by
  unfold Sy35.rowBy
  simp only
  rw [walk_wk, levels_lv]
  obtain ⟨Ls, e, h1, h2⟩ := take_levels hf h
  rw [e]
  exact wk_row d i Ls h1 h2 h
end Ck
namespace Ck
inductive Wk (n : Nat) (own : Nat → Nat → Sy35.Bound) : Nat → Nat → Int → Prop
  | nil {i : Nat} (h : i < n) : Wk n own i i 0
  | cons {i j f : Nat} {x y : Int} (h : i < n) (e : own i j = some x) (r : Wk n own j f y) : Wk n own i f (x + y)
theorem Wk.app {n : Nat} {own : Nat → Nat → Sy35.Bound} {i j f : Nat} {x y : Int} (a : Wk n own i j x) : Wk n own j f y → Wk n own i f (x + y) := by
  intro b
  induction a with
  | nil h => rw [Int.zero_add]; exact b
  | cons h e r ih =>
    rw [Int.add_assoc]
    exact .cons h e (ih b)
def Real (n : Nat) (own : Nat → Nat → Sy35.Bound) (t : Sy35.Table) : Prop := ∀ i j z, i < n → j < n → Sy35.entry t i j = some z → ∃ y, Wk n own i j y ∧ y ≤ z
def Edge (n : Nat) (own : Nat → Nat → Sy35.Bound) (t : Sy35.Table) : Prop := ∀ i j x, i < n → j < n → own i j = some x → ∃ z, Sy35.entry t i j = some z ∧ z ≤ x
theorem Real.way {n : Nat} {own : Nat → Nat → Sy35.Bound} {t : Sy35.Table} (h : Real n own t) (hs : Sq n t) {a b : Nat} {w : Int} (ha : a < n) (hb : b < n) (hw : ∃ y, Wk n own a b y ∧ y ≤ w) : Real n own (wayTab t a b w) := fun i j z hi hj e => by
  rcases way_dn hs hi hj e with e | ⟨x, y, e1, e2, rfl⟩
  · exact h i j z hi hj e
  · obtain ⟨p, wp, lp⟩ := h i a x hi ha e1
    obtain ⟨q, wq, lq⟩ := h b j y hb hj e2
    obtain ⟨r, wr, lr⟩ := hw
    exact ⟨p + r + q, (wp.app wr).app wq, by omega⟩
theorem Edge.way {n : Nat} {own : Nat → Nat → Sy35.Bound} {t : Sy35.Table} (h : Edge n own t) (hs : Sq n t) (a b : Nat) (w : Int) : Edge n own (wayTab t a b w) := fun i j x hi hj e => by
  obtain ⟨z, e1, l1⟩ := h i j x hi hj e
  obtain ⟨z', e2, l2⟩ := way_up1 (a := a) (b := b) (w := w) hs hi hj e1
  exact ⟨z', e2, by omega⟩
theorem Wk.less {n : Nat} {own own' : Nat → Nat → Sy35.Bound} (h : ∀ i j x, own i j = some x → ∃ y, own' i j = some y ∧ y ≤ x) {i j : Nat} {z : Int} (a : Wk n own i j z) : ∃ y, Wk n own' i j y ∧ y ≤ z := by
  induction a with
  | nil h => exact ⟨0, .nil h, Int.le_refl _⟩
  | cons hi e r ih =>
    obtain ⟨y, w, l⟩ := ih
    obtain ⟨x', e', l'⟩ := h _ _ _ e
    exact ⟨x' + y, .cons hi e' w, by omega⟩
theorem Real.less {n : Nat} {own own' : Nat → Nat → Sy35.Bound} {t : Sy35.Table} (h : Real n own t) (hl : ∀ i j x, own i j = some x → ∃ y, own' i j = some y ∧ y ≤ x) : Real n own' t := fun i j z hi hj e => by
  obtain ⟨y, w, l⟩ := h i j z hi hj e
  obtain ⟨y', w', l'⟩ := w.less hl
  exact ⟨y', w', by omega⟩
theorem Wk.ends {n : Nat} {own : Nat → Nat → Sy35.Bound} {i j : Nat} {z : Int} (a : Wk n own i j z) : i < n ∧ j < n := by
  induction a with
  | nil h => exact ⟨h, h⟩
  | cons h e r ih => exact ⟨h, ih.2⟩
theorem Wk.low {n : Nat} {own : Nat → Nat → Sy35.Bound} {t : Sy35.Table} (hE : Edge n own t) (hT : Tri n t) (hD : Dg n t) {i j : Nat} {z : Int} (a : Wk n own i j z) : ∃ y, Sy35.entry t i j = some y ∧ y ≤ z := by
  induction a with
  | nil h => exact ⟨0, hD _ h, Int.le_refl _⟩
  | cons h e r ih =>
    obtain ⟨y, e1, l1⟩ := ih
    have hr := r.ends
    obtain ⟨x', e2, l2⟩ := hE _ _ _ h hr.1 e
    obtain ⟨v, e3, l3⟩ := hT _ _ _ _ _ h hr.1 hr.2 hr.1 e2 e1
    exact ⟨v, e3, by omega⟩
def tightB (own : Nat → Nat → Sy35.Bound) (t : Sy35.Table) (f i j : Nat) : Bool := i != j && (match own i j, Sy35.entry t j f, Sy35.entry t i f with
  | some x, some y, some z => x + y == z
  | _, _, _ => false)
theorem tightB_iff {own : Nat → Nat → Sy35.Bound} {t : Sy35.Table} {f i j : Nat} : tightB own t f i j = true ↔ i ≠ j ∧ ∃ x y z, own i j = some x ∧ Sy35.entry t j f = some y ∧ Sy35.entry t i f = some z ∧ x + y = z := by
  unfold tightB
  rw [Bool.and_eq_true, bne_iff_ne]
  refine and_congr Iff.rfl ?_
  constructor
  · intro h
    split at h
    · rename_i x y z e1 e2 e3
      exact ⟨x, y, z, e1, e2, e3, eq_of_beq h⟩
    · cases h
  · rintro ⟨x, y, z, e1, e2, e3, h⟩
    rw [e1, e2, e3]
    exact beq_iff_eq.mpr h
theorem reach_of_walk {n : Nat} {own : Nat → Nat → Sy35.Bound} {t : Sy35.Table} (hE : Edge n own t) (hT : Tri n t) (hD : Dg n t) {i f : Nat} {z : Int} (a : Wk n own i f z) : Sy35.entry t i f = some z → ∃ k, reach_ (tightB own t f) n f k i := by
  induction a with
  | nil h => exact fun _ => ⟨0, rfl⟩
  | @cons i j f x y h e r ih =>
    intro ez
    have hr := r.ends
    obtain ⟨y', e1, l1⟩ := r.low hE hT hD
    obtain ⟨x', e2, l2⟩ := hE _ _ _ h hr.1 e
    obtain ⟨v, e3, l3⟩ := hT _ _ _ _ _ h hr.1 hr.2 hr.1 e2 e1
    rw [ez] at e3
    have ev : x + y = v := Option.some.inj e3
    have ey : y' = y := by omega
    subst ey
    obtain ⟨k, hk⟩ := ih e1
    by_cases c : i = j
    · subst c
      exact ⟨k, hk⟩
    · exact ⟨k + 1, h, j, tightB_iff.mpr ⟨c, x, y', _, e, e1, ez, rfl⟩, hk⟩
theorem reach_of_entry {n : Nat} {own : Nat → Nat → Sy35.Bound} {t : Sy35.Table} (hR : Real n own t) (hE : Edge n own t) (hT : Tri n t) (hD : Dg n t) {i f : Nat} {z : Int} (hi : i < n) (hf : f < n) (e : Sy35.entry t i f = some z) : ∃ k, isD (tightB own t f) n f k i := by
  obtain ⟨y, w, l⟩ := hR i f z hi hf e
  obtain ⟨y', e', l'⟩ := w.low hE hT hD
  rw [e] at e'
  have : z = y' := Option.some.inj e'
  have ez : y = z := by omega
  subst ez
  obtain ⟨k, hk⟩ := reach_of_walk hE hT hD w e
  obtain ⟨m, _, q⟩ := isD_of_reach hk
  exact ⟨m, q⟩
theorem direct_snoc {u : Sy35.St} {l : List Nat} {k i j : Nat} {x : Sy35.Signal} (h : u.signals[k]? = some x) : Sy35.direct u (l ++ [k]) i j = Sy35.lesser (Sy35.direct u l i j) (Sy35.bySignal x i j) := by
  unfold Sy35.direct Sy35.signalsOf
  rw [List.filterMap_append, List.foldl_append, List.filterMap_cons, h]
  rfl
theorem lesser_l {a b : Sy35.Bound} {x : Int} (h : a = some x) : ∃ z, Sy35.lesser a b = some z ∧ z ≤ x := by
  subst h
  cases b with
  | none => exact ⟨x, rfl, Int.le_refl _⟩
  | some y => exact ⟨min x y, rfl, by omega⟩
theorem lesser_r {a b : Sy35.Bound} {x : Int} (h : b = some x) : ∃ z, Sy35.lesser a b = some z ∧ z ≤ x := by
  subst h
  cases a with
  | none => exact ⟨x, rfl, Int.le_refl _⟩
  | some y => exact ⟨min y x, rfl, by omega⟩
theorem lesser_is {a b : Sy35.Bound} {z : Int} (h : Sy35.lesser a b = some z) : a = some z ∨ b = some z := by
  cases a with
  | none => exact .inr h
  | some x =>
    cases b with
    | none => exact .inl h
    | some y =>
      have h : min x y = z := Option.some.inj h
      by_cases c : x ≤ y
      · exact .inl (congrArg some (by omega))
      · exact .inr (congrArg some (by omega))
theorem bySignal_is {x : Sy35.Signal} {i j : Nat} {z : Int} (h : Sy35.bySignal x i j = some z) : (x.from_ = i ∧ x.to_ = j ∧ z = (x.most : Int)) ∨ (x.to_ = i ∧ x.from_ = j ∧ z = -(x.least : Int)) := by
  unfold Sy35.bySignal at h
  rcases lesser_is h with h | h
  · split at h
    · rename_i c
      exact .inl ⟨c.1, c.2, (Option.some.inj h).symm⟩
    · cases h
  · split at h
    · rename_i c
      exact .inr ⟨c.1, c.2, (Option.some.inj h).symm⟩
    · cases h
theorem own_ok {s : RmS} {u : Sy35.St} (g : Gd s u) : ∀ k, Real s.evs.length (Sy35.direct u (Sy35.upTo u k).1) (Sy35.upTo u k).2 ∧ Edge s.evs.length (Sy35.direct u (Sy35.upTo u k).1) (Sy35.upTo u k).2
  | 0 => by
    rw [← bel_upTo g]
    show Real _ (Sy35.direct u []) (clockT s.rates s.evs) ∧ Edge _ (Sy35.direct u []) (clockT s.rates s.evs)
    have hs := clockT0_sq s.rates s.evs
    have key : ∀ k, k ≤ s.evs.length → Real s.evs.length (Sy35.direct u []) (closeTo (clockT0 s.rates s.evs) k) ∧ Edge s.evs.length (Sy35.direct u []) (closeTo (clockT0 s.rates s.evs) k) := by
      intro k
      induction k with
      | zero =>
        intro _
        constructor
        · intro i j z hi hj e
          have e1 := List.getElem?_eq_getElem hi
          have e2 := List.getElem?_eq_getElem hj
          have e : Sy35.entry (clockT0 s.rates s.evs) i j = some z := e
          rw [entry_T0 e1 e2, clock_direct g e1 e2] at e
          exact ⟨z + 0, .cons hi e (.nil hj), by omega⟩
        · intro i j x hi hj e
          have e1 := List.getElem?_eq_getElem hi
          have e2 := List.getElem?_eq_getElem hj
          rw [← clock_direct g e1 e2, ← entry_T0 e1 e2] at e
          exact ⟨x, e, Int.le_refl _⟩
      | succ k ih =>
        intro hk
        obtain ⟨h1, h2⟩ := ih (by omega)
        rw [closeTo_succ]
        exact ⟨h1.way (closeTo_sq hs k) (by omega) (by omega) ⟨0, .nil (by omega), Int.le_refl _⟩, h2.way (closeTo_sq hs k) _ _ _⟩
    exact key _ (Nat.le_refl _)
  | k + 1 => by
    obtain ⟨h1, h2⟩ := own_ok g k
    have hd := (upTo_ok g k).2
    have hsq := upTo_sq g k
    rw [← bel_upTo g] at h1 h2 hd hsq ⊢
    cases e : s.sigs[k]? with
    | none =>
      have q : belUp s.sigs (clockT s.rates s.evs) (k + 1) = belUp s.sigs (clockT s.rates s.evs) k := by
        unfold belUp
        rw [List.range_succ, List.foldl_append]
        simp [e]
      rw [q]
      exact ⟨h1, h2⟩
    | some x =>
      rw [belUp_succ e]
      unfold belStep
      have hx := g.ok.sgn x (List.mem_of_getElem? e)
      split
      · exact ⟨h1, h2⟩
      · show Real _ (Sy35.direct u (_ ++ [k])) (waySig _ x) ∧ Edge _ (Sy35.direct u (_ ++ [k])) (waySig _ x)
        generalize (belUp s.sigs (clockT s.rates s.evs) k).1 = l at h1 h2 ⊢
        generalize (belUp s.sigs (clockT s.rates s.evs) k).2 = t at h1 h2 hd hsq ⊢
        have eu : u.signals[k]? = some x := by rw [← g.sigs]; exact e
        have ds : ∀ i j, Sy35.direct u (l ++ [k]) i j = Sy35.lesser (Sy35.direct u l i j) (Sy35.bySignal x i j) := fun i j => direct_snoc eu
        have s1 := wayTab_sq hsq x.from_ x.to_ (x.most : Int)
        have b1 : ∃ y, Sy35.bySignal x x.from_ x.to_ = some y ∧ y ≤ (x.most : Int) := lesser_l (if_pos ⟨rfl, rfl⟩)
        have b2 : ∃ y, Sy35.bySignal x x.to_ x.from_ = some y ∧ y ≤ -(x.least : Int) := lesser_r (if_pos ⟨rfl, rfl⟩)
        have w1 : ∃ y, Wk s.evs.length (Sy35.direct u (l ++ [k])) x.from_ x.to_ y ∧ y ≤ (x.most : Int) := by
          obtain ⟨y, ey, ly⟩ := b1
          obtain ⟨z, ez, lz⟩ := lesser_r (a := Sy35.direct u l x.from_ x.to_) ey
          rw [← ds] at ez
          exact ⟨z + 0, .cons hx.1 ez (.nil hx.2), by omega⟩
        have w2 : ∃ y, Wk s.evs.length (Sy35.direct u (l ++ [k])) x.to_ x.from_ y ∧ y ≤ -(x.least : Int) := by
          obtain ⟨y, ey, ly⟩ := b2
          obtain ⟨z, ez, lz⟩ := lesser_r (a := Sy35.direct u l x.to_ x.from_) ey
          rw [← ds] at ez
          exact ⟨z + 0, .cons hx.2 ez (.nil hx.1), by omega⟩
        constructor
        · have h1' := h1.less (own' := Sy35.direct u (l ++ [k])) fun i j z ez => by
            rw [ds]
            exact lesser_l ez
          exact (h1'.way hsq hx.1 hx.2 w1).way s1 hx.2 hx.1 w2
        · intro i j z hi hj ez
          rw [ds] at ez
          rcases lesser_is ez with ez | ez
          · exact ((h2.way hsq x.from_ x.to_ (x.most : Int)).way s1 x.to_ x.from_ (-(x.least : Int))) i j z hi hj ez
          · rcases bySignal_is ez with ⟨rfl, rfl, rfl⟩ | ⟨rfl, rfl, rfl⟩
            · obtain ⟨v, e1, l1⟩ := way_up2 (w := (x.most : Int)) hsq hi hj (hd _ hi) (hd _ hj)
              obtain ⟨v', e2, l2⟩ := way_up1 (a := x.to_) (b := x.from_) (w := -(x.least : Int)) s1 hi hj e1
              exact ⟨v', e2, by omega⟩
            · obtain ⟨p, o1, r1⟩ := way_up1 (a := x.from_) (b := x.to_) (w := (x.most : Int)) hsq hi hi (hd _ hi)
              obtain ⟨q, o2, r2⟩ := way_up1 (a := x.from_) (b := x.to_) (w := (x.most : Int)) hsq hj hj (hd _ hj)
              obtain ⟨v, e1, l1⟩ := way_up2 (w := -(x.least : Int)) s1 hi hj o1 o2
              exact ⟨v, e1, by omega⟩
theorem row_spec {s : RmS} {u : Sy35.St} (g : Gd s u) (k : Nat) {i f : Nat} {z : Int} (hi : i < s.evs.length) (hf : f < s.evs.length) (e : Sy35.entry (Sy35.upTo u k).2 i f = some z) :
    ∃ d, RowD (tightB (Sy35.direct u (Sy35.upTo u k).1) (Sy35.upTo u k).2 f) s.evs.length f d i (Sy35.rowBy u (Sy35.upTo u k).1 (Sy35.upTo u k).2 i f) := by
  obtain ⟨h1, h2⟩ := own_ok g k
  obtain ⟨h3, h4⟩ := upTo_ok g k
  obtain ⟨d, hd⟩ := reach_of_entry h1 h2 h3 h4 hi hf e
  refine ⟨d, ?_⟩
  have q := rowBy_row (s := u) (l := (Sy35.upTo u k).1) (t := (Sy35.upTo u k).2) (i := i) (f := f) (d := d) (by rw [g.size]; exact hf)
  rw [g.size] at q
  exact q hd
end Ck
namespace Ck
def lexlt : List Nat → List Nat → Prop
  | a :: as, b :: bs => a < b ∨ (a = b ∧ lexlt as bs)
  | _, _ => False
def Less (q r : List Nat) : Prop := q.length < r.length ∨ (q.length = r.length ∧ lexlt q r)
theorem lexlt_app : ∀ {q r : List Nat} (s s' : List Nat), lexlt q r → lexlt (q ++ s) (r ++ s')
  | [], _, _, _, h => by cases ‹List Nat› <;> exact h.elim
  | a :: q, [], s, s', h => h.elim
  | a :: q, b :: r, s, s', h => by
    rcases h with h | ⟨h, h'⟩
    · exact .inl h
    · exact .inr ⟨h, lexlt_app s s' h'⟩
theorem lexlt_same {x y : Nat} (h : x < y) (s s' : List Nat) : ∀ q : List Nat, lexlt (q ++ x :: s) (q ++ y :: s')
  | [] => .inl h
  | a :: q => .inr ⟨rfl, lexlt_same h s s' q⟩
theorem lexlt_irr : ∀ r : List Nat, ¬ lexlt r r
  | [], h => h
  | a :: r, h => by
    rcases h with h | ⟨_, h⟩
    · omega
    · exact lexlt_irr r h
def la (r : List Nat) : Nat := (r.getLast?).getD 0
theorem la_snoc (r : List Nat) (x : Nat) : la (r ++ [x]) = x := by simp [la]
section
variable (E : Nat → Nat → Bool) (n f : Nat)
inductive Pth : Nat → List Nat → Prop
  | last : Pth f [f]
  | step {i j : Nat} {r : List Nat} (hi : i < n) (e : E i j = true) (h : Pth j r) : Pth i (i :: r)
inductive Pre (i0 : Nat) : List Nat → Prop
  | one : Pre i0 [i0]
  | snoc {q : List Nat} {y : Nat} (h : Pre i0 q) (hl : la q < n) (e : E (la q) y = true) : Pre i0 (q ++ [y])
end
section
variable {E : Nat → Nat → Bool} {n f : Nat}
theorem Pre.pos {i0 : Nat} {q : List Nat} (h : Pre E n i0 q) : 0 < q.length := by
  cases h with
  | one => exact Nat.zero_lt_one
  | snoc h hl e => rw [List.length_append]; exact Nat.succ_pos _
theorem Pre.join {i0 : Nat} {q : List Nat} (h : Pre E n i0 q) : ∀ {s : List Nat}, Pth E n f (la q) (la q :: s) → Pth E n f i0 (q ++ s) := by
  induction h with
  | one => intro s h; exact h
  | @snoc q y h hl e ih =>
    intro s hs
    rw [la_snoc] at hs
    rw [List.append_assoc]
    exact ih (.step hl e hs)
theorem Pth.head {i : Nat} {r : List Nat} (h : Pth E n f i r) : ∃ s, r = i :: s := by
  cases h with
  | last => exact ⟨[], rfl⟩
  | @step _ j s hi e h => exact ⟨s, rfl⟩
theorem Pth.reach {i : Nat} {r : List Nat} (h : Pth E n f i r) : ∃ k, r.length = k + 1 ∧ reach_ E n f k i := by
  induction h with
  | last => exact ⟨0, rfl, rfl⟩
  | @step i j r hi e h ih =>
    obtain ⟨k, h1, h2⟩ := ih
    exact ⟨k + 1, by rw [List.length_cons, h1], hi, j, e, h2⟩
theorem RowD.pth {d i : Nat} {r : List Nat} (h : RowD E n f d i r) : Pth E n f i r ∧ r.length = d + 1 := by
  induction h with
  | zero => exact ⟨.last, rfl⟩
  | @succ k i j r hi e hj lt hr ih => exact ⟨.step hi.1.1 e ih.1, by rw [List.length_cons, ih.2]⟩
theorem RowD.dist {d i : Nat} {r : List Nat} (h : RowD E n f d i r) : isD E n f d i := by
  cases h with
  | zero => exact ⟨rfl, fun m h => absurd h (Nat.not_lt_zero m)⟩
  | succ hi e hj lt hr => exact hi
theorem RowD.short {d i : Nat} {r p : List Nat} (h : RowD E n f d i r) (hp : Pth E n f i p) : d + 1 ≤ p.length := by
  obtain ⟨k, h1, h2⟩ := hp.reach
  have := h.dist.2 k
  rcases Nat.lt_or_ge k d with z | z
  · exact absurd h2 (this z)
  · omega
theorem RowD.first {d i : Nat} {r : List Nat} (h : RowD E n f d i r) : ∀ {p : List Nat}, Pth E n f i p → p.length = d + 1 → ¬ lexlt p r := by
  induction h with
  | zero =>
    intro p hp hl
    obtain ⟨s, rfl⟩ := hp.head
    have : s = [] := List.length_eq_zero_iff.mp (by rw [List.length_cons] at hl; omega)
    subst this
    exact lexlt_irr _
  | @succ k i j r hi e hj lt hr ih =>
    intro p hp hl hx
    cases hp with
    | last => rw [List.length_cons] at hl; simp at hl
    | @step _ j' p' _ e' hp' =>
      rw [List.length_cons] at hl
      have hl : p'.length = k + 1 := by omega
      rcases hx with hx | ⟨_, hx⟩
      · omega
      · obtain ⟨k', h1, h2⟩ := hp'.reach
        have hk : k' = k := by omega
        subst hk
        have hd : isD E n f k' j' := ⟨h2, fun m hm hr' => hi.2 (m + 1) (by omega) ⟨hi.1.1, j', e', hr'⟩⟩
        have hjj : ¬ j' < j := fun z => lt j' z e' hd
        obtain ⟨s', rfl⟩ := hp'.head
        obtain ⟨s, rfl⟩ := (hr.pth).1.head
        by_cases q : j' = j
        · subst q
          exact ih hp' hl hx
        · rcases hx with hx | ⟨hx, _⟩
          · omega
          · omega
theorem Pth.drop {i : Nat} {r : List Nat} (h : Pth E n f i r) : ∀ {k x : Nat}, r[k]? = some x → ∃ s, r.drop k = x :: s ∧ s = r.drop (k + 1) ∧ Pth E n f x (x :: s) := by
  induction h with
  | last =>
    intro k x hx
    cases k with
    | zero => cases hx; exact ⟨[], rfl, rfl, .last⟩
    | succ k => simp at hx
  | @step i j r hi e h ih =>
    intro k x hx
    cases k with
    | zero => cases hx; exact ⟨r, rfl, rfl, .step hi e h⟩
    | succ k =>
      obtain ⟨s, h1, h2, h3⟩ := ih (k := k) (x := x) (by simpa using hx)
      exact ⟨s, by rw [List.drop_succ_cons]; exact h1, by rw [List.drop_succ_cons]; exact h2, h3⟩
theorem Pth.edge {i : Nat} {r : List Nat} (h : Pth E n f i r) (hf : f < n) : ∀ {k x y : Nat}, r[k]? = some x → r[k + 1]? = some y → E x y = true ∧ y < n := by
  induction h with
  | last => intro k x y hx hy; simp at hy
  | @step i j r hi e h ih =>
    intro k x y hx hy
    cases k with
    | zero =>
      cases hx
      have hy : r[0]? = some y := by simpa using hy
      obtain ⟨s, rfl⟩ := h.head
      cases hy
      refine ⟨e, ?_⟩
      cases h with
      | last => exact hf
      | step hi _ _ => exact hi
    | succ k => exact ih (k := k) (by simpa using hx) (by simpa using hy)
theorem flip {P : Nat → Prop} (h0 : P 0) : ∀ {k : Nat}, ¬ P k → ∃ m, m < k ∧ P m ∧ ¬ P (m + 1)
  | 0, h => absurd h0 h
  | k + 1, h => by
    by_cases z : P k
    · exact ⟨k, Nat.lt_succ_self k, z, h⟩
    · obtain ⟨m, h1, h2, h3⟩ := flip h0 z
      exact ⟨m, by omega, h2, h3⟩
structure Bfs (E : Nat → Nat → Bool) (n f i0 : Nat) (R : List Nat) (rows : List (List Nat)) (at_ : Nat) : Prop where
  srt : rows.Pairwise Less
  pre : ∀ r ∈ rows, Pre E n i0 r
  zero : rows[0]? = some [i0]
  org : ∀ (j : Nat) (r : List Nat), rows[j]? = some r → j = 0 ∨ ∃ i q y, i < at_ ∧ rows[i]? = some q ∧ r = q ++ [y]
  done : ∀ (i : Nat) (q : List Nat), i < at_ → rows[i]? = some q → la q ≠ f ∧ ∀ y, y < n → E (la q) y = true → y ∈ rows.map la
  nd : (rows.map la).Nodup
  lt : ∀ r ∈ rows, la r < n
  onR : ∀ (r : List Nat) (k : Nat), r ∈ rows → R[k]? = some (la r) → r = R.take (k + 1)
  len : ∀ (j : Nat) (r : List Nat), rows[j]? = some r → r.length ≤ j + 1
def found (E : Nat → Nat → Bool) (rows : List (List Nat)) (q : List Nat) (l : List Nat) : List Nat := l.filter fun y => !(rows.map la).contains y && E (la q) y
theorem bfs_start {d i0 : Nat} {R : List Nat} (hR : RowD E n f d i0 R) (hi : i0 < n) : Bfs E n f i0 R [[i0]] 0 := by
  obtain ⟨s, hs⟩ := hR.pth.1.head
  refine ⟨List.pairwise_singleton _ _, fun r hr => ?_, rfl, fun j r hj => ?_, fun i q h => absurd h (Nat.not_lt_zero i), ?_, fun r hr => ?_, fun r k hr hk => ?_, fun j r hj => ?_⟩
  · rw [List.mem_singleton.mp hr]; exact .one
  · cases j with
    | zero => exact .inl rfl
    | succ j => simp at hj
  · simp
  · rw [List.mem_singleton.mp hr]; exact hi
  · rw [List.mem_singleton.mp hr] at hk ⊢
    have hk : R[k]? = some i0 := hk
    cases k with
    | zero => rw [hs]; rfl
    | succ k =>
      exfalso
      obtain ⟨s', h1, h2, h3⟩ := hR.pth.1.drop hk
      have q := hR.short h3
      have l := hR.pth.2
      have : (R.drop (k + 1)).length = R.length - (k + 1) := List.length_drop ..
      rw [h1] at this
      omega
  · cases j with
    | zero => cases hj; exact Nat.le_refl _
    | succ j => simp at hj
theorem less_of {rows : List (List Nat)} (h : rows.Pairwise Less) {i j : Nat} {p q : List Nat} (hij : i < j) (hi : rows[i]? = some p) (hj : rows[j]? = some q) : Less p q := by
  obtain ⟨h1, e1⟩ := List.getElem?_eq_some_iff.mp hi
  obtain ⟨h2, e2⟩ := List.getElem?_eq_some_iff.mp hj
  have := List.pairwise_iff_getElem.mp h i j h1 h2 hij
  rw [e1, e2] at this
  exact this
theorem bfs_step {d i0 at_ : Nat} {R q : List Nat} {rows : List (List Nat)} (hR : RowD E n f d i0 R) (hf : f < n) (B : Bfs E n f i0 R rows at_) (hq : rows[at_]? = some q) (hqf : la q ≠ f) :
    Bfs E n f i0 R (rows ++ (found E rows q (List.range n)).map fun y => q ++ [y]) (at_ + 1) := by
  have mq : q ∈ rows := List.mem_of_getElem? hq
  have mem : ∀ y, y ∈ found E rows q (List.range n) ↔ y < n ∧ ¬ y ∈ rows.map la ∧ E (la q) y = true := fun y => by
    unfold found
    rw [List.mem_filter, List.mem_range, Bool.and_eq_true, Bool.not_eq_true', ← Bool.not_eq_true, List.contains_iff_mem]
  have hlen := hR.pth.2
  have hpos := (B.pre q mq).pos
  obtain ⟨s0, hs0⟩ := hR.pth.1.head
  refine ⟨?_, fun r hr => ?_, ?_, fun j r hj => ?_, fun i p hi hp => ?_, ?_, fun r hr => ?_, fun r k hr hk => ?_, fun j r hj => ?_⟩
  · refine List.pairwise_append.mpr ⟨B.srt, ?_, fun r hr z hz => ?_⟩
    · refine List.pairwise_map.mpr ?_
      unfold found
      refine (List.pairwise_lt_range.filter _).imp fun {a b} hab => .inr ⟨?_, lexlt_same hab [] [] q⟩
      rw [List.length_append, List.length_append]; rfl
    · obtain ⟨y, _, rfl⟩ := List.mem_map.mp hz
      obtain ⟨j, hj⟩ := List.getElem?_of_mem hr
      rcases B.org j r hj with e | ⟨i, p, y', hi, hp, rfl⟩
      · subst e
        rw [B.zero] at hj
        cases hj
        refine .inl ?_
        rw [List.length_append]
        show 1 < q.length + 1
        omega
      · rcases less_of B.srt hi hp hq with h | ⟨h, h'⟩
        · refine .inl ?_
          rw [List.length_append, List.length_append]
          show p.length + 1 < q.length + 1
          omega
        · refine .inr ⟨?_, lexlt_app _ _ h'⟩
          rw [List.length_append, List.length_append, h]; rfl
  · rcases List.mem_append.mp hr with h | h
    · exact B.pre r h
    · obtain ⟨y, hy, rfl⟩ := List.mem_map.mp h
      exact .snoc (B.pre q mq) (B.lt q mq) ((mem y).mp hy).2.2
  · rw [List.getElem?_append_left (List.getElem?_eq_some_iff.mp B.zero).1]
    exact B.zero
  · have left : ∀ {i : Nat} {p : List Nat}, rows[i]? = some p → (rows ++ (found E rows q (List.range n)).map fun y => q ++ [y])[i]? = some p := fun {i p} h => by
      rw [List.getElem?_append_left (List.getElem?_eq_some_iff.mp h).1]; exact h
    by_cases hj' : j < rows.length
    · rw [List.getElem?_append_left hj'] at hj
      rcases B.org j r hj with e | ⟨i, p, y, hi, hp, e⟩
      · exact .inl e
      · exact .inr ⟨i, p, y, by omega, left hp, e⟩
    · rw [List.getElem?_append_right (by omega)] at hj
      obtain ⟨y, _, e⟩ := List.mem_map.mp (List.mem_of_getElem? hj)
      exact .inr ⟨at_, q, y, Nat.lt_succ_self _, left hq, e.symm⟩
  · have hl : at_ < rows.length := (List.getElem?_eq_some_iff.mp hq).1
    rw [List.getElem?_append_left (by omega)] at hp
    rw [List.map_append]
    by_cases hi' : i < at_
    · obtain ⟨h1, h2⟩ := B.done i p hi' hp
      exact ⟨h1, fun y hy e => List.mem_append_left _ (h2 y hy e)⟩
    · have e : i = at_ := by omega
      subst e
      rw [hq] at hp
      cases hp
      refine ⟨hqf, fun y hy e => ?_⟩
      by_cases z : y ∈ rows.map la
      · exact List.mem_append_left _ z
      · refine List.mem_append_right _ ?_
        rw [List.map_map]
        exact List.mem_map.mpr ⟨y, (mem y).mpr ⟨hy, z, e⟩, la_snoc q y⟩
  · rw [List.map_append, List.map_map]
    have e : ((found E rows q (List.range n)).map (la ∘ fun y => q ++ [y])) = found E rows q (List.range n) := by
      refine (List.map_congr_left fun y _ => la_snoc q y).trans (List.map_id' _)
    rw [e]
    refine List.nodup_append.mpr ⟨B.nd, (List.nodup_range).filter _, fun x hx y hy z => ?_⟩
    subst z
    exact ((mem x).mp hy).2.1 hx
  · rcases List.mem_append.mp hr with h | h
    · exact B.lt r h
    · obtain ⟨y, hy, rfl⟩ := List.mem_map.mp h
      rw [la_snoc]
      exact ((mem y).mp hy).1
  · rcases List.mem_append.mp hr with h | h
    · exact B.onR r k h hk
    · obtain ⟨y, hy, rfl⟩ := List.mem_map.mp h
      rw [la_snoc] at hk
      obtain ⟨hyn, hyr, hye⟩ := (mem y).mp hy
      have hkd : k < R.length := (List.getElem?_eq_some_iff.mp hk).1
      have hP0 : ∃ x, R[0]? = some x ∧ x ∈ rows.map la := ⟨i0, by rw [hs0]; rfl, List.mem_map.mpr ⟨[i0], List.mem_of_getElem? B.zero, rfl⟩⟩
      have hPk : ¬ ∃ x, R[k]? = some x ∧ x ∈ rows.map la := by
        rintro ⟨x, hx, hm⟩
        rw [hk] at hx
        cases hx
        exact hyr hm
      obtain ⟨m, hm, ⟨x, hx, hxm⟩, hn⟩ := flip (P := fun k => ∃ x, R[k]? = some x ∧ x ∈ rows.map la) hP0 hPk
      obtain ⟨r0, hr0, hr0x⟩ := List.mem_map.mp hxm
      have e0 : r0 = R.take (m + 1) := B.onR r0 m hr0 (by rw [hr0x]; exact hx)
      obtain ⟨j, hj⟩ := List.getElem?_of_mem hr0
      have hm1 : R[m + 1]? = some R[m + 1] := List.getElem?_eq_getElem (by omega)
      have hja : at_ ≤ j := by
        rcases Nat.lt_or_ge j at_ with z | z
        · exfalso
          obtain ⟨_, h2⟩ := B.done j r0 z hj
          obtain ⟨ee, el⟩ := hR.pth.1.edge hf hx hm1
          exact hn ⟨_, hm1, h2 _ el (by rw [hr0x]; exact ee)⟩
        · exact z
      obtain ⟨s, h1, h2, h3⟩ := hR.pth.1.drop hk
      have hp : Pth E n f i0 (q ++ (y :: s)) := by
        have := Pre.join (.snoc (B.pre q mq) (B.lt q mq) hye) (s := s) (by rw [la_snoc]; exact h3)
        rw [List.append_assoc] at this
        exact this
      have sl : s.length + 1 + k = R.length := by
        have : (R.drop k).length = R.length - k := List.length_drop ..
        rw [h1, List.length_cons] at this
        omega
      have short := hR.short hp
      rw [List.length_append, List.length_cons] at short
      have hr0l : r0.length = m + 1 := by rw [e0, List.length_take]; omega
      have hqr : q = r0 ∨ Less q r0 := by
        rcases Nat.lt_or_ge at_ j with z | z
        · exact .inr (less_of B.srt z hq hj)
        · have : at_ = j := by omega
          subst this
          rw [hq] at hj
          cases hj
          exact .inl rfl
      have hk1 : ∀ {q' : List Nat}, q' = R.take (m + 1) → m + 1 = k → q' ++ [y] = R.take (k + 1) := fun {q'} e e' => by
        rw [e, e', List.take_add_one, hk]
        rfl
      rcases hqr with e | ⟨h⟩ | ⟨h, h'⟩
      · have hql : q.length = m + 1 := by rw [e]; exact hr0l
        exact hk1 (e.trans e0) (by omega)
      · omega
      · exfalso
        have hl2 : (q ++ (y :: s)).length = d + 1 := by rw [List.length_append, List.length_cons]; omega
        have hx := lexlt_app (y :: s) (R.drop (m + 1)) h'
        rw [e0, List.take_append_drop] at hx
        exact hR.first hp hl2 hx
  · by_cases hj' : j < rows.length
    · rw [List.getElem?_append_left hj'] at hj
      exact B.len j r hj
    · rw [List.getElem?_append_right (by omega)] at hj
      obtain ⟨y, _, e⟩ := List.mem_map.mp (List.mem_of_getElem? hj)
      rw [← e, List.length_append]
      have := B.len at_ q hq
      have := (List.getElem?_eq_some_iff.mp hq).1
      show q.length + 1 ≤ j + 1
      omega
theorem bfs_more {d i0 at_ : Nat} {R : List Nat} {rows : List (List Nat)} (hR : RowD E n f d i0 R) (hf : f < n) (B : Bfs E n f i0 R rows at_) : at_ < rows.length := by
  rcases Nat.lt_or_ge at_ rows.length with z | z
  · exact z
  · exfalso
    have hlen := hR.pth.2
    obtain ⟨s0, hs0⟩ := hR.pth.1.head
    have all : ∀ (k x : Nat), R[k]? = some x → x ∈ rows.map la := by
      intro k
      induction k with
      | zero =>
        intro x hx
        rw [hs0] at hx
        cases hx
        exact List.mem_map.mpr ⟨[i0], List.mem_of_getElem? B.zero, rfl⟩
      | succ k ih =>
        intro y hy
        have hk : k < R.length := by have := (List.getElem?_eq_some_iff.mp hy).1; omega
        have hx : R[k]? = some R[k] := List.getElem?_eq_getElem hk
        obtain ⟨r, hr, e⟩ := List.mem_map.mp (ih _ hx)
        obtain ⟨j, hj⟩ := List.getElem?_of_mem hr
        have hjl := (List.getElem?_eq_some_iff.mp hj).1
        obtain ⟨ee, el⟩ := hR.pth.1.edge hf hx hy
        exact (B.done j r (by omega) hj).2 y el (by rw [e]; exact ee)
    have last : R[d]? = some f := by
      have : ∀ {i : Nat} {r : List Nat}, Pth E n f i r → r.getLast? = some f := by
        intro i r h
        induction h with
        | last => rfl
        | @step i j r hi e h ih =>
          obtain ⟨s, rfl⟩ := h.head
          rw [List.getLast?_cons_cons]
          exact ih
      have h := this hR.pth.1
      rw [List.getLast?_eq_getElem?, hlen] at h
      exact h
    obtain ⟨r, hr, e⟩ := List.mem_map.mp (all d f last)
    obtain ⟨j, hj⟩ := List.getElem?_of_mem hr
    have hjl := (List.getElem?_eq_some_iff.mp hj).1
    exact (B.done j r (by omega) hj).1 e
theorem bfs_end {d i0 at_ : Nat} {R q : List Nat} {rows : List (List Nat)} (hR : RowD E n f d i0 R) (B : Bfs E n f i0 R rows at_) (hq : rows[at_]? = some q) (hqf : la q = f) : q = R := by
  have last : R[d]? = some f := by
    have : ∀ {i : Nat} {r : List Nat}, Pth E n f i r → r.getLast? = some f := by
      intro i r h
      induction h with
      | last => rfl
      | @step i j r hi e h ih =>
        obtain ⟨s, rfl⟩ := h.head
        rw [List.getLast?_cons_cons]
        exact ih
    have h := this hR.pth.1
    rw [List.getLast?_eq_getElem?, hR.pth.2] at h
    exact h
  have := B.onR q d (List.mem_of_getElem? hq) (by rw [hqf]; exact last)
  rw [this]
  refine List.take_of_length_le ?_
  rw [hR.pth.2]
  exact Nat.le_refl _
theorem bfs_few {at_ i0 : Nat} {R : List Nat} {rows : List (List Nat)} (B : Bfs E n f i0 R rows at_) : rows.length ≤ n := by
  have := few_of_nodup n (rows.map la) B.nd fun x hx => by
    obtain ⟨r, hr, e⟩ := List.mem_map.mp hx
    rw [← e]
    exact B.lt r hr
  rw [List.length_map] at this
  exact this
end
end Ck
namespace Ck
open PySem PySem.Spec PyProof.Rows L2
def setE (t : Sy35.Table) (i j : Nat) (b : Sy35.Bound) : Sy35.Table := t.set i ((t.getD i []).set j b)
theorem setE_sq {n : Nat} {t : Sy35.Table} (h : Sq n t) {i j : Nat} {b : Sy35.Bound} (hi : i < n) : Sq n (setE t i j b) := by
  refine ⟨by rw [setE, List.length_set]; exact h.len, fun r hr => ?_⟩
  rcases List.mem_or_eq_of_mem_set hr with z | z
  · exact h.row r z
  · rw [z, List.length_set]
    have hi' : i < t.length := by rw [h.len]; exact hi
    rw [List.getD_eq_getElem?_getD, List.getElem?_eq_getElem hi']
    exact h.row _ (List.getElem_mem hi')
theorem entry_setE {n : Nat} {t : Sy35.Table} (h : Sq n t) {i j a b : Nat} {x : Sy35.Bound} (hi : i < n) (hj : j < n) : Sy35.entry (setE t i j x) a b = if a = i ∧ b = j then x else Sy35.entry t a b := by
  have hi' : i < t.length := by rw [h.len]; exact hi
  have hr : (t.getD i []).length = n := by
    rw [List.getD_eq_getElem?_getD, List.getElem?_eq_getElem hi']
    exact h.row _ (List.getElem_mem hi')
  unfold Sy35.entry setE
  rw [List.getD_eq_getElem?_getD (l := t.set i _), List.getElem?_set]
  by_cases e : i = a
  · subst e
    rw [if_pos rfl, if_pos hi', Option.getD_some, List.getD_eq_getElem?_getD (l := (t.getD i []).set j x), List.getElem?_set]
    by_cases e2 : j = b
    · subst e2
      rw [if_pos rfl, if_pos (by omega), if_pos ⟨rfl, rfl⟩]
      rfl
    · rw [if_neg e2, if_neg (fun z => e2 z.2.symm), ← List.getD_eq_getElem?_getD]
  · rw [if_neg e, if_neg (fun z => e z.1.symm), ← List.getD_eq_getElem?_getD]
def ownStep (t : Sy35.Table) (x : Sy35.Signal) : Sy35.Table := setE (setE t x.from_ x.to_ (Sy35.lesser (Sy35.entry t x.from_ x.to_) (some (x.most : Int)))) x.to_ x.from_ (Sy35.lesser (Sy35.entry t x.to_ x.from_) (some (-(x.least : Int))))
theorem ownStep_sq {n : Nat} {t : Sy35.Table} (h : Sq n t) {x : Sy35.Signal} (h1 : x.from_ < n) (h2 : x.to_ < n) : Sq n (ownStep t x) := setE_sq (setE_sq h h1) h2
theorem lesser_none (b : Sy35.Bound) : Sy35.lesser b none = b := by cases b <;> rfl
theorem entry_ownStep {n : Nat} {t : Sy35.Table} (h : Sq n t) {x : Sy35.Signal} (h1 : x.from_ < n) (h2 : x.to_ < n) (hne : x.from_ ≠ x.to_) (i j : Nat) : Sy35.entry (ownStep t x) i j = Sy35.lesser (Sy35.entry t i j) (Sy35.bySignal x i j) := by
  unfold ownStep Sy35.bySignal
  rw [entry_setE (setE_sq h h1) h2 h1, entry_setE h h1 h2]
  by_cases a : x.to_ = i ∧ x.from_ = j
  · obtain ⟨rfl, rfl⟩ := a
    rw [if_pos ⟨rfl, rfl⟩, if_neg (fun z => hne z.1), if_pos ⟨rfl, rfl⟩]
    rfl
  · rw [if_neg (fun z => a ⟨z.1.symm, z.2.symm⟩), if_neg a, lesser_none]
    by_cases b : x.from_ = i ∧ x.to_ = j
    · obtain ⟨rfl, rfl⟩ := b
      rw [if_pos ⟨rfl, rfl⟩, if_pos ⟨rfl, rfl⟩]
    · rw [if_neg (fun z => b ⟨z.1.symm, z.2.symm⟩), if_neg b, lesser_none]
def ownT (rates : List Nat) (evs : List Ev) (sg : List Sy35.Signal) : Sy35.Table := sg.foldl ownStep (clockT0 rates evs)
theorem own_fold_sq {n : Nat} : ∀ (sg : List Sy35.Signal) {t : Sy35.Table}, Sq n t → (∀ x ∈ sg, x.from_ < n ∧ x.to_ < n ∧ x.from_ ≠ x.to_) → Sq n (sg.foldl ownStep t)
  | [], _, h, _ => h
  | x :: r, t, h, hs => own_fold_sq r (ownStep_sq h (hs x (List.mem_cons_self ..)).1 (hs x (List.mem_cons_self ..)).2.1) fun y hy => hs y (List.mem_cons_of_mem _ hy)
theorem entry_own_fold {n : Nat} (i j : Nat) : ∀ (sg : List Sy35.Signal) {t : Sy35.Table}, Sq n t → (∀ x ∈ sg, x.from_ < n ∧ x.to_ < n ∧ x.from_ ≠ x.to_) → Sy35.entry (sg.foldl ownStep t) i j = sg.foldl (fun (b : Sy35.Bound) (x : Sy35.Signal) => Sy35.lesser b (Sy35.bySignal x i j)) (Sy35.entry t i j)
  | [], _, _, _ => rfl
  | x :: r, t, h, hs => by
    have hx := hs x (List.mem_cons_self ..)
    rw [List.foldl_cons, List.foldl_cons, ← entry_ownStep h hx.1 hx.2.1 hx.2.2]
    exact entry_own_fold i j r (ownStep_sq h hx.1 hx.2.1) fun y hy => hs y (List.mem_cons_of_mem _ hy)
theorem belUp_lt {sigs : List Sy35.Signal} {t0 : Sy35.Table} : ∀ (n m : Nat), m ∈ (belUp sigs t0 n).1 → m < n ∧ m < sigs.length
  | 0, m, h => by cases h
  | n + 1, m, h => by
    cases e : sigs[n]? with
    | none =>
      have q : belUp sigs t0 (n + 1) = belUp sigs t0 n := by
        unfold belUp
        rw [List.range_succ, List.foldl_append]
        simp [e]
      rw [q] at h
      have := belUp_lt n m h
      omega
    | some x =>
      rw [belUp_succ e] at h
      have hn := (List.getElem?_eq_some_iff.mp e).1
      unfold belStep at h
      split at h
      · have := belUp_lt n m h
        omega
      · rcases List.mem_append.mp h with z | z
        · have := belUp_lt n m z
          omega
        · rw [List.mem_singleton.mp z]; omega
theorem signalsOf_in {s : RmS} {u : Sy35.St} (g : Gd s u) (l : List Nat) : ∀ x ∈ Sy35.signalsOf u l, x.from_ < s.evs.length ∧ x.to_ < s.evs.length ∧ x.from_ ≠ x.to_ := fun x hx => by
  obtain ⟨k, _, e⟩ := List.mem_filterMap.mp hx
  rw [← g.sigs] at e
  have m := List.mem_of_getElem? e
  exact ⟨(g.ok.sgn x m).1, (g.ok.sgn x m).2, g.ok.sne x m⟩
theorem own_entry {s : RmS} {u : Sy35.St} (g : Gd s u) (l : List Nat) {i j : Nat} (hi : i < s.evs.length) (hj : j < s.evs.length) : Sy35.entry (ownT s.rates s.evs (Sy35.signalsOf u l)) i j = Sy35.direct u l i j := by
  unfold ownT
  rw [entry_own_fold i j _ (clockT0_sq s.rates s.evs) (signalsOf_in g l)]
  have he := List.getElem?_eq_getElem hi
  have hf := List.getElem?_eq_getElem hj
  rw [entry_T0 he hf, clock_direct g he hf]
  rfl
theorem nd_at {xs : List Addr} (h : xs.Nodup) {i j : Nat} {p : Addr} (hi : xs[i]? = some p) (hj : xs[j]? = some p) : i = j := by
  obtain ⟨h1, e1⟩ := List.getElem?_eq_some_iff.mp hi
  obtain ⟨h2, e2⟩ := List.getElem?_eq_some_iff.mp hj
  rcases Nat.lt_trichotomy i j with z | z | z
  · exact absurd (e1.trans e2.symm) (List.pairwise_iff_getElem.mp h i j h1 h2 z)
  · exact z
  · exact absurd (e2.trans e1.symm) (List.pairwise_iff_getElem.mp h j i h2 h1 z)
theorem OwnAt.at_ {H0 H : Hp} {a : Addr} {n : Nat} {t : Sy35.Table} (h : OwnAt H0 H a t) (hs : Sq n t) {i j : Nat} (hi : i < n) (hj : j < n) (sm : Same H0 H) :
    ∃ (as : List V) (p : Addr) (r : List Sy35.Bound), H a = some (.lst as) ∧ as[i]? = some (V.ref p) ∧ H p = some (.lst (r.map bV)) ∧ r.length = n ∧ (r.map bV)[j]? = some (bV (Sy35.entry t i j)) ∧ ∀ b : Sy35.Bound, Same H0 (upd H p (.lst ((r.map bV).set j (bV b)))) ∧ OwnAt H0 (upd H p (.lst ((r.map bV).set j (bV b)))) a (setE t i j b) := by
  obtain ⟨as, h1, h2, h3, h4⟩ := h.ex
  have hi' : i < t.length := by rw [hs.len]; exact hi
  have e0 : t[i]? = some t[i] := List.getElem?_eq_getElem hi'
  obtain ⟨p, q1, q2, q3⟩ := h4 i _ e0
  have hl : t[i].length = n := hs.row _ (List.getElem_mem hi')
  have gd : t.getD i [] = t[i] := by rw [List.getD_eq_getElem?_getD, e0]; rfl
  have ne : p ≠ a := row_ne q3 h1 refs_all (by omega)
  refine ⟨_, p, t[i], h1, at_ref q1, q3, hl, ?_, fun b => ⟨fun c o hc => ?_, h.new, as, ?_, ?_, h3, fun m r hm => ?_⟩⟩
  · unfold Sy35.entry
    rw [gd]
    exact row_get (by omega)
  · rw [upd_ne (ne_of_none hc q2)]; exact sm c o hc
  · rw [upd_ne (Ne.symm ne)]; exact h1
  · rw [setE, List.length_set]; exact h2
  · unfold setE at hm
    rw [List.getElem?_set] at hm
    by_cases e : i = m
    · subst e
      rw [if_pos rfl, if_pos hi'] at hm
      cases hm
      refine ⟨p, q1, q2, ?_⟩
      show upd H p _ p = _
      rw [upd_same, gd, List.map_set]
    · rw [if_neg e] at hm
      obtain ⟨x, x1, x2, x3⟩ := h4 m r hm
      refine ⟨x, x1, x2, ?_⟩
      have nx : x ≠ p := fun z => e (nd_at h3 q1 (by rw [← z]; exact x1))
      show upd H p _ x = _
      rw [upd_ne nx]; exact x3
def spOwn (t : Adr) : Sp := fun vs H Q _ => ∃ (ra la sa : Addr) (rates : List Nat) (evs : List Ev) (sg : List Sy35.Signal), vs = [.ref ra, .ref la, .ref sa] ∧ IntsAt H ra rates ∧ ObjsAt (EvAt t) H la evs ∧ RatesOk rates evs ∧ evs.length ≤ 100 ∧ ObjsAt (SigAt t) H sa sg ∧
  (∀ x ∈ sg, x.from_ < evs.length ∧ x.to_ < evs.length ∧ x.from_ ≠ x.to_) ∧ ∀ (H' : Hp) (p : Addr), Same H H' → OwnAt H H' p (ownT rates evs sg) → Q (.ref p) H'
section
variable {P : Program} {w : World} {K : PySem.W.Frag} {mg : Str → Option Value} {base : Heap} {t : Adr}
theorem ok_own_bounds (T : Txt K mg t) : FnOk P w K mg base CX0 5 t.f_own_bounds t.d_own_bounds ["rates", "events", "signals"] (spOwn t) := by
  refine T.F_own_bounds.ok sc_own_bounds (fun vs H Q E h => ?_) (fun cdv A outer s H vs Q E hr h => ?_)
  · obtain ⟨_, _, _, _, _, _, rfl, _⟩ := h
    rfl
  · obtain ⟨ra, la, sa, rates, evs, sg, rfl, h1, h2, h3, h4, h5, h6, k⟩ := h
    obtain ⟨xs, e1, e2, e3⟩ := h5.ex
    refine ⟨_, (pss_cons (ps_set (i := 3) sc_own_bounds.nd rfl (Or.inl rfl) (pe_call (ok_own_clock_bounds T) hr rfl T.m_own_clock_bounds T.F_own_clock_bounds.kp T.b_own_clock_bounds .nil pass0 (pa_cons (pv 0) (pa_cons (pv 1) pa_nil)))) (pss_cons (ps_for PassesOwn.never rfl (pi_list (pv 2)) (pg_name (i := 4) sc_own_bounds.nd rfl (Or.inl rfl)) (pss_cons (ps_set (i := 5) sc_own_bounds.nd rfl (Or.inl rfl) (pe_ix (ixL (K := K) rfl) (pe_ix (ixL (K := K) rfl) (pv 3) (pe_fldK (K := K) rfl (pv 4) rfl) (fun _ _ => rfl)) (pe_fldK (K := K) rfl (pv 4) rfl) (fun _ _ => rfl))) (pss_cons (ps_set (i := 6) sc_own_bounds.nd rfl (Or.inl rfl) (pe_ix (ixL (K := K) rfl) (pe_ix (ixL (K := K) rfl) (pv 3) (pe_fldK (K := K) rfl (pv 4) rfl) (fun _ _ => rfl)) (pe_fldK (K := K) rfl (pv 4) rfl) (fun _ _ => rfl))) (pss_cons (ps_asg (pe_call (ok_bound_least T) (hr.mono (by decide)) rfl T.m_bound_least T.F_bound_least.kp T.b_bound_least .nil pass0 (pa_cons (pv 5) (pa_cons (pe_fldK (K := K) rfl (pv 4) rfl) pa_nil))) (pg_sub (pe_ix (ixL (K := K) rfl) (pv 3) (pe_fldK (K := K) rfl (pv 4) rfl) (fun _ _ => rfl)) (pe_fldK (K := K) rfl (pv 4) rfl) set_list)) (pss_one (ps_asg (pe_call (ok_bound_least T) (hr.mono (by decide)) rfl T.m_bound_least T.F_bound_least.kp T.b_bound_least .nil pass0 (pa_cons (pv 6) (pa_cons (pe_un un_neg (pe_fldK (K := K) rfl (pv 4) rfl)) pa_nil))) (pg_sub (pe_ix (ixL (K := K) rfl) (pv 3) (pe_fldK (K := K) rfl (pv 4) rfl) (fun _ _ => rfl)) (pe_fldK (K := K) rfl (pv 4) rfl) set_list))))))) (pss_one (ps_ret (pv 3))))), ?_⟩
    refine ⟨_, rfl, _, rfl, ra, la, rates, evs, rfl, h1, h2, h3, h4, fun H1 oa s1 o1 => ?_⟩
    refine ⟨_, rfl, sa, rfl, ⟨_, SqL.of (s1 _ _ e1)⟩, for_list (K := K) (a := sa) (xs := xs.map V.ref) (fun i σ H2 => ∃ v4 v5 v6 : Option V, σ = [some (.ref ra), some (.ref la), some (.ref sa), some (.ref oa), v4, v5, v6] ∧ Same H H2 ∧ OwnAt H H2 oa ((sg.take i).foldl ownStep (clockT0 rates evs)))
      ⟨none, none, none, rfl, s1, o1⟩ (fun i σ H2 _ p => let ⟨_, _, _, _, sm, _⟩ := p; SqL.of (sm _ _ e1)) (fun i x σ H2 hx p => ?_) (fun σ H2 p => ?_)⟩
    · obtain ⟨v4, v5, v6, rfl, sm, o2⟩ := p
      obtain ⟨c, hc, rfl⟩ := ref_at hx
      have hi : i < sg.length := by rw [← e2]; exact (List.getElem?_eq_some_iff.mp hc).1
      have hl : sg[i]? = some sg[i] := List.getElem?_eq_getElem hi
      obtain ⟨c', hc', hsg⟩ := e3 i _ hl
      rw [hc] at hc'
      cases hc'
      obtain ⟨hf, ht, hne⟩ := h6 _ (List.getElem_mem hi)
      have step : (sg.take (i + 1)).foldl ownStep (clockT0 rates evs) = ownStep ((sg.take i).foldl ownStep (clockT0 rates evs)) sg[i] := by
        rw [List.take_add_one, hl, List.foldl_append]
        rfl
      rw [step]
      have sq : Sq evs.length ((sg.take i).foldl ownStep (clockT0 rates evs)) := own_fold_sq _ (clockT0_sq rates evs) fun x hx => h6 x (List.mem_of_mem_take hx)
      generalize (sg.take i).foldl ownStep (clockT0 rates evs) = tb at o2 sq ⊢
      generalize sg[i] = x at hsg hf ht hne ⊢
      obtain ⟨dy, hx⟩ := hsg
      have hx2 := sm _ _ hx
      obtain ⟨as, p, r, q1, q2, q3, q4, q5, q6⟩ := o2.at_ sq hf ht sm
      obtain ⟨as', p', r', q1', q2', q3', q4', q5', _⟩ := o2.at_ sq ht hf sm
      refine ⟨_, rfl, _, rfl, c, _, dy, _, _, rfl, hx2, T.cl_Signal, T.n_Signal_first, rfl, oa, _, _, _, rfl, rfl, SqL.of q1, at_of (j := x.from_) rfl q2, _, rfl, c, _, dy, _, _, rfl, hx2, T.cl_Signal, T.n_Signal_second, rfl, p, _, _, _, rfl, rfl, SqL.of q3, at_of (j := x.to_) rfl q5, ?_⟩
      refine ⟨_, rfl, _, rfl, c, _, dy, _, _, rfl, hx2, T.cl_Signal, T.n_Signal_second, rfl, oa, _, _, _, rfl, rfl, SqL.of q1', at_of (j := x.to_) rfl q2', _, rfl, c, _, dy, _, _, rfl, hx2, T.cl_Signal, T.n_Signal_first, rfl, p', _, _, _, rfl, rfl, SqL.of q3', at_of (j := x.from_) rfl q5', ?_⟩
      refine ⟨_, rfl, _, rfl, c, _, dy, _, _, rfl, hx2, T.cl_Signal, T.n_Signal_most, rfl, _, some (x.most : Int), rfl, ?_⟩
      refine ⟨_, rfl, _, rfl, c, _, dy, _, _, rfl, hx2, T.cl_Signal, T.n_Signal_first, rfl, oa, _, _, _, rfl, rfl, SqL.of q1, at_of (j := x.from_) rfl q2, _, rfl, c, _, dy, _, _, rfl, hx2, T.cl_Signal, T.n_Signal_second, rfl, p, _, _, x.to_, rfl, rfl, q3, ixN_nat (by rw [List.length_map]; omega), ?_⟩
      obtain ⟨s3, o3⟩ := q6 (Sy35.lesser (Sy35.entry tb x.from_ x.to_) (some (x.most : Int)))
      generalize upd H2 p _ = H3 at s3 o3 ⊢
      have sq3 : Sq evs.length (setE tb x.from_ x.to_ (Sy35.lesser (Sy35.entry tb x.from_ x.to_) (some (x.most : Int)))) := setE_sq sq hf
      have hx3 := s3 _ _ hx
      obtain ⟨bs, b, rb, w1, w2, w3, w4, w5, w6⟩ := o3.at_ sq3 ht hf s3
      refine ⟨_, rfl, _, rfl, c, _, dy, _, _, rfl, hx3, T.cl_Signal, T.n_Signal_least, rfl, _, rfl, _, some (-(x.least : Int)), rfl, ?_⟩
      refine ⟨_, rfl, _, rfl, c, _, dy, _, _, rfl, hx3, T.cl_Signal, T.n_Signal_second, rfl, oa, _, _, _, rfl, rfl, SqL.of w1, at_of (j := x.to_) rfl w2, _, rfl, c, _, dy, _, _, rfl, hx3, T.cl_Signal, T.n_Signal_first, rfl, b, _, _, x.from_, rfl, rfl, w3, ixN_nat (by rw [List.length_map]; omega), ?_⟩
      obtain ⟨s4, o4⟩ := w6 (Sy35.lesser (Sy35.entry tb x.to_ x.from_) (some (-(x.least : Int))))
      exact ⟨_, _, _, rfl, s4, o4⟩
    · obtain ⟨v4, v5, v6, rfl, sm, o2⟩ := p
      rw [List.length_map, e2, List.take_length] at o2
      exact ⟨_, rfl, k _ _ sm o2⟩
end
end Ck
namespace Ck
open PySem PySem.Spec PyProof.Rows L2
theorem bV_inj {a b : Sy35.Bound} (h : bV a = bV b) : a = b := by
  cases a with
  | none => cases b with
    | none => rfl
    | some y => cases h
  | some x => cases b with
    | none => cases h
    | some y => injection h with h; rw [h]
theorem bV_scal2 {a b : Sy35.Bound} : scal (bV a) (bV b) = true := by cases a <;> cases b <;> rfl
theorem bV_dec2 {a b : Sy35.Bound} : decide (bV a = bV b) = decide (a = b) := by
  by_cases z : a = b
  · rw [decide_eq_true z, decide_eq_true (by rw [z])]
  · rw [decide_eq_false z, decide_eq_false (fun q => z (bV_inj q))]
def spLeads : Sp := fun vs H Q _ => ∃ (S S' : Addr → Prop) (oa ta : Addr) (n : Nat) (own tb : Sy35.Table) (i j f : Nat), vs = [.ref oa, .ref ta, nV i, nV j, nV f] ∧ TabAt S H oa own ∧ TabAt S' H ta tb ∧ Sq n own ∧ Sq n tb ∧ i < n ∧ j < n ∧ f < n ∧
  Q (.bl (decide (Sy35.sum (Sy35.entry own i j) (Sy35.entry tb j f) = Sy35.entry tb i f))) H
def spBRow : Sp := fun vs H Q _ => ∃ (S S' : Addr → Prop) (oa ta : Addr) (n : Nat) (own tb : Sy35.Table) (i f d : Nat) (z : Int) (R : List Nat), vs = [.ref oa, .ref ta, nV i, nV f] ∧ TabAt S H oa own ∧ TabAt S' H ta tb ∧ Sq n own ∧ Sq n tb ∧ n ≤ 100 ∧ i < n ∧ f < n ∧
  Sy35.entry tb i f = some z ∧ RowD (tightB (Sy35.entry own) tb f) n f d i R ∧ ∀ (H' : Hp) (p : Addr), Same H H' → IntsAt H' p R → Q (.ref p) H'
theorem pre_fin {own tb : Sy35.Table} {n f i0 : Nat} {q : List Nat} (h : Pre (tightB (Sy35.entry own) tb f) n i0 q) : ∀ {z : Int}, Sy35.entry tb i0 f = some z → ∃ z, Sy35.entry tb (la q) f = some z := by
  induction h with
  | one => intro z e; exact ⟨z, e⟩
  | @snoc q y h hl e ih =>
    intro z _
    rw [la_snoc]
    obtain ⟨_, x, y', z', _, e2, _, _⟩ := tightB_iff.mp e
    exact ⟨y', e2⟩
theorem leads_tight {own tb : Sy35.Table} {f i j : Nat} {z : Int} (hz : Sy35.entry tb i f = some z) (hij : i ≠ j) : decide (Sy35.sum (Sy35.entry own i j) (Sy35.entry tb j f) = Sy35.entry tb i f) = tightB (Sy35.entry own) tb f i j := by
  rw [Bool.eq_iff_iff, decide_eq_true_iff, tightB_iff, hz]
  constructor
  · intro h
    refine ⟨hij, ?_⟩
    cases e1 : Sy35.entry own i j with
    | none => rw [e1] at h; cases h
    | some x =>
      cases e2 : Sy35.entry tb j f with
      | none => rw [e1, e2] at h; cases h
      | some y =>
        rw [e1, e2] at h
        exact ⟨x, y, z, rfl, rfl, rfl, Option.some.inj h⟩
  · rintro ⟨_, x, y, z', e1, e2, e3, e4⟩
    rw [e1, e2]
    cases e3
    exact congrArg some e4
theorem at_last {r : List Nat} (h : 0 < r.length) : atI (r.map nV) (-1) = some (nV (la r)) := by
  obtain ⟨s, x, rfl⟩ : ∃ s x, r = s ++ [x] := ⟨r.dropLast, r.getLast (fun e => by rw [e] at h; cases h), (List.dropLast_concat_getLast _).symm⟩
  rw [List.map_append, la_snoc]
  exact atI_last _ _
structure Bq (H0 H : Hp) (ra sd : Addr) (rows : List (List Nat)) : Prop where
  same : Same H0 H
  nra : H0 ra = none
  nsd : H0 sd = none
  rws : ObjsAt IntsAt H ra rows
  pos : ∀ r ∈ rows, 0 < r.length
  seen : ∃ kvs : List (Key × V), H sd = some (.dK kvs) ∧ kvs.length ≤ rows.length ∧ ∀ y : Nat, (valV kvs (Sum.inl (y : Int))).isSome = (rows.map la).contains y
theorem ints_stays : Stays IntsAt := fun _ _ _ _ s h => s _ _ h
theorem ints_ne {H : Hp} {x D : Addr} {r : List Nat} {bs : List V} (h : IntsAt H x r) (hD : H D = some (.lst bs)) (hb : ∀ v ∈ bs, ∃ a, v = V.ref a) (hr : 0 < r.length) : x ≠ D := fun e => by
  subst e
  have z := h.symm.trans hD
  injection z with z
  injection z with z
  match r, hr with
  | b :: _, _ =>
    obtain ⟨a, q⟩ := hb (nV b) (by rw [← z]; exact List.mem_cons_self ..)
    cases q
theorem Bq.put {H0 H H2 : Hp} {ra sd l : Addr} {rows : List (List Nat)} {kvs : List (Key × V)} {as : List Addr} {r : List Nat} (B : Bq H0 H ra sd rows) (hk : H sd = some (.dK kvs)) (hkl : kvs.length ≤ rows.length) (hks : ∀ y : Nat, (valV kvs (Sum.inl (y : Int))).isSome = (rows.map la).contains y)
    (s2 : Same (upd H sd (.dK (putK kvs (Sum.inl ((la r : Nat) : Int)) (.bl true)))) H2) (hr : H2 l = some (.lst (r.map nV))) (hp : 0 < r.length) (ha : H ra = some (.lst (as.map V.ref))) :
    Bq H0 (upd H2 ra (.lst (as.map V.ref ++ [V.ref l]))) ra sd (rows ++ [r]) := by
  have nrs : ra ≠ sd := ne_of ha hk (by intro z; cases z)
  have ha2 : H2 ra = some (.lst (as.map V.ref)) := s2 _ _ (by rw [upd_ne nrs]; exact ha)
  have hk2 := s2 _ _ (upd_same (H := H) (a := sd))
  obtain ⟨as', e1, e2, e3⟩ := B.rws.ex
  have q : as' = as := by
    rw [ha] at e1
    injection e1 with e1
    injection e1 with e1
    exact (List.map_inj_right (fun a b z => by injection z)).mp e1.symm
  subst q
  refine ⟨fun b o hb => ?_, B.nra, B.nsd, ⟨as' ++ [l], by rw [upd_same, List.map_append]; rfl, by rw [List.length_append, List.length_append, e2]; rfl, fun i x hx => ?_⟩, fun x hx => ?_, _, by rw [upd_ne (Ne.symm nrs)]; exact hk2, ?_, fun y => ?_⟩
  · rw [upd_ne (ne_of_none hb B.nra)]
    exact s2 _ _ (by rw [upd_ne (ne_of_none hb B.nsd)]; exact B.same _ _ hb)
  · have keep : ∀ {p : Addr} {x : List Nat}, IntsAt H2 p x → 0 < x.length → IntsAt (upd H2 ra (.lst (as'.map V.ref ++ [V.ref l]))) p x := fun {p x} q hx => by
      show upd H2 ra _ p = _
      rw [upd_ne (ints_ne q ha2 refs_all hx)]
      exact q
    by_cases hi : i < rows.length
    · rw [List.getElem?_append_left hi] at hx
      obtain ⟨p, p1, p2⟩ := e3 i x hx
      refine ⟨p, by rw [List.getElem?_append_left (by omega)]; exact p1, keep (s2 _ _ ?_) (B.pos x (List.mem_of_getElem? hx))⟩
      rw [upd_ne (ne_of p2 hk (by intro z; cases z))]
      exact p2
    · have ei : i = rows.length := by
        have := (List.getElem?_eq_some_iff.mp hx).1
        rw [List.length_append] at this
        simp at this
        omega
      subst ei
      rw [List.getElem?_append_right (Nat.le_refl _)] at hx
      simp at hx
      subst hx
      exact ⟨l, by rw [List.getElem?_append_right (by omega), e2]; simp, keep hr hp⟩
  · rcases List.mem_append.mp hx with z | z
    · exact B.pos x z
    · rw [List.mem_singleton.mp z]; exact hp
  · have := length_putK kvs (Sum.inl ((la r : Nat) : Int)) (.bl true)
    rw [List.length_append]
    show _ ≤ rows.length + 1
    omega
  · rw [valV_put, List.map_append, Bool.eq_iff_iff, List.contains_iff_mem, List.mem_append]
    have h0 := hks y
    rw [Bool.eq_iff_iff, List.contains_iff_mem] at h0
    by_cases z : y = la r
    · rw [if_pos (by rw [z])]
      exact ⟨fun _ => .inr (by rw [z]; simp), fun _ => rfl⟩
    · rw [if_neg (fun q => z (by injection q with q; omega)), h0]
      exact ⟨fun q => .inl q, fun q => q.elim id fun q => absurd (by simpa using q) z⟩
section
variable {P : Program} {w : World} {K : PySem.W.Frag} {mg : Str → Option Value} {base : Heap} {t : Adr}
theorem ok_leads_on (T : Txt K mg t) : FnOk P w K mg base CX0 2 t.f_leads_on t.d_leads_on ["own", "table", "here", "onward", "end"] spLeads := by
  refine T.F_leads_on.ok sc_leads_on (fun vs H Q E h => ?_) (fun cdv A outer s H vs Q E hr h => ?_)
  · obtain ⟨_, _, _, _, _, _, _, _, _, _, rfl, _⟩ := h
    rfl
  · obtain ⟨S, S', oa, ta, n, own, tb, i, j, f, rfl, h1, h2, h3, h4, hi, hj, hf, k⟩ := h
    obtain ⟨as, p, rs, q1, q2, q3, q4⟩ := h1.get h3 hi hj
    obtain ⟨bs, b, rb, w1, w2, w3, w4⟩ := h2.get h4 hj hf
    obtain ⟨cs, c, rc, v1, v2, v3, v4⟩ := h2.get h4 hi hf
    refine ⟨_, (pss_one (ps_ret (pe_cmpR op_eq (pe_call (ok_bound_sum T) hr rfl T.m_bound_sum T.F_bound_sum.kp T.b_bound_sum .nil pass0 (pa_cons (pe_ix (ixL (K := K) rfl) (pe_ix (ixL (K := K) rfl) (pv 0) (pv 2) (fun _ _ => rfl)) (pv 3) (fun _ _ => rfl)) (pa_cons (pe_ix (ixL (K := K) rfl) (pe_ix (ixL (K := K) rfl) (pv 1) (pv 3) (fun _ _ => rfl)) (pv 4) (fun _ _ => rfl)) pa_nil))) (pe_ix (ixL (K := K) rfl) (pe_ix (ixL (K := K) rfl) (pv 1) (pv 2) (fun _ _ => rfl)) (pv 4) (fun _ _ => rfl)) (nomark _)))), ?_⟩
    refine ⟨_, rfl, _, rfl, oa, _, _, _, rfl, rfl, SqL.of q1, at_of (j := i) rfl q2, _, rfl, p, _, _, _, rfl, rfl, SqL.of q3, at_of (j := j) rfl q4, _, rfl, _, rfl, ta, _, _, _, rfl, rfl, SqL.of w1, at_of (j := j) rfl w2, _, rfl, b, _, _, _, rfl, rfl, SqL.of w3, at_of (j := f) rfl w4, _, _, rfl, ?_⟩
    refine ⟨_, rfl, _, rfl, ta, _, _, _, rfl, rfl, SqL.of v1, at_of (j := i) rfl v2, _, rfl, c, _, _, _, rfl, rfl, SqL.of v3, at_of (j := f) rfl v4, bV_scal2, ?_⟩
    rw [bV_dec2]
    exact k
theorem ok_bound_row (T : Txt K mg t) : FnOk P w K mg base CX0 3 t.f_bound_row t.d_bound_row ["own", "table", "start", "end"] spBRow := by
  refine T.F_bound_row.ok sc_bound_row (fun vs H Q E h => ?_) (fun cdv A outer s H vs Q E hr h => ?_)
  · obtain ⟨_, _, _, _, _, _, _, _, _, _, _, _, rfl, _⟩ := h
    rfl
  · obtain ⟨S, S', oa, ta, n, own, tb, i0, f, d, z, R, rfl, h1, h2, h3, h4, hn, hi, hf, hz, hR, k⟩ := h
    obtain ⟨oas, oe1, oe2, oe3⟩ := h1.ex
    have ol : oas.length = n := by rw [oe2]; exact h3.len
    refine ⟨_, (pss_cons (ps_set (i := 4) sc_bound_row.nd rfl (Or.inl rfl) (pe_lst (pa_cons (pe_lst (pa_cons (pv 2) pa_nil)) pa_nil))) (pss_cons (ps_set (i := 5) sc_bound_row.nd rfl (Or.inl rfl) (pe_disp (pps_cons (pv 2) pe_bl pps_nil) rfl rfl (by intro z; cases z) (by decide))) (pss_cons (ps_set (i := 6) sc_bound_row.nd rfl (Or.inl rfl) pe_int) (pss_cons (ps_while PassesOwn.never (pt_cmp (pc_neI (pe_ix (ixL (K := K) rfl) (pe_ix (ixL (K := K) rfl) (pv 4) (pv 6) (fun _ _ => rfl)) (pe_un un_neg pe_int) (fun _ _ => rfl)) (pv 3))) (pss_cons (ps_set (i := 7) sc_bound_row.nd rfl (Or.inl rfl) (pe_ix (ixL (K := K) rfl) (pe_ix (ixL (K := K) rfl) (pv 4) (pv 6) (fun _ _ => rfl)) (pe_un un_neg pe_int) (fun _ _ => rfl))) (pss_cons (ps_for PassesOwn.never rfl (pi_range1 rfl T.z_range (pa_cons (pe_callB (call_lenK (K := K) rfl) (by rfl) T.z_len PySem.boot_len (pa_cons (pv 0) pa_nil)) pa_nil)) (pg_name (i := 8) sc_bound_row.nd rfl (Or.inl rfl)) (pss_one (ps_if (PW.pt (pw_and (pt_cmp (pc_dnotin (hu_of hr) (pv 8) (pv 5))) (pw_and1 (pt_val (pe_call (ok_leads_on T) hr rfl T.m_leads_on T.F_leads_on.kp T.b_leads_on .nil pass0 (pa_cons (pv 0) (pa_cons (pv 1) (pa_cons (pv 7) (pa_cons (pv 8) (pa_cons (pv 3) pa_nil)))))))))) (pss_cons (ps_dput (hu_of hr) (pv 5) (pv 8) pe_bl rfl) (pss_one (ps_expr (pe_bm PySem.F.plainAttrs_list PySem.F.slot_list_append PySem.F.type_list_append mt_append (pv 4) (pa_cons (pe_op op_cat (pe_ix (ixL (K := K) rfl) (pv 4) (pv 6) (fun _ _ => rfl)) (pe_lst (pa_cons (pv 8) pa_nil))) pa_nil))))) pss_nil))) (pss_one (ps_set (i := 6) sc_bound_row.nd rfl (Or.inl rfl) (pe_op op_add (pv 6) pe_int)))))) (pss_one (ps_ret (pe_ix (ixL (K := K) rfl) (pv 4) (pv 6) (fun _ _ => rfl)))))))), ?_⟩
    refine ⟨_, rfl, one_fits, fun l0 f0 => ⟨one_fits, fun ra fa => ?_⟩⟩
    have sa : Same H (upd (upd H l0 (.lst [nV i0])) ra (.lst [V.ref l0])) := (Same.new f0).trans (Same.new fa)
    refine fun sd fd => ⟨_, rfl, upd_same, [(Sum.inl ((i0 : Nat) : Int), V.bl true)], rfl, by show 1 ≤ 15; decide, ?_⟩
    rw [upd_upd]
    have nra : H ra = none := (Same.new f0).free fa
    have start : Bq H (upd (upd (upd H l0 (.lst [nV i0])) ra (.lst [V.ref l0])) sd (.dK (mergeK [] [(Sum.inl ((i0 : Nat) : Int), V.bl true)]))) ra sd [[i0]] := by
      have n1 : ra ≠ sd := ne_of_none upd_same fd
      have n2 : l0 ≠ ra := ne_of_none upd_same fa
      have n3 : l0 ≠ sd := ne_of_none (by rw [upd_ne n2]; exact upd_same) fd
      refine ⟨sa.trans (Same.new fd), nra, sa.free fd, ⟨[l0], by rw [upd_ne n1]; exact upd_same, rfl, fun i r hr => ?_⟩, fun r hr => ?_, _, upd_same, Nat.le_refl _, fun y => ?_⟩
      · cases i with
        | zero =>
          cases hr
          refine ⟨l0, rfl, ?_⟩
          show upd _ sd _ l0 = _
          rw [upd_ne n3, upd_ne n2]; exact upd_same
        | succ i => simp at hr
      · rw [List.mem_singleton.mp hr]; exact Nat.zero_lt_one
      · show (valV (putK [] (Sum.inl ((i0 : Nat) : Int)) (V.bl true)) (Sum.inl (y : Int))).isSome = _
        rw [valV_put, Bool.eq_iff_iff, List.contains_iff_mem]
        by_cases q : y = i0
        · rw [if_pos (by rw [q])]
          exact ⟨fun _ => by rw [q]; exact List.mem_cons_self .., fun _ => rfl⟩
        · rw [if_neg (fun z => q (by injection z with z; omega))]
          exact ⟨fun z => (by cases z), fun z => absurd (List.mem_singleton.mp z) q⟩
    refine ⟨fun m σ H2 => ∃ (rows : List (List Nat)) (at_ : Nat) (v7 v8 : Option V), σ = [some (.ref oa), some (.ref ta), some (nV i0), some (nV f), some (.ref ra), some (.ref sd), some (nV at_), v7, v8] ∧ m = n - at_ ∧ Bfs (tightB (Sy35.entry own) tb f) n f i0 R rows at_ ∧ Bq H H2 ra sd rows,
      ⟨n, [[i0]], 0, none, none, rfl, rfl, bfs_start hR hi, start⟩, fun m σ H2 L => ?_⟩
    obtain ⟨rows, at_, v7, v8, rfl, rfl, B, Z⟩ := L
    have hat := bfs_more hR hf B
    have hfew := bfs_few B
    have hq : rows[at_]? = some rows[at_] := List.getElem?_eq_getElem hat
    generalize rows[at_] = q at hq
    obtain ⟨as, e1, e2, e3⟩ := Z.rws.ex
    obtain ⟨xq, x1, x2⟩ := e3 at_ q hq
    have qpos := Z.pos q (List.mem_of_getElem? hq)
    refine ⟨_, rfl, _, rfl, ra, _, _, _, rfl, rfl, SqL.of e1, at_of (j := at_) rfl (at_ref x1), _, rfl, xq, _, _, _, rfl, rfl, SqL.of x2, at_last qpos, _, rfl, _, _, rfl, rfl, _, rfl, ite2 (fun h => ?_) (fun h => ?_)⟩
    · have hqf : la q ≠ f := by simp at h; omega
      refine ⟨fun σ' H' => ∃ m', m' < n - at_ ∧ ∃ (rows : List (List Nat)) (at_ : Nat) (v7 v8 : Option V), σ' = [some (.ref oa), some (.ref ta), some (nV i0), some (nV f), some (.ref ra), some (.ref sd), some (nV at_), v7, v8] ∧ m' = n - at_ ∧ Bfs (tightB (Sy35.entry own) tb f) n f i0 R rows at_ ∧ Bq H H' ra sd rows, fun σ' H' q => q, ?_⟩
      refine ⟨_, rfl, _, rfl, ra, _, _, _, rfl, rfl, SqL.of e1, at_of (j := at_) rfl (at_ref x1), _, rfl, xq, _, _, _, rfl, rfl, SqL.of x2, at_last qpos, ?_⟩
      have hql : la q < n := B.lt q (List.mem_of_getElem? hq)
      obtain ⟨zq, hzq⟩ := pre_fin (B.pre q (List.mem_of_getElem? hq)) hz
      have hmq : la q ∈ rows.map la := List.mem_map.mpr ⟨q, List.mem_of_getElem? hq, rfl⟩
      refine ⟨_, rfl, oa, _, rfl, .inl (SqL.of (Z.same _ _ oe1)), _, rfl, (by omega), (by rw [List.length_map]; omega), for_range (fun i σ H3 => ∃ v8 : Option V, σ = [some (.ref oa), some (.ref ta), some (nV i0), some (nV f), some (.ref ra), some (.ref sd), some (nV at_), some (nV (la q)), v8] ∧ Bq H H3 ra sd (rows ++ (found (tightB (Sy35.entry own) tb f) rows q (List.range i)).map fun y => q ++ [y]))
        ⟨v8, rfl, by simp [found]; exact Z⟩ (fun i σ H3 hil p => ?_) (fun σ H3 p => ?_)⟩
      · obtain ⟨v8, rfl, Y⟩ := p
        have hin : i < n := by
          have := hil
          rw [List.length_map, ol] at this
          omega
        rw [Int.zero_add]
        have more : found (tightB (Sy35.entry own) tb f) rows q (List.range (i + 1)) = found (tightB (Sy35.entry own) tb f) rows q (List.range i) ++ (if (!(rows.map la).contains i && tightB (Sy35.entry own) tb f (la q) i) = true then [i] else []) := by
          unfold found
          rw [List.range_succ, List.filter_append]
          congr 1
          rw [List.filter_cons, List.filter_nil]
        obtain ⟨kvs, k1, k2, k3⟩ := Y.seen
        have hcont : ((rows ++ (found (tightB (Sy35.entry own) tb f) rows q (List.range i)).map fun y => q ++ [y]).map la).contains i = (rows.map la).contains i := by
          rw [Bool.eq_iff_iff, List.contains_iff_mem, List.contains_iff_mem, List.map_append, List.mem_append]
          refine ⟨fun z => z.elim id fun z => ?_, .inl⟩
          rw [List.map_map] at z
          obtain ⟨y, hy, e⟩ := List.mem_map.mp z
          have e : la (q ++ [y]) = i := e
          rw [la_snoc] at e
          subst e
          unfold found at hy
          have := List.mem_range.mp (List.mem_filter.mp hy).1
          omega
        refine ⟨_, rfl, _, rfl, sd, _, rfl, DGet.k (k := Sum.inl ((i : Nat) : Int)) k1, _, rfl, ite2 (fun hnew => ?_) (fun hold => ?_)⟩
        · have hni : ¬ i ∈ rows.map la := by
            rw [k3 i, hcont] at hnew
            intro z
            rw [List.contains_iff_mem.mpr z] at hnew
            cases hnew
          have hne : la q ≠ i := fun e => hni (by rw [← e]; exact hmq)
          refine ⟨_, rfl, _, rfl, _, rfl, _, rfl, _, rfl, S, S', oa, ta, n, own, tb, la q, i, f, rfl, h1.same Y.same, h2.same Y.same, h3, h4, hql, hin, hf, _, rfl, ite2 (fun hE => ?_) (fun hE => ?_)⟩
          · rw [leads_tight hzq hne] at hE
            rw [more, if_pos (by rw [hE, Bool.and_true, Bool.not_eq_true', ← Bool.not_eq_true, List.contains_iff_mem]; exact hni), List.map_append, ← List.append_assoc]
            have lim : (rows ++ (found (tightB (Sy35.entry own) tb f) rows q (List.range i)).map fun y => q ++ [y]).length ≤ 200 := by
              rw [List.length_append, List.length_map]
              unfold found
              have := List.length_filter_le (fun y => !(rows.map la).contains y && tightB (Sy35.entry own) tb f (la q) y) (List.range i)
              rw [List.length_range] at this
              omega
            refine ⟨_, rfl, _, rfl, sd, _, rfl, DPut.k (k := Sum.inl ((i : Nat) : Int)) k1 (small_line (by omega)), ?_⟩
            obtain ⟨bs, b1, b2, b3⟩ := Y.rws.ex
            have hqi : (rows ++ (found (tightB (Sy35.entry own) tb f) rows q (List.range i)).map fun y => q ++ [y])[at_]? = some q := by
              rw [List.getElem?_append_left hat]; exact hq
            obtain ⟨yq, y1, y2⟩ := b3 at_ q hqi
            have nrs : ra ≠ sd := ne_of b1 k1 (by intro z; cases z)
            have nys : yq ≠ sd := ne_of y2 k1 (by intro z; cases z)
            have r4 : upd H3 sd (.dK (putK kvs (Sum.inl ((i : Nat) : Int)) (.bl true))) ra = some (.lst (bs.map V.ref)) := by rw [upd_ne nrs]; exact b1
            have y4 : upd H3 sd (.dK (putK kvs (Sum.inl ((i : Nat) : Int)) (.bl true))) yq = some (.lst (q.map nV)) := by rw [upd_ne nys]; exact y2
            refine ⟨_, rfl, .inl ⟨rfl, _, SqL.of r4⟩, _, rfl, _, rfl, ra, _, _, _, rfl, rfl, SqL.of r4, at_of (j := at_) rfl (at_ref y1), _, rfl, one_fits, fun l1 f1 => ⟨yq, l1, _, _, rfl, rfl, Same.new f1 _ _ y4, upd_same, line_big ?_, fun l2 f2 => ⟨ra, _, _, rfl, rfl, Same.new f2 _ _ (Same.new f1 _ _ r4), ?_, ?_⟩⟩⟩
            · have hqd := B.len at_ q hq
              simp
              omega
            · rw [List.length_map, b2]; exact small_line (by omega)
            · refine ⟨_, rfl, ?_⟩
              have e : q.map nV ++ [nV i] = (q ++ [i]).map nV := by rw [List.map_append]; rfl
              rw [e]
              refine Y.put (l := l2) (r := q ++ [i]) k1 k2 k3 ?_ upd_same ?_ b1
              · rw [la_snoc]
                exact (Same.new f1).trans (Same.new f2)
              · rw [List.length_append]; exact Nat.succ_pos _
          · rw [leads_tight hzq hne] at hE
            rw [more, if_neg (by rw [Bool.and_eq_true]; exact fun z => hE z.2), List.append_nil]
            exact ⟨_, rfl, Y⟩
        · have hni : (rows.map la).contains i = true := by
            rw [k3 i, hcont] at hold
            cases e : (rows.map la).contains i with
            | true => rfl
            | false => rw [e] at hold; exact absurd rfl hold
          rw [more, if_neg (by rw [hni]; exact fun z => by cases z), List.append_nil]
          exact iteF ⟨_, rfl, Y⟩
      · obtain ⟨v8, rfl, Y⟩ := p
        rw [List.length_map, ol] at Y
        refine ⟨_, rfl, _, _, rfl, rfl, n - (at_ + 1), by omega, _, at_ + 1, _, _, rfl, rfl, bfs_step hR hf B hq hqf, Y⟩
    · have hqf : la q = f := by simp at h; omega
      refine ⟨_, rfl, _, rfl, ra, _, _, _, rfl, rfl, SqL.of e1, at_of (j := at_) rfl (at_ref x1), k H2 xq Z.same ?_⟩
      rw [← bfs_end hR B hq hqf]
      exact x2
end
end Ck
namespace Ck
theorem flat_put {A : Nat → List Nat} {x G' : Nat} : ∀ {G : Nat}, G' ≤ G → (∀ g, G' < g → A g = []) → (List.range (G + 1)).flatMap (fun g => A g ++ (if g = G' then [x] else [])) = (List.range (G + 1)).flatMap A ++ [x]
  | 0, h, hA => by
    have e : G' = 0 := by omega
    subst e
    simp
  | G + 1, h, hA => by
    rw [List.range_succ, List.flatMap_append, List.flatMap_append]
    by_cases e : G' = G + 1
    · subst e
      have q : (List.range (G + 1)).flatMap (fun g => A g ++ (if g = G + 1 then [x] else [])) = (List.range (G + 1)).flatMap A := by
        rw [List.flatMap_def, List.flatMap_def]
        congr 1
        refine List.map_congr_left fun g hg => ?_
        have := List.mem_range.mp hg
        rw [if_neg (by omega), List.append_nil]
      rw [q]
      simp
    · rw [flat_put (by omega) hA]
      have q : A (G + 1) = [] := hA _ (by omega)
      simp [q]
      omega
theorem flat_eras (p : Nat → Bool) (e : Nat → Nat) (G : Nat) : ∀ n, (∀ i j, i < j → j < n → p i = true → p j = true → e i ≤ e j) → (∀ i, i < n → p i = true → e i ≤ G) →
    (List.range (G + 1)).flatMap (fun g => (List.range n).filter fun i => p i && e i == g) = (List.range n).filter p
  | 0, _, _ => by
    rw [List.range_zero, List.filter_nil]
    simp
  | n + 1, h1, h2 => by
    have ih := flat_eras p e G n (fun i j a b => h1 i j a (by omega)) (fun i a => h2 i (by omega))
    have ef : ∀ g, (List.range (n + 1)).filter (fun i => p i && e i == g) = (List.range n).filter (fun i => p i && e i == g) ++ (if (p n && e n == g) = true then [n] else []) := fun g => by
      rw [List.range_succ, List.filter_append, List.filter_cons, List.filter_nil]
    have ep : (List.range (n + 1)).filter p = (List.range n).filter p ++ (if p n = true then [n] else []) := by
      rw [List.range_succ, List.filter_append, List.filter_cons, List.filter_nil]
    simp only [ef]
    rw [ep]
    cases hp : p n with
    | false =>
      simp only [Bool.false_and, Bool.false_eq_true, if_false, List.append_nil]
      exact ih
    | true =>
      simp only [Bool.true_and, if_true]
      have q : ∀ g, (if (e n == g) = true then [n] else []) = (if g = e n then [n] else []) := fun g => by
        by_cases z : g = e n
        · rw [if_pos z, if_pos (by rw [z]; simp)]
        · rw [if_neg z, if_neg (by simp; omega)]
      simp only [q]
      rw [flat_put (h2 n (by omega) hp) (fun g hg => ?_), ih]
      refine List.filter_eq_nil_iff.mpr fun i hi => ?_
      have hi := List.mem_range.mp hi
      intro z
      rw [Bool.and_eq_true] at z
      have := h1 i n hi (by omega) z.1 hp
      have := eq_of_beq z.2
      omega
theorem fm_get {α β : Type} {g : α → Option β} : ∀ (l : List α), (∀ x ∈ l, (g x).isSome = true) → (l.filterMap g).length = l.length ∧ ∀ m : Nat, (l.filterMap g)[m]? = (l[m]?).bind g
  | [], _ => ⟨rfl, fun m => by simp⟩
  | a :: l, h => by
    obtain ⟨h1, h2⟩ := fm_get l fun x hx => h x (List.mem_cons_of_mem _ hx)
    have ha := h a (List.mem_cons_self ..)
    cases e : g a with
    | none => rw [e] at ha; cases ha
    | some b =>
      rw [List.filterMap_cons, e]
      refine ⟨by simp [h1], fun m => ?_⟩
      cases m with
      | zero => simp [e]
      | succ m => simpa using h2 m
theorem order_cases {a b : Option Int} : (if (b.map fun x => -x) = some 0 ∧ a = some 0 then 3 else if ((b.map fun x => -x).any fun (x : Int) => decide (0 < x)) = true then 1 else if (a.any fun (x : Int) => decide (x < 0)) = true then 2 else 0 : Nat)
    = (if (b.any fun (x : Int) => decide (x < 0)) = true then 1 else if (a.any fun (x : Int) => decide (x < 0)) = true then 2 else if (decide (a = some 0) && decide (b = some 0)) = true then 3 else 0) := by
  cases a with
  | none => cases b with
    | none => simp
    | some y =>
      simp
  | some x => cases b with
    | none => simp
    | some y =>
      simp
      have e1 : (0 < -y) ↔ y < 0 := by omega
      have e2 : (-y = 0) ↔ y = 0 := by omega
      by_cases h1 : y < 0
      · rw [if_neg (by omega), if_pos h1, if_pos h1]
      · rw [if_neg h1, if_neg h1]
        by_cases h2 : x < 0
        · rw [if_neg (by omega), if_pos h2, if_pos h2]
        · rw [if_neg h2, if_neg h2]
          by_cases h3 : x = 0 ∧ y = 0
          · rw [if_pos ⟨by omega, h3.1⟩, if_pos h3]
          · rw [if_neg (by omega), if_neg h3]
open PySem PySem.Spec PyProof.Rows L2
theorem lc_enum {K : PySem.W.Frag} {a : Addr} {xs : List V} {g : TG} {tt : TT} {te : TE} {vs : List Nat} {σ : L2.St} {H1 : Hp} {D : Addr} {Qd : Hp → Prop} (Pv : Nat → Hp → Prop) (h0 : Pv 0 (upd H1 D (.lst []))) (hl : ∀ i H, i ≤ xs.length → Pv i H → SqL K H a xs)
    (hs : ∀ i x H T, xs[i]? = some x → Pv i H → H T = none → g (.ref T) (wipe σ vs) (upd H T (.tup [.int (i : Nat), x])) fun σ2 H2 => wipe σ2 vs = wipe σ vs ∧ tt σ2 H2 fun b H3 =>
      if b = true then te σ2 H3 fun y H4 => ∃ acc, H4 D = some (.lst acc) ∧ acc.length < sizeLine ∧ Pv (i + 1) (upd H4 D (.lst (acc ++ [y]))) else Pv (i + 1) H3) (hd : ∀ H, Pv xs.length H → Qd H) :
    ∃ W : Nat → Nat → Hp → Prop, (∃ m, W 0 m (upd H1 D (.lst []))) ∧ ∀ i m H, W i m H →
      ((Ite K a).stop i H ∧ Qd H) ∨ ((Ite K a).go i H ∧ ∃ Nx : Hp → Prop, (∀ H', Nx H' → ∃ m', m' < m ∧ W (i + 1) m' H') ∧ ∀ x H', (Ite K a).yld i H x H' → g x (wipe σ vs) H' fun σ2 H2 => wipe σ2 vs = wipe σ vs ∧ tt σ2 H2 fun b H3 =>
        if b = true then te σ2 H3 fun y H4 => ∃ acc, H4 D = some (.lst acc) ∧ acc.length < sizeLine ∧ Nx (upd H4 D (.lst (acc ++ [y]))) else Nx H3) := by
  refine ⟨fun i m H => m = xs.length - i ∧ i ≤ xs.length ∧ Pv i H, ⟨xs.length, by simp, Nat.zero_le _, h0⟩, ?_⟩
  rintro i m H ⟨rfl, hi, p⟩
  have q := hl i H hi p
  by_cases hlt : i < xs.length
  · refine .inr ⟨⟨xs, xs[i], q, by simp [hlt]⟩, Pv (i + 1), fun H' p' => ⟨xs.length - (i + 1), by omega, rfl, hlt, p'⟩, fun x H' y => ?_⟩
    obtain ⟨T, z, e, hT, e', y⟩ := y
    subst e e'
    exact hs i z _ T (y xs q) p hT
  · have e : i = xs.length := by omega
    subst e
    exact .inl ⟨⟨xs, q, Nat.le_refl _⟩, hd H p⟩
theorem entry_out {n : Nat} {t : Sy35.Table} (h : Sq n t) {i j : Nat} (hi : n ≤ i) : Sy35.entry t i j = none := by
  unfold Sy35.entry
  rw [List.getD_eq_getElem?_getD (l := t), List.getElem?_eq_none (by rw [h.len]; exact hi)]
  rfl
theorem tightB_congr {n : Nat} {own own' : Nat → Nat → Sy35.Bound} {t : Sy35.Table} {f : Nat} (h : Sq n t) (ho : ∀ i j, i < n → j < n → own i j = own' i j) : tightB own t f = tightB own' t f := by
  funext i j
  by_cases hi : i < n
  · by_cases hj : j < n
    · unfold tightB
      rw [ho i j hi hj]
    · rw [Bool.eq_iff_iff, tightB_iff, tightB_iff, entry_out h (i := j) (by omega)]
      exact ⟨fun ⟨_, _, _, _, _, z, _⟩ => (by cases z), fun ⟨_, _, _, _, _, z, _⟩ => (by cases z)⟩
  · rw [Bool.eq_iff_iff, tightB_iff, tightB_iff, entry_out h (i := i) (by omega)]
    exact ⟨fun ⟨_, _, _, _, _, _, z, _⟩ => (by cases z), fun ⟨_, _, _, _, _, _, z, _⟩ => (by cases z)⟩
def spRowBy (t : Adr) : Sp := fun vs H Q _ => ∃ (a ba dxb na ta : Addr) (s : RmS) (fp : List Addr) (u : Sy35.St) (k i f : Nat) (z : Int), vs = [.ref a, .ref ba, nV i, nV f] ∧ RmAt t H a s fp ∧ Gd s u ∧ H ba = some (.ins t.c_Belief dxb (blF (.ref na) (.ref ta))) ∧
  IntsAt H na (Sy35.upTo u k).1 ∧ TabAt (fun _ => True) H ta (Sy35.upTo u k).2 ∧ i < s.evs.length ∧ f < s.evs.length ∧ Sy35.entry (Sy35.upTo u k).2 i f = some z ∧ k ≤ s.sigs.length ∧
  ∀ (H' : Hp) (p : Addr), Same H H' → IntsAt H' p (Sy35.rowBy u (Sy35.upTo u k).1 (Sy35.upTo u k).2 i f) → 0 < (Sy35.rowBy u (Sy35.upTo u k).1 (Sy35.upTo u k).2 i f).length → (Sy35.rowBy u (Sy35.upTo u k).1 (Sy35.upTo u k).2 i f).length ≤ 24 → Q (.ref p) H'
def spOrder (t : Adr) : Sp := fun vs H Q _ => ∃ (a : Addr) (s : RmS) (fp : List Addr) (u : Sy35.St) (i j : Nat), vs = [.ref a, nV i, nV j] ∧ RmAt t H a s fp ∧ Gd s u ∧ Post t H Q a fp u (.order i j)
def spReason (t : Adr) : Sp := fun vs H Q _ => ∃ (a : Addr) (s : RmS) (fp : List Addr) (u : Sy35.St) (i j : Nat), vs = [.ref a, nV i, nV j] ∧ RmAt t H a s fp ∧ Gd s u ∧ Post t H Q a fp u (.reason i j)
def spAgainst (t : Adr) : Sp := fun vs H Q _ => ∃ (a : Addr) (s : RmS) (fp : List Addr) (u : Sy35.St) (n : Nat), vs = [.ref a, nV n] ∧ RmAt t H a s fp ∧ Gd s u ∧ Post t H Q a fp u (.against n)
def spOf (t : Adr) : Sp := fun vs H Q _ => ∃ (a : Addr) (s : RmS) (fp : List Addr) (u : Sy35.St) (c : Nat), vs = [.ref a, nV c] ∧ RmAt t H a s fp ∧ Gd s u ∧ Post t H Q a fp u (.of_ c)
def spOnce (t : Adr) : Sp := fun vs H Q _ => ∃ (a : Addr) (s : RmS) (fp : List Addr) (u : Sy35.St) (i : Nat), vs = [.ref a, nV i] ∧ RmAt t H a s fp ∧ Gd s u ∧ Post t H Q a fp u (.once i)
theorem order_is (u : Sy35.St) (i j : Nat) : Sy35.orderOf u i j = (if ((Sy35.greatest u j i).any fun (x : Int) => decide (x < 0)) = true then 1 else if ((Sy35.greatest u i j).any fun (x : Int) => decide (x < 0)) = true then 2 else if (decide (Sy35.greatest u i j = some 0) && decide (Sy35.greatest u j i = some 0)) = true then 3 else 0) := order_cases
theorem once_is (u : Sy35.St) (i j : Nat) : (Sy35.orderOf u i j == 3) = (decide (Sy35.greatest u i j = some 0) && decide (Sy35.greatest u j i = some 0)) := by
  rw [order_is]
  generalize Sy35.greatest u i j = a
  generalize Sy35.greatest u j i = b
  by_cases h : a = some 0 ∧ b = some 0
  · obtain ⟨rfl, rfl⟩ := h
    rfl
  · have e : (decide (a = some 0) && decide (b = some 0)) = false := by
      rw [← Bool.not_eq_true, Bool.and_eq_true, decide_eq_true_iff, decide_eq_true_iff]
      exact h
    rw [e]
    split
    · rfl
    · split
      · rfl
      · rfl
theorem of_is {s : RmS} {u : Sy35.St} (g : Gd s u) {c : Nat} (hc : c < s.rates.length) : ((List.range (Sy35.era u c + 1)).flatMap fun (g : Nat) => (List.range (Sy35.size u)).filter fun (i : Nat) => (Sy35.eventAt u i).clock == c && (Sy35.eventAt u i).era == g) = (List.range s.evs.length).filter fun i => (Sy35.eventAt u i).clock == c := by
  rw [g.size]
  obtain ⟨T, off, h⟩ := g.clk
  refine flat_eras (fun i => (Sy35.eventAt u i).clock == c) (fun i => (Sy35.eventAt u i).era) _ _ (fun i j hij hj hi' hj' => ?_) (fun i hi hp => ?_)
  · have e1 := List.getElem?_eq_getElem (show i < s.evs.length by omega)
    have e2 := List.getElem?_eq_getElem hj
    have c1 := eq_of_beq hi'
    have c2 := eq_of_beq hj'
    rw [g.at_ e1] at c1 ⊢
    rw [g.at_ e2] at c2 ⊢
    exact h.rise i j _ _ e1 e2 hij (c1.trans c2.symm)
  · have e1 := List.getElem?_eq_getElem hi
    have c1 := eq_of_beq hp
    have := h.ele i _ e1
    rw [g.at_ e1] at c1 ⊢
    rw [← g.era c hc]
    rw [c1] at this
    exact this
section
variable {P : Program} {w : World} {K : PySem.W.Frag} {mg : Str → Option Value} {base : Heap} {t : Adr}
theorem ok_row_by (T : Txt K mg t) : FnOk P w K mg base CX0 6 t.f_row_by t.d_row_by ["room", "belief", "start", "end"] (spRowBy t) := by
  refine T.F_row_by.ok sc_row_by (fun vs H Q E h => ?_) (fun cdv A outer s H vs Q E hr h => ?_)
  · obtain ⟨_, _, _, _, _, _, _, _, _, _, _, _, rfl, _⟩ := h
    rfl
  · obtain ⟨a, ba, dxb, na, ta, s, fp, u, kk, i, f, z, rfl, hR, g, hb, hn, ht, hi, hf, hz, hkk, k⟩ := h
    obtain ⟨dx, la, lb, lc, ld, le, xs, hfp, R⟩ := id hR
    obtain ⟨d, hrow⟩ := row_spec g kk hi hf hz
    have hsome : ∀ m ∈ (Sy35.upTo u kk).1, (s.sigs[m]?).isSome = true := fun m hm => by
      rw [← bel_upTo g] at hm
      rw [List.getElem?_eq_getElem (belUp_lt _ _ hm).2]
      rfl
    generalize hl : (Sy35.upTo u kk).1 = l at hn hsome
    have hlen : l.length ≤ 30 := by
      rw [← hl, ← bel_upTo g]
      have := (belUp_sq (sigs := s.sigs) (clockT_sq s.rates s.evs) kk).2
      have := g.ok.sfew
      omega
    refine ⟨_, (pss_cons (ps_setLc (i := 4) rfl sc_row_by.nd rfl rfl (sw_true rfl rfl rfl rfl) (pi_list (pe_fldK (K := K) rfl (pv 1) rfl)) (blkOk_by (N := ["room", "belief", "start", "end", "signals", "own", "number"]) (sc := defScope s_row_by) (own := [("number", 6)]) (by decide +kernel)) (fun _ _ _ _ _ => (pg_name (i := 6) sc_row_by.nd rfl (Or.inl rfl))) (fun _ _ _ _ _ => pts_nil) (fun _ _ _ _ _ => (pe_ix (ixL (K := K) rfl) (pe_fldK (K := K) rfl (pv 0) rfl) (pv 6) (fun _ _ => rfl)))) (pss_cons (ps_set (i := 5) sc_row_by.nd rfl (Or.inl rfl) (pe_call (ok_own_bounds T) hr rfl T.m_own_bounds T.F_own_bounds.kp T.b_own_bounds .nil pass0 (pa_cons (pe_fldK (K := K) rfl (pv 0) rfl) (pa_cons (pe_fldK (K := K) rfl (pv 0) rfl) (pa_cons (pv 4) pa_nil))))) (pss_one (ps_ret (pe_call (ok_bound_row T) (hr.mono (by decide)) rfl T.m_bound_row T.F_bound_row.kp T.b_bound_row .nil pass0 (pa_cons (pv 5) (pa_cons (pe_fldK (K := K) rfl (pv 1) rfl) (pa_cons (pv 2) (pa_cons (pv 3) pa_nil))))))))), ?_⟩
    refine ⟨_, rfl, ba, _, dxb, _, _, rfl, hb, T.cl_Belief, T.n_Belief_numbers, rfl, na, rfl, ⟨_, SqL.of hn⟩, fun D hD => ?_⟩
    refine lc_list (K := K) (a := na) (xs := l.map nV) (fun i H' => Same H H' ∧ ∃ bs : List Addr, bs.length = i ∧ H' D = some (.lst (bs.map V.ref)) ∧ ∀ (m k : Nat), m < i → l[m]? = some k → ∃ p, bs[m]? = some p ∧ xs[k]? = some p)
      ⟨Same.new hD, [], rfl, upd_same, fun m k hm => absurd hm (Nat.not_lt_zero m)⟩ (fun i H' hi p => p.1.seq (SqL.of hn)) (fun i x H' hx p => ?_) (fun H1 p => ?_)
    · obtain ⟨sm, bs, hb1, hb2, hb3⟩ := p
      rw [List.getElem?_map] at hx
      obtain ⟨m, hm, rfl⟩ : ∃ m, l[i]? = some m ∧ nV m = x := by
        cases e : l[i]? with
        | none => rw [e] at hx; cases hx
        | some m => rw [e] at hx; exact ⟨m, rfl, Option.some.inj hx⟩
      have hil := (List.getElem?_eq_some_iff.mp hm).1
      have hms := hsome m (List.mem_of_getElem? hm)
      obtain ⟨x, hx⟩ := Option.isSome_iff_exists.mp hms
      obtain ⟨p, p1, p2⟩ := R.sgs m x hx
      refine ⟨rfl, tyes ⟨_, rfl, a, _, dx, _, _, rfl, sm _ _ R.obj, T.cl_Room, T.n_Room_signals, rfl, _, rfl, le, _, _, _, rfl, rfl, SqL.of (sm _ _ R.sgl), at_of (j := m) rfl (at_ref p1), _, hb2, ?_, ?_, bs ++ [p], ?_, ?_, ?_⟩⟩
      · rw [List.length_map, hb1]; exact small_line (by omega)
      · exact fun b o e => by rw [upd_ne (ne_of_none e hD)]; exact sm b o e
      · rw [List.length_append, hb1]; rfl
      · rw [upd_same, List.map_append]; rfl
      · intro m' k' hm' hk'
        by_cases hlt : m' < i
        · obtain ⟨q, q1, q2⟩ := hb3 m' k' hlt hk'
          exact ⟨q, by rw [List.getElem?_append_left (by omega)]; exact q1, q2⟩
        · have e : m' = i := by omega
          subst e
          rw [hm] at hk'
          cases hk'
          exact ⟨p, by rw [List.getElem?_append_right (by omega), hb1]; simp, p1⟩
    · obtain ⟨s1, bs, hb1, hb2, hb3⟩ := p
      rw [List.length_map] at hb1 hb3
      obtain ⟨f1, f2⟩ := fm_get (g := fun k => s.sigs[k]?) l hsome
      have eso : Sy35.signalsOf u l = l.filterMap fun k => s.sigs[k]? := by
        unfold Sy35.signalsOf
        rw [g.sigs]
      have so : ObjsAt (SigAt t) H1 D (Sy35.signalsOf u l) := by
        rw [eso]
        refine ⟨bs, hb2, by rw [f1]; exact hb1, fun m x hx => ?_⟩
        rw [f2] at hx
        obtain ⟨k', e1, e2⟩ := Option.bind_eq_some_iff.mp hx
        obtain ⟨p, p1, p2⟩ := hb3 m k' (List.getElem?_eq_some_iff.mp e1).1 e1
        obtain ⟨p', p3, p4⟩ := R.sgs k' x e2
        rw [p2] at p3
        cases p3
        exact ⟨p, p1, sig_stays t _ _ _ _ s1 p4⟩
      have R1 := R.same s1
      have hev : s.evs.length ≤ 100 := by have := g.ok.few; omega
      refine ⟨_, rfl, a, _, dx, _, _, rfl, R1.obj, T.cl_Room, T.n_Room_rates, rfl, _, rfl, a, _, dx, _, _, rfl, R1.obj, T.cl_Room, T.n_Room_events, rfl, _, rfl, la, ld, D, s.rates, s.evs, Sy35.signalsOf u l, rfl, R1.rts, R1.evs, g.ok.rok, hev, so, signalsOf_in g l, fun H2 oa s2 o2 => ?_⟩
      have s02 := s1.trans s2
      refine ⟨_, rfl, _, rfl, ba, _, dxb, _, _, rfl, s02 _ _ hb, T.cl_Belief, T.n_Belief_table, rfl, _, rfl, _, rfl, fun _ => True, fun _ => True, oa, ta, s.evs.length, ownT s.rates s.evs (Sy35.signalsOf u l), (Sy35.upTo u kk).2, i, f, d, z, Sy35.rowBy u (Sy35.upTo u kk).1 (Sy35.upTo u kk).2 i f, rfl, o2.tab (fun _ _ => trivial), ht.same s02, own_fold_sq _ (clockT0_sq s.rates s.evs) (signalsOf_in g l), upTo_sq g kk, hev, hi, hf, hz, ?_, fun H3 p s3 h3 => k H3 p (s02.trans s3) h3 ?_ ?_⟩
      · rw [tightB_congr (upTo_sq g kk) (fun i j hi hj => own_entry g l hi hj), ← hl]
        exact hrow
      · rw [hrow.pth.2]; exact Nat.succ_pos _
      · rw [hrow.pth.2]
        have := isD.le hf hrow.dist
        have := g.ok.few
        omega
theorem ok_tell_order (T : Txt K mg t) : FnOk P w K mg base CX0 8 t.f_tell_order t.d_tell_order ["room", "base", "other"] (spOrder t) := by
  refine T.F_tell_order.ok sc_tell_order (fun vs H Q E h => ?_) (fun cdv A outer s H vs Q E hr h => ?_)
  · obtain ⟨_, _, _, _, _, _, rfl, _⟩ := h
    rfl
  · obtain ⟨a, s, fp, u, i, j, rfl, hR, g, k⟩ := h
    obtain ⟨dx, la, lb, lc, ld, le, xs, hfp, R⟩ := id hR
    have st : Sy35.step u (.order i j) = (u, if Sy35.size u ≤ i ∨ Sy35.size u ≤ j then Sy35.ok (-1) else Sy35.ok (Sy35.orderOf u i j : Nat)) := rfl
    rw [g.size] at st
    refine ⟨_, (pss_cons (ps_if (pt_not (pt_val (pe_meth (pv 0) T.cl_Room T.h_Room_has_both (ok_Room_has_both T) (hr.mono (by decide)) T.b_Room_has_both .nil pass0 (pa_cons (pv 1) (pa_cons (pv 2) pa_nil))))) (pss_one (ps_ret (pe_lst (pa_cons (pe_un un_neg pe_int) pa_nil)))) pss_nil) (pss_cons (ps_set (i := 3) sc_tell_order.nd rfl (Or.inl rfl) (pe_fldK (K := K) rfl (pe_call (ok_belief_of T) hr rfl T.m_belief_of T.F_belief_of.kp T.b_belief_of .nil pass0 (pa_cons (pv 0) pa_nil)) rfl)) (pss_cons (ps_if (pt_val (pe_call (ok_surely_before T) (hr.mono (by decide)) rfl T.m_surely_before T.F_surely_before.kp T.b_surely_before .nil pass0 (pa_cons (pv 3) (pa_cons (pv 1) (pa_cons (pv 2) pa_nil))))) (pss_one (ps_ret (pe_lst (pa_cons pe_int pa_nil)))) pss_nil) (pss_cons (ps_if (pt_val (pe_call (ok_surely_before T) (hr.mono (by decide)) rfl T.m_surely_before T.F_surely_before.kp T.b_surely_before .nil pass0 (pa_cons (pv 3) (pa_cons (pv 2) (pa_cons (pv 1) pa_nil))))) (pss_one (ps_ret (pe_lst (pa_cons pe_int pa_nil)))) pss_nil) (pss_cons (ps_if (pt_val (pe_call (ok_surely_at_once T) (hr.mono (by decide)) rfl T.m_surely_at_once T.F_surely_at_once.kp T.b_surely_at_once .nil pass0 (pa_cons (pv 3) (pa_cons (pv 1) (pa_cons (pv 2) pa_nil))))) (pss_one (ps_ret (pe_lst (pa_cons pe_int pa_nil)))) pss_nil) (pss_one (ps_ret (pe_lst (pa_cons pe_int pa_nil))))))))), ?_⟩
    refine ⟨_, rfl, a, dx, _, rfl, R.obj, rfl, _, rfl, _, rfl, a, s, fp, i, j, rfl, hR, _, rfl, ite2 (fun h => ?_) (fun hb => ?_)⟩
    · rw [if_pos (by have := not_dec h; omega)] at st
      exact ⟨_, rfl, one_fits, fun p hp => k.new hR g st (Same.refl H) hp⟩
    · obtain ⟨hi, hj⟩ := yes_dec hb
      rw [if_neg (by omega), order_is] at st
      refine ⟨_, rfl, a, s, fp, rfl, hR, g.ok, fun H1 b dx na ta s1 hb hn ht => ?_⟩
      rw [bel_all g] at hn ht
      have sq := all_sq g
      refine ⟨b, _, dx, _, _, rfl, hb, T.cl_Belief, T.n_Belief_table, rfl, ?_⟩
      refine ⟨_, rfl, _, rfl, _, rfl, _, ta, s.evs.length, _, i, j, rfl, ht, sq, hi, hj, _, rfl, ite2 (fun h => ?_) (fun h => ?_)⟩
      · have h : ((Sy35.greatest u j i).any fun (x : Int) => decide (x < 0)) = true := h
        rw [if_pos h] at st
        exact ⟨one_fits, fun p hp => k.new hR g st s1 hp⟩
      · have h : ¬ ((Sy35.greatest u j i).any fun (x : Int) => decide (x < 0)) = true := h
        rw [if_neg h] at st
        refine ⟨_, rfl, _, rfl, _, rfl, _, ta, s.evs.length, _, j, i, rfl, ht, sq, hj, hi, _, rfl, ite2 (fun h => ?_) (fun h => ?_)⟩
        · have h : ((Sy35.greatest u i j).any fun (x : Int) => decide (x < 0)) = true := h
          rw [if_pos h] at st
          exact ⟨one_fits, fun p hp => k.new hR g st s1 hp⟩
        · have h : ¬ ((Sy35.greatest u i j).any fun (x : Int) => decide (x < 0)) = true := h
          rw [if_neg h] at st
          refine ⟨_, rfl, _, rfl, _, rfl, _, ta, s.evs.length, _, i, j, rfl, ht, sq, hi, hj, _, rfl, ite2 (fun h => ?_) (fun h => ?_)⟩
          · have h : (decide (Sy35.greatest u i j = some 0) && decide (Sy35.greatest u j i = some 0)) = true := h
            rw [if_pos h] at st
            exact ⟨one_fits, fun p hp => k.new hR g st s1 hp⟩
          · have h : ¬ (decide (Sy35.greatest u i j = some 0) && decide (Sy35.greatest u j i = some 0)) = true := h
            rw [if_neg h] at st
            exact ⟨one_fits, fun p hp => k.new hR g st s1 hp⟩
theorem ok_tell_once (T : Txt K mg t) : FnOk P w K mg base CX0 8 t.f_tell_once t.d_tell_once ["room", "base"] (spOnce t) := by
  refine T.F_tell_once.ok sc_tell_once (fun vs H Q E h => ?_) (fun cdv A outer s H vs Q E hr h => ?_)
  · obtain ⟨_, _, _, _, _, rfl, _⟩ := h
    rfl
  · obtain ⟨a, s, fp, u, i, rfl, hR, g, k⟩ := h
    obtain ⟨dx, la, lb, lc, ld, le, xs, hfp, R⟩ := id hR
    have st : Sy35.step u (.once i) = (u, if Sy35.size u ≤ i then Sy35.ok (-1) else Sy35.listed ((List.range (Sy35.size u)).filter fun (j : Nat) => Sy35.orderOf u i j == 3)) := rfl
    rw [g.size] at st
    refine ⟨_, (pss_cons (ps_if (pt_not (pt_val (pe_meth (pv 0) T.cl_Room T.h_Room_has_event (ok_Room_has_event T) (hr.mono (by decide)) T.b_Room_has_event .nil pass0 (pa_cons (pv 1) pa_nil)))) (pss_one (ps_ret (pe_lst (pa_cons (pe_un un_neg pe_int) pa_nil)))) pss_nil) (pss_cons (ps_set (i := 2) sc_tell_once.nd rfl (Or.inr rfl) (pe_fldK (K := K) rfl (pe_call (ok_belief_of T) hr rfl T.m_belief_of T.F_belief_of.kp T.b_belief_of .nil pass0 (pa_cons (pv 0) pa_nil)) rfl)) (pss_one (ps_ret (pe_call (ok_counted T) (hr.mono (by decide)) rfl T.m_counted T.F_counted.kp T.b_counted .nil pass0 (pa_cons (pe_lc rfl sc_tell_once.nd (pi_range1 rfl T.z_range (pa_cons (pe_callB (call_lenK (K := K) rfl) (by rfl) T.z_len PySem.boot_len (pa_cons (pe_fldK (K := K) rfl (pv 0) rfl) pa_nil)) pa_nil)) (blkOk_by (N := ["room", "base", "table", "other"]) (sc := defScope s_tell_once) (own := [("other", 3)]) (by decide +kernel)) (fun _ _ _ _ _ => (pg_name (i := 3) sc_tell_once.nd rfl (Or.inl rfl))) (fun _ _ _ _ _ => (pts_one (pt_val (pe_call (ok_surely_at_once T) (hr.mono (by decide)) rfl T.m_surely_at_once T.F_surely_at_once.kp T.b_surely_at_once .nil pass0 (pa_cons (pv 2) (pa_cons (pv 1) (pa_cons (pv 3) pa_nil))))))) (fun _ _ _ _ _ => (pv 3))) pa_nil)))))), ?_⟩
    refine ⟨_, rfl, a, dx, _, rfl, R.obj, rfl, _, rfl, a, s, fp, i, rfl, hR, _, rfl, ite2 (fun h => ?_) (fun hb => ?_)⟩
    · rw [if_pos (by have := not_dec h; omega)] at st
      exact ⟨_, rfl, one_fits, fun p hp => k.new hR g st (Same.refl H) hp⟩
    · have hi : i < s.evs.length := by have := yes_dec hb; omega
      rw [if_neg (by omega)] at st
      simp only [once_is] at st
      refine ⟨_, rfl, a, s, fp, rfl, hR, g.ok, fun H1 b dxb na ta s1 hb hn ht => ?_⟩
      rw [bel_all g] at hn ht
      have sq := all_sq g
      have R1 := R.same s1
      obtain ⟨as, e1, e2, e3⟩ := R1.evs.ex
      have few := g.ok.few
      refine ⟨b, _, dxb, _, _, rfl, hb, T.cl_Belief, T.n_Belief_table, rfl, ?_⟩
      refine ⟨_, rfl, a, _, dx, _, _, rfl, R1.obj, T.cl_Room, T.n_Room_events, rfl, ld, _, rfl, .inl (SqL.of e1), _, rfl, (by omega), (by rw [List.length_map]; omega), fun D hD => ?_⟩
      refine lc_range (fun m H' => Same H1 H' ∧ H' D = some (.lst (((List.range m).filter fun j => decide (Sy35.greatest u i j = some 0) && decide (Sy35.greatest u j i = some 0)).map nV))) ⟨Same.new hD, upd_same⟩ (fun m H' hm p => ?_) (fun H' p => ?_)
      · obtain ⟨sm, hq⟩ := p
        have hm' : m < s.evs.length := by
          have := hm
          rw [List.length_map, e2] at this
          omega
        have more : (List.range (m + 1)).filter (fun j => decide (Sy35.greatest u i j = some 0) && decide (Sy35.greatest u j i = some 0)) = (List.range m).filter (fun j => decide (Sy35.greatest u i j = some 0) && decide (Sy35.greatest u j i = some 0)) ++ (if (decide (Sy35.greatest u i m = some 0) && decide (Sy35.greatest u m i = some 0)) = true then [m] else []) := by
          rw [List.range_succ, List.filter_append, List.filter_cons, List.filter_nil]
        rw [Int.zero_add]
        refine ⟨rfl, _, rfl, _, rfl, _, rfl, _, ta, s.evs.length, _, i, m, rfl, ht.same sm, sq, hi, hm', _, rfl, ite2 (fun h => ?_) (fun h => ?_)⟩
        · have h : (decide (Sy35.greatest u i m = some 0) && decide (Sy35.greatest u m i = some 0)) = true := h
          refine ⟨_, rfl, _, hq, ?_, ?_, ?_⟩
          · rw [List.length_map]
            have := List.length_filter_le (fun j => decide (Sy35.greatest u i j = some 0) && decide (Sy35.greatest u j i = some 0)) (List.range m)
            rw [List.length_range] at this
            exact small_line (by omega)
          · exact fun b o e => by rw [upd_ne (ne_of_none e hD)]; exact sm b o e
          · rw [upd_same, more, if_pos h, List.map_append]; rfl
        · have h : ¬ (decide (Sy35.greatest u i m = some 0) && decide (Sy35.greatest u m i = some 0)) = true := h
          refine ⟨sm, ?_⟩
          rw [more, if_neg h, List.append_nil]; exact hq
      · obtain ⟨sm, hq⟩ := p
        have hq : H' D = some (.lst (((List.range s.evs.length).filter fun j => decide (Sy35.greatest u i j = some 0) && decide (Sy35.greatest u j i = some 0)).map nV)) := by
          rw [List.length_map, e2] at hq
          exact hq
        refine ⟨D, _, rfl, hq, ?_, fun H2 p s2 hp h2 => ?_⟩
        · have := List.length_filter_le (fun j => decide (Sy35.greatest u i j = some 0) && decide (Sy35.greatest u j i = some 0)) (List.range s.evs.length)
          rw [List.length_range] at this
          omega
        · exact k.plain hR g st ((s1.trans sm).trans s2) ((s1.trans sm).free hp) h2
theorem ok_tell_of (T : Txt K mg t) : FnOk P w K mg base CX0 3 t.f_tell_of t.d_tell_of ["room", "clock"] (spOf t) := by
  refine T.F_tell_of.ok sc_tell_of (fun vs H Q E h => ?_) (fun cdv A outer s H vs Q E hr h => ?_)
  · obtain ⟨_, _, _, _, _, rfl, _⟩ := h
    rfl
  · obtain ⟨a, s, fp, u, c, rfl, hR, g, k⟩ := h
    obtain ⟨dx, la, lb, lc, ld, le, xs, hfp, R⟩ := id hR
    have st : Sy35.step u (.of_ c) = (u, if u.rates.length ≤ c then Sy35.ok (-1) else Sy35.listed ((List.range (Sy35.era u c + 1)).flatMap fun (g : Nat) => (List.range (Sy35.size u)).filter fun (i : Nat) => (Sy35.eventAt u i).clock == c && (Sy35.eventAt u i).era == g)) := rfl
    refine ⟨_, (pss_cons (ps_if (pt_not (pt_val (pe_meth (pv 0) T.cl_Room T.h_Room_has_clock (ok_Room_has_clock T) (hr.mono (by decide)) T.b_Room_has_clock .nil pass0 (pa_cons (pv 1) pa_nil)))) (pss_one (ps_ret (pe_lst (pa_cons (pe_un un_neg pe_int) pa_nil)))) pss_nil) (pss_one (ps_ret (pe_call (ok_counted T) hr rfl T.m_counted T.F_counted.kp T.b_counted .nil pass0 (pa_cons (pe_lc rfl sc_tell_of.nd (pi_enum rfl T.z_enumerate (pa_cons (pe_fldK (K := K) rfl (pv 0) rfl) pa_nil)) (blkOk_by (N := ["room", "clock", "number", "event"]) (sc := defScope s_tell_of) (own := [("number", 2), ("event", 3)]) (by decide +kernel)) (fun _ _ _ _ _ => (pg_tupK (K := K) (n := 2) rfl rfl (pgs_cons (pg_name (i := 2) sc_tell_of.nd rfl (Or.inl rfl)) (pgs_cons (pg_name (i := 3) sc_tell_of.nd rfl (Or.inl rfl)) pgs_nil)))) (fun _ _ _ _ _ => (pts_one (pt_cmp (pc_eqI (pe_fldK (K := K) rfl (pv 3) rfl) (pv 1))))) (fun _ _ _ _ _ => (pv 2))) pa_nil))))), ?_⟩
    refine ⟨_, rfl, a, dx, _, rfl, R.obj, rfl, _, rfl, a, s, fp, c, rfl, hR, _, rfl, ite2 (fun h => ?_) (fun hb => ?_)⟩
    · rw [if_pos (by have := not_dec h; rw [← g.rates]; omega)] at st
      exact ⟨_, rfl, one_fits, fun p hp => k.new hR g st (Same.refl H) hp⟩
    · have hc : c < s.rates.length := by have := yes_dec hb; omega
      rw [if_neg (by rw [← g.rates]; omega), of_is g hc] at st
      obtain ⟨as, e1, e2, e3⟩ := R.evs.ex
      have few := g.ok.few
      refine ⟨_, rfl, a, _, dx, _, _, rfl, R.obj, T.cl_Room, T.n_Room_events, rfl, ld, _, rfl, SqL.of e1, fun D hD => ?_⟩
      refine lc_enum (K := K) (a := ld) (xs := as.map V.ref) (fun m H' => Same H H' ∧ H' D = some (.lst (((List.range m).filter fun i => (Sy35.eventAt u i).clock == c).map nV))) ⟨Same.new hD, upd_same⟩ (fun m H' _ p => SqL.of (p.1 _ _ e1)) (fun m x H' Tu hx p hT => ?_) (fun H' p => ?_)
      · obtain ⟨sm, hq⟩ := p
        obtain ⟨q, hq1, rfl⟩ := ref_at hx
        have hm : m < s.evs.length := by rw [← e2]; exact (List.getElem?_eq_some_iff.mp hq1).1
        have hl : s.evs[m]? = some s.evs[m] := List.getElem?_eq_getElem hm
        obtain ⟨q', hq', he⟩ := e3 m _ hl
        rw [hq1] at hq'
        cases hq'
        have hev := g.at_ hl
        generalize s.evs[m] = e at he hev
        have more : (List.range (m + 1)).filter (fun i => (Sy35.eventAt u i).clock == c) = (List.range m).filter (fun i => (Sy35.eventAt u i).clock == c) ++ (if ((Sy35.eventAt u m).clock == c) = true then [m] else []) := by
          rw [List.range_succ, List.filter_append, List.filter_cons, List.filter_nil]
        have s3 : Same H' (upd H' Tu (.tup [.int (m : Nat), V.ref q])) := Same.new hT
        have sH3 := sm.trans s3
        obtain ⟨dy, he3⟩ := ev_stays t _ _ _ _ sH3 he
        have hq3 := s3 _ _ hq
        have hT3 : upd H' Tu (.tup [.int (m : Nat), V.ref q]) Tu = some (.tup [.int (m : Nat), V.ref q]) := upd_same
        generalize upd H' Tu (.tup [.int (m : Nat), V.ref q]) = H3 at hT3 s3 sH3 he3 hq3 ⊢
        refine ⟨Tu, _, rfl, SqT.of hT3, rfl, _, _, rfl, _, _, rfl, rfl, rfl, _, rfl, q, _, dy, _, _, rfl, he3, T.cl_Event, T.n_Event_clock, rfl, _, rfl, _, _, rfl, rfl, _, rfl, ite2 (fun h => ?_) (fun h => ?_)⟩
        · refine ⟨_, rfl, _, hq3, ?_, ?_, ?_⟩
          · rw [List.length_map]
            have := List.length_filter_le (fun i => (Sy35.eventAt u i).clock == c) (List.range m)
            rw [List.length_range] at this
            exact small_line (by omega)
          · exact fun b o e => by rw [upd_ne (ne_of_none e hD)]; exact sH3 b o e
          · rw [upd_same, more, if_pos (by rw [hev]; simp at h ⊢; omega), List.map_append]; rfl
        · refine ⟨sH3, ?_⟩
          rw [more, if_neg (by rw [hev]; simp at h ⊢; omega), List.append_nil]; exact hq3
      · obtain ⟨sm, hq⟩ := p
        rw [List.length_map, e2] at hq
        refine ⟨D, _, rfl, hq, ?_, fun H2 p s2 hp h2 => ?_⟩
        · have := List.length_filter_le (fun i => (Sy35.eventAt u i).clock == c) (List.range s.evs.length)
          rw [List.length_range] at this
          omega
        · exact k.plain hR g st (sm.trans s2) (sm.free hp) h2
theorem ok_tell_reason (T : Txt K mg t) : FnOk P w K mg base CX0 8 t.f_tell_reason t.d_tell_reason ["room", "base", "other"] (spReason t) := by
  refine T.F_tell_reason.ok sc_tell_reason (fun vs H Q E h => ?_) (fun cdv A outer s H vs Q E hr h => ?_)
  · obtain ⟨_, _, _, _, _, _, rfl, _⟩ := h
    rfl
  · obtain ⟨a, s, fp, u, i, j, rfl, hR, g, k⟩ := h
    obtain ⟨dx, la, lb, lc, ld, le, xs, hfp, R⟩ := id hR
    have st : Sy35.step u (.reason i j) = (u, if Sy35.size u ≤ i ∨ Sy35.size u ≤ j then Sy35.ok (-1) else match Sy35.greatest u i j with
      | none => Sy35.ok (-6)
      | some _ => ⟨((((Sy35.rowBy u (Sy35.believed u) (Sy35.all u).2 i j).length - 1 : Nat)) : Int), [Sy35.ints (Sy35.rowBy u (Sy35.believed u) (Sy35.all u).2 i j)]⟩) := rfl
    rw [g.size] at st
    refine ⟨_, (pss_cons (ps_if (pt_not (pt_val (pe_meth (pv 0) T.cl_Room T.h_Room_has_both (ok_Room_has_both T) (hr.mono (by decide)) T.b_Room_has_both .nil pass0 (pa_cons (pv 1) (pa_cons (pv 2) pa_nil))))) (pss_one (ps_ret (pe_lst (pa_cons (pe_un un_neg pe_int) pa_nil)))) pss_nil) (pss_cons (ps_set (i := 3) sc_tell_reason.nd rfl (Or.inl rfl) (pe_call (ok_belief_of T) hr rfl T.m_belief_of T.F_belief_of.kp T.b_belief_of .nil pass0 (pa_cons (pv 0) pa_nil))) (pss_cons (ps_if (pt_cmp (pc_isN (pe_ix (ixL (K := K) rfl) (pe_ix (ixL (K := K) rfl) (pe_fldK (K := K) rfl (pv 3) rfl) (pv 1) (fun _ _ => rfl)) (pv 2) (fun _ _ => rfl)))) (pss_one (ps_ret (pe_lst (pa_cons (pe_un un_neg pe_int) pa_nil)))) pss_nil) (pss_cons (ps_set (i := 4) sc_tell_reason.nd rfl (Or.inl rfl) (pe_call (ok_row_by T) (hr.mono (by decide)) rfl T.m_row_by T.F_row_by.kp T.b_row_by .nil pass0 (pa_cons (pv 0) (pa_cons (pv 3) (pa_cons (pv 1) (pa_cons (pv 2) pa_nil)))))) (pss_one (ps_ret (pe_op op_cat (pe_lst (pa_cons (pe_op op_sub (pe_callB (call_lenK (K := K) rfl) (by rfl) T.z_len PySem.boot_len (pa_cons (pv 4) pa_nil)) pe_int) pa_nil)) (pe_call (ok_with_length T) (hr.mono (by decide)) rfl T.m_with_length T.F_with_length.kp T.b_with_length .nil pass0 (pa_cons (pv 4) pa_nil))))))))), ?_⟩
    refine ⟨_, rfl, a, dx, _, rfl, R.obj, rfl, _, rfl, _, rfl, a, s, fp, i, j, rfl, hR, _, rfl, ite2 (fun h => ?_) (fun hb => ?_)⟩
    · rw [if_pos (by have := not_dec h; omega)] at st
      exact ⟨_, rfl, one_fits, fun p hp => k.new hR g st (Same.refl H) hp⟩
    · obtain ⟨hi, hj⟩ := yes_dec hb
      rw [if_neg (by omega)] at st
      refine ⟨_, rfl, a, s, fp, rfl, hR, g.ok, fun H1 b dxb na ta s1 hb hn ht => ?_⟩
      rw [bel_all g] at hn ht
      have sq := all_sq g
      obtain ⟨as, p, rs, q1, q2, q3, q4⟩ := ht.get sq hi hj
      refine ⟨_, rfl, b, _, dxb, _, _, rfl, hb, T.cl_Belief, T.n_Belief_table, rfl, _, rfl, ta, _, _, _, rfl, rfl, SqL.of q1, at_of (j := i) rfl q2, _, rfl, p, _, _, _, rfl, rfl, SqL.of q3, at_of (j := j) rfl q4, ?_⟩
      cases e : Sy35.entry (Sy35.all u).2 i j with
      | none =>
        have eg : Sy35.greatest u i j = none := e
        rw [eg] at st
        exact ⟨_, rfl, iteT ⟨_, rfl, one_fits, fun p hp => k.new hR g st s1 hp⟩⟩
      | some z =>
        have eg : Sy35.greatest u i j = some z := e
        rw [eg] at st
        refine ⟨_, rfl, iteF ⟨_, rfl, _, rfl, _, rfl, _, rfl, a, b, dxb, na, ta, s, fp, u, u.signals.length, i, j, z, rfl, hR.same s1, g, hb, hn, ht, hi, hj, e, by rw [g.sigs]; exact Nat.le_refl _, fun H2 p s2 hp h0 h24 => ?_⟩⟩
        have hp : H2 p = some (.lst ((Sy35.rowBy u (Sy35.believed u) (Sy35.all u).2 i j).map nV)) := hp
        have h0 : 0 < (Sy35.rowBy u (Sy35.believed u) (Sy35.all u).2 i j).length := h0
        have h24 : (Sy35.rowBy u (Sy35.believed u) (Sy35.all u).2 i j).length ≤ 24 := h24
        generalize Sy35.rowBy u (Sy35.believed u) (Sy35.all u).2 i j = row at hp h0 h24 st
        refine ⟨_, rfl, p, _, rfl, .inl (SqL.of hp), _, _, rfl, rfl, one_fits, fun l1 f1 => ⟨_, rfl, p, _, rfl, Same.new f1 _ _ hp, by rw [List.length_map]; omega, fun H3 p3 s3 f3 h3 => ?_⟩⟩
        have e1 := s3 _ _ (upd_same (H := H2) (a := l1))
        refine ⟨l1, p3, _, _, rfl, rfl, e1, h3, line_big (by simp; omega), fun p4 f4 => ?_⟩
        have sm := ((s1.trans s2).trans (Same.new (o := .lst [.int (((row.map nV).length : Nat) - 1)]) f1)).trans s3
        refine k.plain hR g st (sm.trans (Same.new f4)) (sm.free f4) ?_
        rw [upd_same]
        congr 2
        unfold Sy35Neutral.out Sy35.ints
        have : (((row.length - 1 : Nat)) : Int) = (row.length : Int) - 1 := by omega
        simp [this]
theorem ok_tell_against (T : Txt K mg t) : FnOk P w K mg base CX0 7 t.f_tell_against t.d_tell_against ["room", "number"] (spAgainst t) := by
  refine T.F_tell_against.ok sc_tell_against (fun vs H Q E h => ?_) (fun cdv A outer s H vs Q E hr h => ?_)
  · obtain ⟨_, _, _, _, _, rfl, _⟩ := h
    rfl
  · obtain ⟨a, s, fp, u, n, rfl, hR, g, k⟩ := h
    obtain ⟨dx, la, lb, lc, ld, le, xs, hfp, R⟩ := id hR
    have st : Sy35.step u (.against n) = (u, match u.signals[n]? with
      | none => Sy35.ok (-2)
      | some x => if x.struck = true then Sy35.ok (-4)
        else if Sy35.tooSoon (Sy35.upTo u n).2 x = true then ⟨1, [Sy35.ints (Sy35.rowBy u (Sy35.upTo u n).1 (Sy35.upTo u n).2 x.from_ x.to_)]⟩
        else if Sy35.tooLate (Sy35.upTo u n).2 x = true then ⟨2, [Sy35.ints (Sy35.rowBy u (Sy35.upTo u n).1 (Sy35.upTo u n).2 x.to_ x.from_)]⟩
        else Sy35.ok 0) := rfl
    rw [← g.sigs] at st
    refine ⟨_, (pss_cons (ps_set (i := 2) sc_tell_against.nd rfl (Or.inl rfl) (pe_call (ok_signal_refusal T) (hr.mono (by decide)) rfl T.m_signal_refusal T.F_signal_refusal.kp T.b_signal_refusal .nil pass0 (pa_cons (pv 0) (pa_cons (pv 1) pa_nil)))) (pss_cons (ps_if (pt_cmp (pc_notN (pv 2))) (pss_one (ps_ret (pv 2))) pss_nil) (pss_cons (ps_set (i := 3) sc_tell_against.nd rfl (Or.inl rfl) (pe_ix (ixL (K := K) rfl) (pe_fldK (K := K) rfl (pv 0) rfl) (pv 1) (fun _ _ => rfl))) (pss_cons (ps_set (i := 4) sc_tell_against.nd rfl (Or.inl rfl) (pe_call (ok_belief_before T) hr rfl T.m_belief_before T.F_belief_before.kp T.b_belief_before .nil pass0 (pa_cons (pv 0) (pa_cons (pv 1) pa_nil)))) (pss_cons (ps_if (pt_val (pe_call (ok_signal_fits T) (hr.mono (by decide)) rfl T.m_signal_fits T.F_signal_fits.kp T.b_signal_fits .nil pass0 (pa_cons (pe_fldK (K := K) rfl (pv 4) rfl) (pa_cons (pv 3) pa_nil)))) (pss_one (ps_ret (pe_lst (pa_cons pe_int pa_nil)))) pss_nil) (pss_cons (ps_if (pt_not (pt_val (pe_call (ok_least_fits T) (hr.mono (by decide)) rfl T.m_least_fits T.F_least_fits.kp T.b_least_fits .nil pass0 (pa_cons (pe_fldK (K := K) rfl (pv 4) rfl) (pa_cons (pv 3) pa_nil))))) (pss_one (ps_ret (pe_op op_cat (pe_lst (pa_cons pe_int pa_nil)) (pe_call (ok_with_length T) (hr.mono (by decide)) rfl T.m_with_length T.F_with_length.kp T.b_with_length .nil pass0 (pa_cons (pe_call (ok_row_by T) hr rfl T.m_row_by T.F_row_by.kp T.b_row_by .nil pass0 (pa_cons (pv 0) (pa_cons (pv 4) (pa_cons (pe_fldK (K := K) rfl (pv 3) rfl) (pa_cons (pe_fldK (K := K) rfl (pv 3) rfl) pa_nil))))) pa_nil))))) pss_nil) (pss_one (ps_ret (pe_op op_cat (pe_lst (pa_cons pe_int pa_nil)) (pe_call (ok_with_length T) (hr.mono (by decide)) rfl T.m_with_length T.F_with_length.kp T.b_with_length .nil pass0 (pa_cons (pe_call (ok_row_by T) hr rfl T.m_row_by T.F_row_by.kp T.b_row_by .nil pass0 (pa_cons (pv 0) (pa_cons (pv 4) (pa_cons (pe_fldK (K := K) rfl (pv 3) rfl) (pa_cons (pe_fldK (K := K) rfl (pv 3) rfl) pa_nil))))) pa_nil))))))))))), ?_⟩
    refine ⟨_, rfl, _, rfl, a, s, fp, n, rfl, hR, fun h0 p hp => ?_, fun x hl h p hp => ?_, fun x hl h => ?_⟩
    · rw [h0] at st
      exact ⟨_, rfl, _, rfl, iteT ⟨_, rfl, k.new hR g st (Same.refl H) hp⟩⟩
    · rw [hl] at st
      simp only [h, if_true] at st
      exact ⟨_, rfl, _, rfl, iteT ⟨_, rfl, k.new hR g st (Same.refl H) hp⟩⟩
    · obtain ⟨p, hp, dy, hx⟩ := R.sgs n x hl
      rw [hl] at st
      simp only [h, Bool.false_eq_true, if_false] at st
      have hns := (List.getElem?_eq_some_iff.mp hl).1
      obtain ⟨h1, h2⟩ := g.ok.sgn x (List.mem_of_getElem? hl)
      refine ⟨_, rfl, _, rfl, iteF ?_⟩
      refine ⟨_, rfl, a, _, dx, _, _, rfl, R.obj, T.cl_Room, T.n_Room_signals, rfl, _, rfl, le, _, _, _, rfl, rfl, SqL.of R.sgl, at_of (j := n) rfl (at_ref hp), ?_⟩
      refine ⟨_, rfl, _, rfl, a, s, fp, n, rfl, hR, g.ok, by omega, fun H1 b dxb na ta s1 hb hn ht => ?_⟩
      rw [bel_upTo g] at hn ht
      have sq := upTo_sq g n
      have hx1 := s1 _ _ hx
      refine ⟨_, rfl, b, _, dxb, _, _, rfl, hb, T.cl_Belief, T.n_Belief_table, rfl, _, rfl, _, ta, p, s.evs.length, _, x, rfl, ht, sq, ⟨dy, hx1⟩, h1, h2, _, rfl, ite2 (fun hft => ?_) (fun hft => ?_)⟩
      · rw [Bool.and_eq_true, Bool.not_eq_true', Bool.not_eq_true'] at hft
        rw [hft.1, hft.2] at st
        simp only [Bool.false_eq_true, if_false] at st
        exact ⟨one_fits, fun p hp => k.new hR g st s1 hp⟩
      · refine ⟨_, rfl, b, _, dxb, _, _, rfl, hb, T.cl_Belief, T.n_Belief_table, rfl, _, rfl, _, ta, p, s.evs.length, _, x, rfl, ht, sq, ⟨dy, hx1⟩, h1, h2, _, rfl, ite2 (fun hs => ?_) (fun hs => ?_)⟩
        · have hs : Sy35.tooSoon (Sy35.upTo u n).2 x = true := by simpa using hs
          rw [if_pos hs] at st
          obtain ⟨z, hz⟩ : ∃ z, Sy35.entry (Sy35.upTo u n).2 x.from_ x.to_ = some z := by
            unfold Sy35.tooSoon at hs
            cases e : Sy35.entry (Sy35.upTo u n).2 x.from_ x.to_ with
            | none => rw [e] at hs; cases hs
            | some z => exact ⟨z, rfl⟩
          refine ⟨one_fits, fun l1 f1 => ?_⟩
          have s2 : Same H1 (upd H1 l1 (.lst [.int 1])) := Same.new f1
          have s02 := s1.trans s2
          refine ⟨_, rfl, _, rfl, _, rfl, p, _, dy, _, _, rfl, s2 _ _ hx1, T.cl_Signal, T.n_Signal_first, rfl, _, rfl, p, _, dy, _, _, rfl, s2 _ _ hx1, T.cl_Signal, T.n_Signal_second, rfl, a, b, dxb, na, ta, s, fp, u, n, x.from_, x.to_, z, rfl, hR.same s02, g, s2 _ _ hb, s2 _ _ hn, ht.same s2, h1, h2, hz, Nat.le_of_lt hns, fun H3 q s3 hq h0 h24 => ?_⟩
          refine ⟨q, _, rfl, hq, by rw [List.length_map]; omega, fun H4 p4 s4 f4 h4 => ?_⟩
          have e1 := s4 _ _ (s3 _ _ (upd_same (H := H1) (a := l1)))
          refine ⟨l1, p4, _, _, rfl, rfl, e1, h4, line_big (by simp; omega), fun p5 f5 => ?_⟩
          have sm := (s02.trans s3).trans s4
          refine k.plain hR g st (sm.trans (Same.new f5)) (sm.free f5) ?_
          rw [upd_same]
          congr 2
          unfold Sy35Neutral.out Sy35.ints
          simp
        · have hs : Sy35.tooSoon (Sy35.upTo u n).2 x = false := by simpa using hs
          rw [if_neg (by rw [hs]; exact Bool.false_ne_true)] at st
          have hlt : Sy35.tooLate (Sy35.upTo u n).2 x = true := by simpa [hs] using hft
          rw [if_pos hlt] at st
          obtain ⟨z, hz⟩ : ∃ z, Sy35.entry (Sy35.upTo u n).2 x.to_ x.from_ = some z := by
            unfold Sy35.tooLate at hlt
            cases e : Sy35.entry (Sy35.upTo u n).2 x.to_ x.from_ with
            | none => rw [e] at hlt; cases hlt
            | some z => exact ⟨z, rfl⟩
          refine ⟨one_fits, fun l1 f1 => ?_⟩
          have s2 : Same H1 (upd H1 l1 (.lst [.int 2])) := Same.new f1
          have s02 := s1.trans s2
          refine ⟨_, rfl, _, rfl, _, rfl, p, _, dy, _, _, rfl, s2 _ _ hx1, T.cl_Signal, T.n_Signal_second, rfl, _, rfl, p, _, dy, _, _, rfl, s2 _ _ hx1, T.cl_Signal, T.n_Signal_first, rfl, a, b, dxb, na, ta, s, fp, u, n, x.to_, x.from_, z, rfl, hR.same s02, g, s2 _ _ hb, s2 _ _ hn, ht.same s2, h2, h1, hz, Nat.le_of_lt hns, fun H3 q s3 hq h0 h24 => ?_⟩
          refine ⟨q, _, rfl, hq, by rw [List.length_map]; omega, fun H4 p4 s4 f4 h4 => ?_⟩
          have e1 := s4 _ _ (s3 _ _ (upd_same (H := H1) (a := l1)))
          refine ⟨l1, p4, _, _, rfl, rfl, e1, h4, line_big (by simp; omega), fun p5 f5 => ?_⟩
          have sm := (s02.trans s3).trans s4
          refine k.plain hR g st (sm.trans (Same.new f5)) (sm.free f5) ?_
          rw [upd_same]
          congr 2
          unfold Sy35Neutral.out Sy35.ints
          simp
end
end Ck
namespace Ck
open PySem PySem.Spec PyProof.Rows L2
abbrev Tl := Nat × Nat × Sy35.Bound
def fitAll : Sy35.Table → List Tl → Bool
  | _, [] => true
  | t, x :: r => fitsB t x.1 x.2.1 x.2.2 && fitAll (wayTabB t x.1 x.2.1 x.2.2) r
def SatT (T : Nat → Int) (x : Tl) : Prop := ∀ w, x.2.2 = some w → T x.2.1 - T x.1 ≤ w
theorem sum_none (b : Sy35.Bound) : Sy35.sum b none = none := by cases b <;> rfl
theorem fit_iff {n : Nat} : ∀ (l : List Tl) {t : Sy35.Table}, Sq n t → Tri n t → Dg n t → (∀ x ∈ l, x.1 < n ∧ x.2.1 < n) → (fitAll t l = true ↔ ∃ T, Sat n T t ∧ ∀ x ∈ l, SatT T x)
  | [], t, hs, h, d, _ => ⟨fun _ => let ⟨T, hT⟩ := times h d; ⟨T, hT, fun x hx => (by cases hx)⟩, fun _ => rfl⟩
  | (a, b, m) :: r, t, hs, h, d, hl => by
    obtain ⟨ha, hb⟩ := hl _ (List.mem_cons_self ..)
    have hl' : ∀ x ∈ r, x.1 < n ∧ x.2.1 < n := fun x hx => hl x (List.mem_cons_of_mem _ hx)
    have ha : a < n := ha
    have hb : b < n := hb
    cases m with
    | none =>
      have e : fitAll t ((a, b, none) :: r) = fitAll t r := by
        show (fitsB t a b none && fitAll (wayTabB t a b none) r) = _
        rw [wayTabB_none]
        unfold fitsB
        rw [sum_none]
        rfl
      rw [e, fit_iff r hs h d hl']
      constructor
      · rintro ⟨T, h1, h2⟩
        refine ⟨T, h1, fun x hx => ?_⟩
        rcases List.mem_cons.mp hx with z | z
        · intro w hw; rw [z] at hw; cases hw
        · exact h2 x z
      · rintro ⟨T, h1, h2⟩
        exact ⟨T, h1, fun x hx => h2 x (List.mem_cons_of_mem _ hx)⟩
    | some w =>
      have e : fitAll t ((a, b, some w) :: r) = (fitsB t a b (some w) && fitAll (wayTab t a b w) r) := rfl
      rw [e, Bool.and_eq_true]
      by_cases hf : fitsB t a b (some w) = true
      · have hw : ∀ x, Sy35.entry t b a = some x → 0 ≤ x + w := fun x hx => by
          unfold fitsB at hf
          rw [hx] at hf
          exact of_decide_eq_true hf
        rw [fit_iff r (wayTab_sq hs a b w) (h.way hs ha hb hw) (d.way h hs ha hb hw) hl']
        constructor
        · rintro ⟨_, T, h1, h2⟩
          refine ⟨T, h1.unway hs, fun x hx => ?_⟩
          rcases List.mem_cons.mp hx with z | z
          · intro w' hw'
            rw [z] at hw' ⊢
            cases hw'
            exact h1.edge hs ha hb (d a ha) (Int.le_refl _) (d b hb) (Int.le_refl _)
          · exact h2 x z
        · rintro ⟨T, h1, h2⟩
          exact ⟨hf, T, h1.way hs ha hb (h2 _ (List.mem_cons_self ..) w rfl), fun x hx => h2 x (List.mem_cons_of_mem _ hx)⟩
      · refine ⟨fun z => absurd z.1 hf, ?_⟩
        rintro ⟨T, h1, h2⟩
        exfalso
        refine hf ?_
        have q := h2 _ (List.mem_cons_self ..) w rfl
        have q : T b - T a ≤ w := q
        unfold fitsB
        cases e : Sy35.entry t b a with
        | none => rfl
        | some x =>
          have := h1 b a x hb ha e
          exact decide_eq_true (show 0 ≤ x + w by omega)
def TupAt (H : Hp) (p : Addr) (x : Tl) : Prop := H p = some (.tup [nV x.1, nV x.2.1, bV x.2.2])
theorem tup_stays : Stays TupAt := fun _ _ _ _ s h => s _ _ h
def toldAt (rates : List Nat) (evs : List Ev) (x : Ev) (i : Nat) : List Tl := (List.range evs.length).map (fun k => ((i, k, clockB rates x (evs.getD k x)) : Tl)) ++ (List.range evs.length).map (fun k => ((k, i, clockB rates (evs.getD k x) x) : Tl))
def spFitAll : Sp := fun vs H Q _ => ∃ (S : Addr → Prop) (ta la : Addr) (n : Nat) (tb : Sy35.Table) (l : List Tl), vs = [.ref ta, .ref la] ∧ News S H ∧ TabAt S H ta tb ∧ Sq n tb ∧ n ≤ 100 ∧ ObjsAt TupAt H la l ∧ (∀ x ∈ l, x.1 < n ∧ x.2.1 < n) ∧ ∀ H', Same H H' → Q (.bl (fitAll tb l)) H'
def spBAt (t : Adr) : Sp := fun vs H Q _ => ∃ (ra la xa : Addr) (rates : List Nat) (evs : List Ev) (x : Ev) (i : Nat), vs = [.ref ra, .ref la, .ref xa, nV i] ∧ IntsAt H ra rates ∧ ObjsAt (EvAt t) H la evs ∧ RatesOk rates evs ∧ evs.length ≤ 100 ∧ EvAt t H xa x ∧ x.1.clock < rates.length ∧
  ∀ (H' : Hp) (p : Addr), Same H H' → ObjsAt TupAt H' p (toldAt rates evs x i) → Q (.ref p) H'
def spCould (t : Adr) : Sp := fun vs H Q _ => ∃ (a : Addr) (s : RmS) (fp : List Addr) (u : Sy35.St) (i c gr r : Nat), vs = [.ref a, nV i, nV c, nV gr, nV r] ∧ RmAt t H a s fp ∧ Gd s u ∧ Post t H Q a fp u (.could i c gr r)
theorem ObjsAt.cat {α : Type} {R : Hp → Addr → α → Prop} {H : Hp} {p q r : Addr} {xs ys : List α} {as bs : List V} (hx : ObjsAt R H p xs) (hy : ObjsAt R H q ys) (ha : H p = some (.lst as)) (hb : H q = some (.lst bs)) (hr : H r = some (.lst (as ++ bs))) : ObjsAt R H r (xs ++ ys) := by
  obtain ⟨as', a1, a2, a3⟩ := hx.ex
  obtain ⟨bs', b1, b2, b3⟩ := hy.ex
  rw [ha] at a1
  rw [hb] at b1
  cases a1
  cases b1
  refine ⟨as' ++ bs', by rw [hr, List.map_append], by rw [List.length_append, List.length_append, a2, b2], fun i x hi => ?_⟩
  by_cases h : i < xs.length
  · rw [List.getElem?_append_left h] at hi
    obtain ⟨c, c1, c2⟩ := a3 i x hi
    exact ⟨c, by rw [List.getElem?_append_left (by omega)]; exact c1, c2⟩
  · rw [List.getElem?_append_right (by omega)] at hi
    obtain ⟨c, c1, c2⟩ := b3 _ x hi
    exact ⟨c, by rw [List.getElem?_append_right (by omega), a2]; exact c1, c2⟩
theorem ObjsAt.snoc {α : Type} {R : Hp → Addr → α → Prop} {H' : Hp} {D p : Addr} {xs : List α} {x : α} {as : List Addr} (b2 : as.length = xs.length) (b3 : ∀ (i : Nat) (y : α), xs[i]? = some y → ∃ q, as[i]? = some q ∧ R H' q y) (hp : R H' p x) (hD : H' D = some (.lst ((as ++ [p]).map V.ref))) : ObjsAt R H' D (xs ++ [x]) := by
  refine ⟨as ++ [p], hD, by rw [List.length_append, List.length_append, b2]; rfl, fun i y hi => ?_⟩
  by_cases hlt : i < xs.length
  · rw [List.getElem?_append_left hlt] at hi
    obtain ⟨c, c1, c2⟩ := b3 i y hi
    exact ⟨c, by rw [List.getElem?_append_left (by omega)]; exact c1, c2⟩
  · have ei : i = xs.length := by
      have := (List.getElem?_eq_some_iff.mp hi).1
      rw [List.length_append] at this
      simp at this
      omega
    subst ei
    rw [List.getElem?_append_right (Nat.le_refl _)] at hi
    simp at hi
    subst hi
    exact ⟨p, by rw [List.getElem?_append_right (by omega), b2]; simp, hp⟩
theorem tups_put {H H' : Hp} {D p : Addr} {xs : List Tl} {x : Tl} {acc : List V} (h : ObjsAt TupAt H D xs) (hs : Same H H') (ha : H D = some (.lst acc)) (hp : TupAt H' p x) : ObjsAt TupAt (upd H' D (.lst (acc ++ [V.ref p]))) D (xs ++ [x]) := by
  obtain ⟨as, a1, a2, a3⟩ := h.ex
  rw [ha] at a1
  cases a1
  have hD := hs _ _ ha
  have keep : ∀ {q : Addr} {y : Tl}, TupAt H' q y → TupAt (upd H' D (.lst (as.map V.ref ++ [V.ref p]))) q y := fun {q y} hq => by
    show upd H' D _ q = _
    rw [upd_ne (ne_of hq hD (by intro z; cases z))]
    exact hq
  refine ObjsAt.snoc (as := as) a2 (fun i y hi => ?_) (keep hp) (by rw [upd_same, List.map_append]; rfl)
  obtain ⟨q, q1, q2⟩ := a3 i y hi
  exact ⟨q, q1, keep (hs _ _ q2)⟩
theorem nil_objs {α : Type} {R : Hp → Addr → α → Prop} {H : Hp} {D : Addr} : ObjsAt R (upd H D (.lst [])) D [] := ⟨[], upd_same, rfl, fun i x hx => (by cases hx)⟩
theorem tups_len {H : Hp} {D : Addr} {xs : List Tl} {acc : List V} (h : ObjsAt TupAt H D xs) (ha : H D = some (.lst acc)) : acc.length = xs.length := by
  obtain ⟨as, a1, a2, a3⟩ := h.ex
  rw [ha] at a1
  cases a1
  rw [List.length_map, a2]
theorem three_fit : 3 ≤ sizeLine := by decide
theorem getD_at {evs : List Ev} {k : Nat} (x : Ev) (h : k < evs.length) : evs.getD k x = evs[k] := by
  rw [List.getD_eq_getElem?_getD, List.getElem?_eq_getElem h]
  rfl
theorem clockB_new {rates : List Nat} {e f : Ev} (h : f.2 ≠ e.2) : clockB rates e f = clkB rates e.1 f.1 := by
  unfold clockB clkB
  split
  · rfl
  · split
    · rfl
    · by_cases z : f.1.era < e.1.era
      · rw [if_pos (.inl z), if_pos z]
      · rw [if_neg (fun q => q.elim z h), if_neg z]
theorem could_fit {s : RmS} {u : Sy35.St} (g : Gd s u) {i c gr r : Nat} (hi : i < s.evs.length) : fitAll (Sy35.all u).2 (toldAt s.rates s.evs (⟨c, gr, r⟩, s.evs.length) i) = Sy35.could u i c gr r := by
  obtain ⟨h3, h4⟩ := upTo_ok g u.signals.length
  rw [Bool.eq_iff_iff, could_iff g hi, fit_iff _ (all_sq g) h3 h4]
  · have old : ∀ (a : Nat) (e : Ev), s.evs[a]? = some e → e.2 ≠ s.evs.length := fun a e he => by
      have := g.instle a e he
      have := (List.getElem?_eq_some_iff.mp he).1
      omega
    constructor
    · rintro ⟨T, h1, h2⟩
      refine ⟨T, h1, fun a e he => ?_⟩
      have hl := (List.getElem?_eq_some_iff.mp he).1
      have ed : s.evs.getD a (⟨c, gr, r⟩, s.evs.length) = e := by rw [List.getD_eq_getElem?_getD, he]; rfl
      constructor
      · intro b hb
        have := h2 (a, i, clockB s.rates e (⟨c, gr, r⟩, s.evs.length)) (List.mem_append_right _ (List.mem_map.mpr ⟨a, List.mem_range.mpr hl, by rw [ed]⟩)) b
        exact this (by rw [clockB_new (fun z => old a e he z.symm)]; exact hb)
      · intro b hb
        have := h2 (i, a, clockB s.rates (⟨c, gr, r⟩, s.evs.length) e) (List.mem_append_left _ (List.mem_map.mpr ⟨a, List.mem_range.mpr hl, by rw [ed]⟩)) b
        exact this (by rw [clockB_new (old a e he)]; exact hb)
    · rintro ⟨T, h1, h2⟩
      refine ⟨T, h1, fun x hx => ?_⟩
      rcases List.mem_append.mp hx with z | z
      · obtain ⟨a, ha, rfl⟩ := List.mem_map.mp z
        have hl := List.mem_range.mp ha
        have he := List.getElem?_eq_getElem hl
        intro w hw
        have hw : clockB s.rates (⟨c, gr, r⟩, s.evs.length) (s.evs.getD a (⟨c, gr, r⟩, s.evs.length)) = some w := hw
        rw [getD_at _ hl, clockB_new (old a _ he)] at hw
        exact (h2 a _ he).2 w hw
      · obtain ⟨a, ha, rfl⟩ := List.mem_map.mp z
        have hl := List.mem_range.mp ha
        have he := List.getElem?_eq_getElem hl
        intro w hw
        have hw : clockB s.rates (s.evs.getD a (⟨c, gr, r⟩, s.evs.length)) (⟨c, gr, r⟩, s.evs.length) = some w := hw
        rw [getD_at _ hl, clockB_new (fun z => old a _ he z.symm)] at hw
        exact (h2 a _ he).1 w hw
  · intro x hx
    rcases List.mem_append.mp hx with z | z
    · obtain ⟨a, ha, rfl⟩ := List.mem_map.mp z
      exact ⟨hi, List.mem_range.mp ha⟩
    · obtain ⟨a, ha, rfl⟩ := List.mem_map.mp z
      exact ⟨List.mem_range.mp ha, hi⟩
theorem told_in {rates : List Nat} {evs : List Ev} {x : Ev} {i : Nat} (hi : i < evs.length) : ∀ y ∈ toldAt rates evs x i, y.1 < evs.length ∧ y.2.1 < evs.length := fun y hy => by
  rcases List.mem_append.mp hy with z | z
  · obtain ⟨a, ha, rfl⟩ := List.mem_map.mp z
    exact ⟨hi, List.mem_range.mp ha⟩
  · obtain ⟨a, ha, rfl⟩ := List.mem_map.mp z
    exact ⟨List.mem_range.mp ha, hi⟩
section
variable {P : Program} {w : World} {K : PySem.W.Frag} {mg : Str → Option Value} {base : Heap} {t : Adr}
theorem ok_bounds_fit (T : Txt K mg t) : FnOk P w K mg base CX0 4 t.f_bounds_fit t.d_bounds_fit ["table", "told"] spFitAll := by
  refine T.F_bounds_fit.ok sc_bounds_fit (fun vs H Q E h => ?_) (fun cdv A outer s H vs Q E hr h => ?_)
  · obtain ⟨_, _, _, _, _, _, rfl, _⟩ := h
    rfl
  · obtain ⟨S, ta, la, n, tb, l, rfl, hS, h1, h2, hn, h3, h4, k⟩ := h
    obtain ⟨as, e1, e2, e3⟩ := h3.ex
    refine ⟨_, (pss_cons (ps_for PassesOwn.never rfl (pi_list (pv 1)) (pg_tupK (K := K) (n := 3) rfl rfl (pgs_cons (pg_name (i := 2) sc_bounds_fit.nd rfl (Or.inl rfl)) (pgs_cons (pg_name (i := 3) sc_bounds_fit.nd rfl (Or.inl rfl)) (pgs_cons (pg_name (i := 4) sc_bounds_fit.nd rfl (Or.inl rfl)) pgs_nil)))) (pss_cons (ps_if (pt_not (pt_val (pe_call (ok_bound_fits T) (hr.mono (by decide)) rfl T.m_bound_fits T.F_bound_fits.kp T.b_bound_fits .nil pass0 (pa_cons (pv 0) (pa_cons (pv 2) (pa_cons (pv 3) (pa_cons (pv 4) pa_nil))))))) (pss_one (ps_ret pe_bl)) pss_nil) (pss_one (ps_set (i := 0) sc_bounds_fit.nd rfl (Or.inl rfl) (pe_call (ok_with_bound T) hr rfl T.m_with_bound T.F_with_bound.kp T.b_with_bound .nil pass0 (pa_cons (pv 0) (pa_cons (pv 2) (pa_cons (pv 3) (pa_cons (pv 4) pa_nil))))))))) (pss_one (ps_ret pe_bl))), ?_⟩
    refine ⟨_, rfl, la, rfl, ⟨_, SqL.of e1⟩, for_list (K := K) (a := la) (xs := as.map V.ref) (fun i σ H2 => ∃ (v2 v3 v4 : Option V) (p : Addr) (tc : Sy35.Table), σ = [some (.ref p), some (.ref la), v2, v3, v4] ∧ Same H H2 ∧ TabAt S H2 p tc ∧ Sq n tc ∧ fitAll tb l = fitAll tc (l.drop i))
      ⟨none, none, none, ta, tb, rfl, Same.refl H, h1, h2, rfl⟩ (fun i σ H2 _ p => let ⟨_, _, _, _, _, _, sm, _⟩ := p; SqL.of (sm _ _ e1)) (fun i x σ H2 hx p => ?_) (fun σ H2 p => ?_)⟩
    · obtain ⟨v2, v3, v4, p, tc, rfl, sm, ht, sq, hf⟩ := p
      obtain ⟨c, hc, rfl⟩ := ref_at hx
      have hi : i < l.length := by rw [← e2]; exact (List.getElem?_eq_some_iff.mp hc).1
      have hl : l[i]? = some l[i] := List.getElem?_eq_getElem hi
      obtain ⟨c', hc', htp⟩ := e3 i _ hl
      rw [hc] at hc'
      cases hc'
      have hd : l.drop i = l[i] :: l.drop (i + 1) := List.drop_eq_getElem_cons hi
      obtain ⟨ha, hb⟩ := h4 _ (List.getElem_mem hi)
      rw [hd] at hf
      generalize l[i] = y at htp hf ha hb
      have htp2 : H2 c = some (.tup [nV y.1, nV y.2.1, bV y.2.2]) := sm _ _ htp
      refine ⟨c, _, rfl, SqT.of htp2, rfl, _, _, rfl, _, _, rfl, _, _, rfl, rfl, ?_⟩
      refine ⟨_, rfl, _, rfl, _, rfl, _, rfl, S, p, n, tc, y.1, y.2.1, y.2.2, rfl, ht, sq, ha, hb, _, rfl, ite2 (fun h => ?_) (fun h => ?_)⟩
      · have h : fitsB tc y.1 y.2.1 y.2.2 = false := by simpa using h
        have z : fitAll tb l = false := by
          rw [hf]
          show (fitsB tc y.1 y.2.1 y.2.2 && _) = false
          rw [h]; rfl
        rw [z] at k
        exact k H2 sm
      · have h : fitsB tc y.1 y.2.1 y.2.2 = true := by simpa using h
        refine ⟨_, rfl, _, rfl, _, rfl, _, rfl, S, p, n, tc, y.1, y.2.1, y.2.2, rfl, hS.same sm, ht, sq, hn, ha, hb, fun H3 p3 s3 t3 => ⟨_, _, _, p3, wayTabB tc y.1 y.2.1 y.2.2, rfl, sm.trans s3, t3, ?_, ?_⟩⟩
        · cases e : y.2.2 with
          | none => rw [wayTabB_none]; exact sq
          | some w => exact wayTab_sq sq _ _ _
        · rw [hf]
          show (fitsB tc y.1 y.2.1 y.2.2 && fitAll (wayTabB tc y.1 y.2.1 y.2.2) (l.drop (i + 1))) = _
          rw [h, Bool.true_and]
    · obtain ⟨v2, v3, v4, p, tc, rfl, sm, ht, sq, hf⟩ := p
      rw [List.length_map, e2, List.drop_length] at hf
      have hf : fitAll tb l = true := hf
      rw [hf] at k
      exact k H2 sm
theorem ok_bounds_at (T : Txt K mg t) : FnOk P w K mg base CX0 3 t.f_bounds_at t.d_bounds_at ["rates", "events", "extra", "place"] (spBAt t) := by
  refine T.F_bounds_at.ok sc_bounds_at (fun vs H Q E h => ?_) (fun cdv A outer s H vs Q E hr h => ?_)
  · obtain ⟨_, _, _, _, _, _, _, rfl, _⟩ := h
    rfl
  · obtain ⟨ra, la, xa, rates, evs, x, pl, rfl, h1, h2, h3, h4, h5, h6, k⟩ := h
    obtain ⟨as, e1, e2, e3⟩ := h2.ex
    refine ⟨_, (pss_cons (ps_setLc (i := 4) rfl sc_bounds_at.nd rfl rfl (sw_true rfl rfl rfl rfl) (pi_range1 rfl T.z_range (pa_cons (pe_callB (call_lenK (K := K) rfl) (by rfl) T.z_len PySem.boot_len (pa_cons (pv 1) pa_nil)) pa_nil)) (blkOk_by (N := ["rates", "events", "extra", "place", "ahead", "back", "k"]) (sc := defScope s_bounds_at) (own := [("k", 6)]) (by decide +kernel)) (fun _ _ _ _ _ => (pg_name (i := 6) sc_bounds_at.nd rfl (Or.inl rfl))) (fun _ _ _ _ _ => pts_nil) (fun _ _ _ _ _ => (pe_tup (pa_cons (pv 3) (pa_cons (pv 6) (pa_cons (pe_call (ok_clock_bound T) hr rfl T.m_clock_bound T.F_clock_bound.kp T.b_clock_bound .nil pass0 (pa_cons (pv 0) (pa_cons (pv 2) (pa_cons (pe_ix (ixL (K := K) rfl) (pv 1) (pv 6) (fun _ _ => rfl)) pa_nil)))) pa_nil)))))) (pss_cons (ps_setLc (i := 5) rfl sc_bounds_at.nd rfl rfl (sw_true rfl rfl rfl rfl) (pi_range1 rfl T.z_range (pa_cons (pe_callB (call_lenK (K := K) rfl) (by rfl) T.z_len PySem.boot_len (pa_cons (pv 1) pa_nil)) pa_nil)) (blkOk_by (N := ["rates", "events", "extra", "place", "ahead", "back", "k"]) (sc := defScope s_bounds_at) (own := [("k", 6)]) (by decide +kernel)) (fun _ _ _ _ _ => (pg_name (i := 6) sc_bounds_at.nd rfl (Or.inl rfl))) (fun _ _ _ _ _ => pts_nil) (fun _ _ _ _ _ => (pe_tup (pa_cons (pv 6) (pa_cons (pv 3) (pa_cons (pe_call (ok_clock_bound T) hr rfl T.m_clock_bound T.F_clock_bound.kp T.b_clock_bound .nil pass0 (pa_cons (pv 0) (pa_cons (pe_ix (ixL (K := K) rfl) (pv 1) (pv 6) (fun _ _ => rfl)) (pa_cons (pv 2) pa_nil)))) pa_nil)))))) (pss_one (ps_ret (pe_op op_cat (pv 4) (pv 5)))))), ?_⟩
    refine ⟨_, rfl, la, _, rfl, .inl (SqL.of e1), _, rfl, (by omega), (by rw [List.length_map]; omega), fun D hD => ?_⟩
    refine lc_range (fun i H' => Same H H' ∧ ObjsAt TupAt H' D ((List.range i).map fun k => ((pl, k, clockB rates x (evs.getD k x)) : Tl))) ⟨Same.new hD, nil_objs⟩ (fun i H' hi p => ?_) (fun H1 p => ?_)
    · obtain ⟨sm, hq⟩ := p
      have hi' : i < evs.length := by
        have := hi
        rw [List.length_map, e2] at this
        omega
      obtain ⟨c, hc, he⟩ := e3 i _ (List.getElem?_eq_getElem hi')
      obtain ⟨acs, aD, aL, _⟩ := id hq.ex
      rw [Int.zero_add]
      refine ⟨rfl, tyes ⟨_, rfl, _, rfl, _, rfl, _, rfl, _, rfl, _, rfl, la, _, _, _, rfl, rfl, SqL.of (sm _ _ e1), at_of (j := i) rfl (at_ref hc), ra, xa, c, rates, x, evs[i], rfl, sm _ _ h1, ev_stays t _ _ _ _ sm h5, ev_stays t _ _ _ _ sm he, h3.rate, h6, three_fit, fun p hp => ?_⟩⟩
      refine ⟨_, Same.new hp _ _ aD, ?_, ?_, ?_⟩
      · rw [List.length_map, aL, List.length_map, List.length_range]; exact small_line (by omega)
      · exact fun b o e => by rw [upd_ne (ne_of_none e hD)]; exact Same.new hp _ _ (sm b o e)
      · rw [List.range_succ, List.map_append]
        refine tups_put hq (Same.new hp) aD ?_
        show upd _ p _ p = _
        rw [upd_same]
        dsimp only
        rw [getD_at x hi']
    · obtain ⟨s1, o1⟩ := p
      rw [List.length_map, e2] at o1
      obtain ⟨as1, a1, a2, _⟩ := id o1.ex
      refine ⟨_, rfl, la, _, rfl, .inl (SqL.of (s1 _ _ e1)), _, rfl, (by omega), (by rw [List.length_map]; omega), fun D2 hD2 => ?_⟩
      refine lc_range (fun i H' => Same H1 H' ∧ ObjsAt TupAt H' D2 ((List.range i).map fun k => ((k, pl, clockB rates (evs.getD k x) x) : Tl))) ⟨Same.new hD2, nil_objs⟩ (fun i H' hi p => ?_) (fun H2 p => ?_)
      · obtain ⟨sm1, hq⟩ := p
        have sm := s1.trans sm1
        have hi' : i < evs.length := by
          have := hi
          rw [List.length_map, e2] at this
          omega
        obtain ⟨c, hc, he⟩ := e3 i _ (List.getElem?_eq_getElem hi')
        obtain ⟨acs, aD, aL, _⟩ := id hq.ex
        rw [Int.zero_add]
        refine ⟨rfl, tyes ⟨_, rfl, _, rfl, _, rfl, _, rfl, _, rfl, la, _, _, _, rfl, rfl, SqL.of (sm _ _ e1), at_of (j := i) rfl (at_ref hc), _, rfl, ra, c, xa, rates, evs[i], x, rfl, sm _ _ h1, ev_stays t _ _ _ _ sm he, ev_stays t _ _ _ _ sm h5, h3.rate, h3.clk _ (List.getElem_mem hi'), three_fit, fun p hp => ?_⟩⟩
        refine ⟨_, Same.new hp _ _ aD, ?_, ?_, ?_⟩
        · rw [List.length_map, aL, List.length_map, List.length_range]; exact small_line (by omega)
        · exact fun b o e => by rw [upd_ne (ne_of_none e hD2)]; exact Same.new hp _ _ (sm1 b o e)
        · rw [List.range_succ, List.map_append]
          refine tups_put hq (Same.new hp) aD ?_
          show upd _ p _ p = _
          rw [upd_same]
          dsimp only
          rw [getD_at x hi']
      · obtain ⟨s2, o2⟩ := p
        rw [List.length_map, e2] at o2
        obtain ⟨as2, b1, b2, _⟩ := id o2.ex
        have a1' := s2 _ _ a1
        refine ⟨_, rfl, _, rfl, D, D2, _, _, rfl, rfl, a1', b1, line_big ?_, fun p hp => ?_⟩
        · simp at a2 b2 ⊢
          omega
        · have s3 := Same.new (o := .lst (as1.map V.ref ++ as2.map V.ref)) hp
          exact k _ p ((s1.trans s2).trans s3) (ObjsAt.cat ((o1.same tup_stays s2).same tup_stays s3) (o2.same tup_stays s3) (s3 _ _ a1') (s3 _ _ b1) upd_same)
theorem ok_tell_could (T : Txt K mg t) : FnOk P w K mg base CX0 8 t.f_tell_could t.d_tell_could ["room", "place", "clock", "era", "reading"] (spCould t) := by
  refine T.F_tell_could.ok sc_tell_could (fun vs H Q E h => ?_) (fun cdv A outer s H vs Q E hr h => ?_)
  · obtain ⟨_, _, _, _, _, _, _, _, rfl, _⟩ := h
    rfl
  · obtain ⟨a, s, fp, u, i, c, gr, r, rfl, hR, g, k⟩ := h
    obtain ⟨dx, la, lb, lc, ld, le, xs, hfp, R⟩ := id hR
    have st : Sy35.step u (.could i c gr r) = (u, if Sy35.size u ≤ i ∨ u.rates.length ≤ c ∨ Sy35.era u c < gr ∨ Sy35.READING < r then Sy35.ok (-1) else Sy35.ok (if Sy35.could u i c gr r = true then 1 else 0)) := rfl
    rw [g.size, ← g.rates] at st
    refine ⟨_, (pss_cons (ps_if (PW.pt (pw_or (pt_not (pt_val (pe_meth (pv 0) T.cl_Room T.h_Room_has_event (ok_Room_has_event T) (hr.mono (by decide)) T.b_Room_has_event .nil pass0 (pa_cons (pv 1) pa_nil)))) (pw_or1 (pt_not (pt_val (pe_meth (pv 0) T.cl_Room T.h_Room_has_clock (ok_Room_has_clock T) (hr.mono (by decide)) T.b_Room_has_clock .nil pass0 (pa_cons (pv 2) pa_nil))))))) (pss_one (ps_ret (pe_lst (pa_cons (pe_un un_neg pe_int) pa_nil)))) pss_nil) (pss_cons (ps_if (PW.pt (pw_or (pt_cmp (pc_gt (pv 3) (pe_ix (ixL (K := K) rfl) (pe_fldK (K := K) rfl (pv 0) rfl) (pv 2) (fun _ _ => rfl)))) (pw_or1 (pt_cmp (pc_gt (pv 4) (pe_gint rfl T.g_MOST_READING)))))) (pss_one (ps_ret (pe_lst (pa_cons (pe_un un_neg pe_int) pa_nil)))) pss_nil) (pss_cons (ps_set (i := 5) sc_tell_could.nd rfl (Or.inl rfl) (pe_make T.M_Event (ok_Event_init T) (hr.mono (by decide)) rfl T.m_Event T.b_Event_init .nil pass0 (pa_cons (pv 2) (pa_cons (pv 3) (pa_cons (pv 4) (pa_cons (pe_callB (call_lenK (K := K) rfl) (by rfl) T.z_len PySem.boot_len (pa_cons (pe_fldK (K := K) rfl (pv 0) rfl) pa_nil)) pa_nil)))))) (pss_cons (ps_if (pt_val (pe_call (ok_bounds_fit T) (hr.mono (by decide)) rfl T.m_bounds_fit T.F_bounds_fit.kp T.b_bounds_fit .nil pass0 (pa_cons (pe_fldK (K := K) rfl (pe_call (ok_belief_of T) hr rfl T.m_belief_of T.F_belief_of.kp T.b_belief_of .nil pass0 (pa_cons (pv 0) pa_nil)) rfl) (pa_cons (pe_call (ok_bounds_at T) (hr.mono (by decide)) rfl T.m_bounds_at T.F_bounds_at.kp T.b_bounds_at .nil pass0 (pa_cons (pe_fldK (K := K) rfl (pv 0) rfl) (pa_cons (pe_fldK (K := K) rfl (pv 0) rfl) (pa_cons (pv 5) (pa_cons (pv 1) pa_nil))))) pa_nil)))) (pss_one (ps_ret (pe_lst (pa_cons pe_int pa_nil)))) pss_nil) (pss_one (ps_ret (pe_lst (pa_cons pe_int pa_nil)))))))), ?_⟩
    refine ⟨_, rfl, a, dx, _, rfl, R.obj, rfl, _, rfl, a, s, fp, i, rfl, hR, _, rfl, ite2 (fun h => iteT ?_) (fun hi => ?_)⟩
    · rw [if_pos (.inl (by have := not_dec h; omega))] at st
      exact ⟨_, rfl, one_fits, fun p hp => k.new hR g st (Same.refl H) hp⟩
    · have hi : i < s.evs.length := by have := yes_dec hi; omega
      refine ⟨_, rfl, a, dx, _, rfl, R.obj, rfl, _, rfl, a, s, fp, c, rfl, hR, _, rfl, ite2 (fun h => ?_) (fun hc => ?_)⟩
      · rw [if_pos (.inr (.inl (by have := not_dec h; omega)))] at st
        exact ⟨_, rfl, one_fits, fun p hp => k.new hR g st (Same.refl H) hp⟩
      · have hc : c < s.rates.length := by have := yes_dec hc; omega
        have hce : c < s.eras.length := by rw [g.elen]; exact hc
        refine ⟨_, rfl, _, rfl, a, _, dx, _, _, rfl, R.obj, T.cl_Room, T.n_Room_eras, rfl, _, rfl, lb, _, _, _, rfl, rfl, SqL.of R.ers, at_of (j := c) rfl (ints_get hce), _, _, rfl, rfl, _, rfl, ite2 (fun h => iteT ?_) (fun hg => ?_)⟩
        · rw [if_pos (.inr (.inr (.inl (by have := d_t h; rw [← g.era c hc]; omega))))] at st
          exact ⟨_, rfl, one_fits, fun p hp => k.new hR g st (Same.refl H) hp⟩
        · refine ⟨_, rfl, _, _, rfl, rfl, _, rfl, ite2 (fun h => ?_) (fun hrd => ?_)⟩
          · rw [if_pos (.inr (.inr (.inr (by have := d_t h; show 1000000 < r; omega))))] at st
            exact ⟨_, rfl, one_fits, fun p hp => k.new hR g st (Same.refl H) hp⟩
          · rw [if_neg (by have := d_f hg; have := d_f hrd; rw [← g.era c hc]; show ¬ (_ ∨ _ ∨ _ ∨ 1000000 < r); omega), ← could_fit g hi] at st
            obtain ⟨as, e1, e2, e3⟩ := R.evs.ex
            have hlen : s.evs.length ≤ 100 := by have := g.ok.few; omega
            refine ⟨_, rfl, _, rfl, _, rfl, _, rfl, a, _, dx, _, _, rfl, R.obj, T.cl_Room, T.n_Room_events, rfl, ld, _, rfl, .inl (SqL.of e1), fun x d n1 n2 n3 => ?_⟩
            rw [List.length_map, e2]
            refine ⟨x, d, (⟨c, gr, r⟩, s.evs.length), rfl, upd_same, fun H1 he k1 => ⟨rfl, ?_⟩⟩
            have s1 : Same H H1 := Same.made n1 n2 k1
            refine ⟨_, rfl, a, s, fp, rfl, hR.same s1, g.ok, fun H2 b dxb na ta s2 hb hn ht => ?_⟩
            rw [bel_all g] at hn ht
            have s02 := s1.trans s2
            have R2 := R.same s02
            refine ⟨b, _, dxb, _, _, rfl, hb, T.cl_Belief, T.n_Belief_table, rfl, ?_⟩
            refine ⟨_, rfl, a, _, dx, _, _, rfl, R2.obj, T.cl_Room, T.n_Room_rates, rfl, _, rfl, a, _, dx, _, _, rfl, R2.obj, T.cl_Room, T.n_Room_events, rfl, _, rfl, _, rfl, la, ld, x, s.rates, s.evs, (⟨c, gr, r⟩, s.evs.length), i, rfl, R2.rts, R2.evs, g.ok.rok, hlen, ev_stays t _ _ _ _ s2 he, hc, fun H3 p3 s3 o3 => ?_⟩
            have s03 := s02.trans s3
            refine ⟨fun _ => True, ta, p3, s.evs.length, _, _, rfl, fun _ _ => trivial, ht.same s3, all_sq g, hlen, o3, told_in hi, fun H4 s4 => ⟨_, rfl, ite2 (fun h => ?_) (fun h => ?_)⟩⟩
            · rw [if_pos h] at st
              exact ⟨one_fits, fun p hp => k.new hR g st (s03.trans s4) hp⟩
            · rw [if_neg h] at st
              exact ⟨one_fits, fun p hp => k.new hR g st (s03.trans s4) hp⟩
end
end Ck
namespace Ck
open PySem PySem.Spec PyProof.Rows L2
def spAnswers (K : PySem.W.Frag) : Sp := fun vs H Q _ => ∃ (a : Addr) (ns : List Int), vs = [.ref a] ∧ SqL K H a (ns.map V.int) ∧ PySy35.answers_asked ns = true ∧ ∀ (H' : Hp) (p : Addr), H' p = some (.lst ((PySy35.answers ns).map V.int)) → Q (.ref p) H'
def spAnswerTo (K : PySem.W.Frag) (t : Adr) : Sp := fun vs H Q _ => ∃ (a ca : Addr) (s : RmS) (fp : List Addr) (u : Sy35.St) (w : List Int) (c : Sy35.Call), vs = [.ref a, .ref ca] ∧ RmAt t H a s fp ∧ Gd s u ∧ SqL K H ca (w.map V.int) ∧ RawOf w c ∧ Post t H Q a fp u c
def spCLen (K : PySem.W.Frag) : Sp := fun vs H Q _ => ∃ (a : Addr) (d w r : List Int) (c : Sy35.Call), vs = [.ref a, nV d.length] ∧ SqL K H a ((d ++ (w ++ r)).map V.int) ∧ RawOf w c ∧ Q (nV w.length) H
structure Loop (t : Adr) (H : Hp) (ns : List Int) (la a g : Addr) (m : Nat) (σ : L2.St) (H' : Hp) : Prop where
  ex : ∃ (d r gs : List Int) (u : Sy35.St) (s : RmS) (fp : List Addr) (v4 v5 : Option V), σ = [some (.ref la), some (.ref a), some (.ref g), some (nV d.length), v4, v5] ∧ ns = d ++ r ∧ m = r.length ∧ Run ns gs r u ∧ RmAt t H' a s fp ∧ Gd s u ∧
    H' g = some (.lst (gs.map V.int)) ∧ g ∉ fp ∧ ∀ o, H la = some o → H' la = some o ∧ la ∉ fp ∧ la ≠ g
theorem RmAt.aside {t : Adr} {H : Hp} {a g : Addr} {s : RmS} {fp : List Addr} {ys : List V} {o : HO} (h : RmAt t H a s fp) (hg : H g = some (.lst ys)) (n : g ∉ fp) : RmAt t (upd H g o) a s fp := by
  obtain ⟨dx, la, lb, lc, ld, le, xs, e0, R⟩ := h
  refine ⟨dx, la, lb, lc, ld, le, xs, e0, ?_⟩
  rw [e0] at n
  simp only [List.mem_cons, not_or] at n
  obtain ⟨n1, n2, n3, n4, n5, n6, n7⟩ := n
  refine ⟨by rw [upd_ne (Ne.symm n1)]; exact R.obj, ?_, ?_, ?_, ?_, by rw [upd_ne (Ne.symm n6)]; exact R.sgl, R.sgn, fun i y q => ?_, R.nd⟩
  · show upd H g _ la = _
    rw [upd_ne (Ne.symm n2)]; exact R.rts
  · show upd H g _ lb = _
    rw [upd_ne (Ne.symm n3)]; exact R.ers
  · show upd H g _ lc = _
    rw [upd_ne (Ne.symm n4)]; exact R.bgn
  · obtain ⟨as, e1, e2, e3⟩ := R.evs.ex
    refine ⟨as, by rw [upd_ne (Ne.symm n5)]; exact e1, e2, fun i f hf => ?_⟩
    obtain ⟨p, h2, h3⟩ := e3 i f hf
    have z := ev_ne_lst h3 hg
    obtain ⟨d, h3⟩ := h3
    exact ⟨p, h2, d, by rw [upd_ne z]; exact h3⟩
  · obtain ⟨p, h2, h3⟩ := R.sgs i y q
    have z := sg_ne_lst h3 hg
    obtain ⟨d, h3⟩ := h3
    exact ⟨p, h2, d, by rw [upd_ne z]; exact h3⟩
theorem sq_from {K : PySem.W.Frag} {H H' : Hp} {a : Addr} {xs : List V} (h : SqL K H a xs) (k : ∀ o, H a = some o → H' a = some o) : SqL K H' a xs := by
  rcases h with (h | ⟨o, h⟩) | h
  · exact .inl (.inl (k _ h))
  · exact .inl (.inr ⟨o, k _ h⟩)
  · exact .inr h
theorem cut_mid {d w r : List Int} : cutV ((d ++ (w ++ r)).map V.int) (some (d.length : Int)) (some ((d.length : Int) + (w.length : Int))) = w.map V.int := by
  unfold cutV
  have e1 : HT.sIx ((d ++ (w ++ r)).map V.int).length 0 (some (d.length : Int)) = d.length := by
    unfold HT.sIx
    simp only
    rw [List.length_map, List.length_append]
    split <;> omega
  have e2 : HT.sIx ((d ++ (w ++ r)).map V.int).length ((d ++ (w ++ r)).map V.int).length (some ((d.length : Int) + (w.length : Int))) = d.length + w.length := by
    unfold HT.sIx
    simp only
    rw [List.length_map, List.length_append, List.length_append]
    split <;> omega
  rw [e1, e2, ← List.map_drop, List.drop_left, ← List.map_take]
  have z : d.length + w.length - d.length = w.length := by omega
  rw [z, List.take_left]
def widths : List Int := [1, 2, 3, 4, 1, 0, 2, 2, 2, 1, 4, 1, 1]
theorem widths_at {k : Nat} {x : Int} (h : widths[k]? = some x) : (([.int 1, .int 2, .int 3, .int 4, .int 1, .int 0, .int 2, .int 2, .int 2, .int 1, .int 4, .int 1, .int 1] : List V))[k]? = some (.int x) := by
  show (widths.map V.int)[k]? = _
  rw [List.getElem?_map, h]
  rfl
theorem raw_kind {w : List Int} {c : Sy35.Call} (h : RawOf w c) : ∃ (k : Nat) (wd : Int), w[0]? = some (k : Int) ∧ widths[k]? = some wd ∧ ((k ≠ 0 ∧ (w.length : Int) = 1 + wd) ∨ (k = 0 ∧ ∃ m : Int, w[1]? = some m ∧ (w.length : Int) = 1 + wd + m)) := by
  cases h with
  | begins x h =>
    refine ⟨0, 1, rfl, rfl, .inr ⟨rfl, cI x.length, rfl, ?_⟩⟩
    rw [List.length_cons, List.length_cons, List.length_map]
    show ((x.length + 1 + 1 : Nat) : Int) = 1 + 1 + (x.length : Int)
    omega
  | event a b => exact ⟨1, _, rfl, rfl, .inl ⟨by decide, rfl⟩⟩
  | set a b c => exact ⟨2, _, rfl, rfl, .inl ⟨by decide, rfl⟩⟩
  | signal a b c d => exact ⟨3, _, rfl, rfl, .inl ⟨by decide, rfl⟩⟩
  | strike a => exact ⟨4, _, rfl, rfl, .inl ⟨by decide, rfl⟩⟩
  | believed => exact ⟨5, _, rfl, rfl, .inl ⟨by decide, rfl⟩⟩
  | between a b => exact ⟨6, _, rfl, rfl, .inl ⟨by decide, rfl⟩⟩
  | order a b => exact ⟨7, _, rfl, rfl, .inl ⟨by decide, rfl⟩⟩
  | reason a b => exact ⟨8, _, rfl, rfl, .inl ⟨by decide, rfl⟩⟩
  | against a => exact ⟨9, _, rfl, rfl, .inl ⟨by decide, rfl⟩⟩
  | could a b c d => exact ⟨10, _, rfl, rfl, .inl ⟨by decide, rfl⟩⟩
  | of_ a => exact ⟨11, _, rfl, rfl, .inl ⟨by decide, rfl⟩⟩
  | once a => exact ⟨12, _, rfl, rfl, .inl ⟨by decide, rfl⟩⟩
theorem at_mid {d w r : List Int} {j : Nat} {x : Int} (h : w[j]? = some x) : ((d ++ (w ++ r)).map V.int)[d.length + j]? = some (.int x) := by
  rw [List.getElem?_map, List.getElem?_append_right (by omega)]
  have e : d.length + j - d.length = j := by omega
  rw [e, List.getElem?_append_left (List.getElem?_eq_some_iff.mp h).1, h]
  rfl
theorem cut_two {x : List Nat} : cutV ((0 :: cI x.length :: x.map cI).map V.int) (some 2) none = x.map nV := by
  unfold cutV
  have el : ((0 :: cI x.length :: x.map cI).map V.int).length = x.length + 2 := by simp
  have e1 : HT.sIx ((0 :: cI x.length :: x.map cI).map V.int).length 0 (some (2 : Int)) = 2 := by
    rw [el]
    unfold HT.sIx
    simp only
    split <;> omega
  have e2 : HT.sIx ((0 :: cI x.length :: x.map cI).map V.int).length ((0 :: cI x.length :: x.map cI).map V.int).length none = x.length + 2 := by rw [el]; rfl
  rw [e1, e2]
  have z : x.length + 2 - 2 = x.length := by omega
  rw [z]
  show List.take x.length ((x.map cI).map V.int) = _
  rw [List.map_map]
  refine List.take_of_length_le ?_
  rw [List.length_map]
  exact Nat.le_refl _
theorem Post.of_same {t : Adr} {H H1 : Hp} {Q : VK} {a : Addr} {fp : List Addr} {u : Sy35.St} {c : Sy35.Call} (k : Post t H Q a fp u c) (sm : Same H H1) : Post t H1 Q a fp u c := fun H' fp' p s' R' g' kp hp h => k H' fp' p s' R' g' ((Keep.same fp sm).trans kp) (sm.free hp) h
section
variable {P : Program} {w : World} {K : PySem.W.Frag} {mg : Str → Option Value} {base : Heap} {t : Adr}
theorem ok_call_length (T : Txt K mg t) : FnOk P w K mg base CX0 1 t.f_call_length t.d_call_length ["calls", "at"] (spCLen K) := by
  refine T.F_call_length.ok sc_call_length (fun vs H Q E h => ?_) (fun cdv A outer s H vs Q E hr h => ?_)
  · obtain ⟨_, _, _, _, _, rfl, _⟩ := h
    rfl
  · obtain ⟨a, d, w, r, c, rfl, hq, raw, k⟩ := h
    obtain ⟨kd, wd, h0, hwd, hl⟩ := raw_kind raw
    have m0 := at_mid (d := d) (r := r) h0
    have hW := T.g_WIDTHS.choose_spec.2
    refine ⟨_, (pss_cons (ps_set (i := 2) sc_call_length.nd rfl (Or.inl rfl) (pe_op op_add pe_int (pe_ix (ixT (K := K) rfl) (pe_glob (v := V.ref T.g_WIDTHS.choose) rfl T.g_WIDTHS.choose_spec.1 rfl) (pe_ix (ixL (K := K) rfl) (pv 0) (pv 1) (fun _ _ => rfl)) (fun _ _ => rfl)))) (pss_cons (ps_if (pt_cmp (pc_eqI (pe_ix (ixL (K := K) rfl) (pv 0) (pv 1) (fun _ _ => rfl)) (pe_gint rfl T.g_BEGINS))) (pss_one (ps_set (i := 2) sc_call_length.nd rfl (Or.inl rfl) (pe_op op_add (pv 2) (pe_ix (ixL (K := K) rfl) (pv 0) (pe_op op_add (pv 1) pe_int) (fun _ _ => rfl))))) pss_nil) (pss_one (ps_ret (pv 2))))), ?_⟩
    refine ⟨_, rfl, _, rfl, a, _, _, _, rfl, rfl, hq, at_of (j := d.length) rfl m0, _, _, _, _, rfl, rfl, hW H, at_of (j := kd) (v := .int wd) rfl (widths_at hwd), _, _, rfl, rfl, ?_⟩
    refine ⟨_, rfl, _, rfl, a, _, _, _, rfl, rfl, hq, at_of (j := d.length) rfl m0, _, _, rfl, rfl, _, rfl, ite2 (fun h => ?_) (fun h => ?_)⟩
    · have hk : kd = 0 := by have := d_t h; omega
      rcases hl with ⟨z, _⟩ | ⟨_, m, h1, e⟩
      · exact absurd hk z
      · have m1 := at_mid (d := d) (r := r) h1
        refine ⟨_, rfl, _, rfl, _, rfl, _, _, rfl, rfl, a, _, _, _, rfl, rfl, hq, at_of (j := d.length + 1) rfl m1, _, _, rfl, rfl, _, rfl, ?_⟩
        have k : Q (.int (w.length : Int)) H := k
        rw [e] at k
        exact k
    · have hk : kd ≠ 0 := by have := d_f h; omega
      rcases hl with ⟨_, e⟩ | ⟨z, _⟩
      · refine ⟨_, rfl, ?_⟩
        have k : Q (.int (w.length : Int)) H := k
        rw [e] at k
        exact k
      · exact absurd z hk
theorem ok_answer_to (T : Txt K mg t) : FnOk P w K mg base CX0 9 t.f_answer_to t.d_answer_to ["room", "call"] (spAnswerTo K t) := by
  refine T.F_answer_to.ok sc_answer_to (fun vs H Q E h => ?_) (fun cdv A outer s H vs Q E hr h => ?_)
  · obtain ⟨_, _, _, _, _, _, _, rfl, _⟩ := h
    rfl
  · obtain ⟨a, ca, s, fp, u, w, c, rfl, hR, g, hw, raw, k⟩ := h
    refine ⟨_, (pss_cons (ps_set (i := 2) sc_answer_to.nd rfl (Or.inl rfl) (pe_ix (ixL (K := K) rfl) (pv 1) pe_int (fun _ _ => rfl))) (pss_cons (ps_if (pt_cmp (pc_eqI (pv 2) (pe_gint rfl T.g_BEGINS))) (pss_one (ps_ret (pe_call (ok_begin T) (hr.mono (by decide)) rfl T.m_begin T.F_begin.kp T.b_begin .nil pass0 (pa_cons (pv 0) (pa_cons (pe_slice (sl_listK (K := K) rfl) (pv 1) (po_some pe_int) po_none) pa_nil))))) pss_nil) (pss_cons (ps_if (pt_cmp (pc_eqI (pv 2) (pe_gint rfl T.g_EVENT))) (pss_one (ps_ret (pe_call (ok_tell_event T) (hr.mono (by decide)) rfl T.m_tell_event T.F_tell_event.kp T.b_tell_event .nil pass0 (pa_cons (pv 0) (pa_cons (pe_ix (ixL (K := K) rfl) (pv 1) pe_int (fun _ _ => rfl)) (pa_cons (pe_ix (ixL (K := K) rfl) (pv 1) pe_int (fun _ _ => rfl)) pa_nil)))))) pss_nil) (pss_cons (ps_if (pt_cmp (pc_eqI (pv 2) (pe_gint rfl T.g_SET))) (pss_one (ps_ret (pe_call (ok_set_clock T) (hr.mono (by decide)) rfl T.m_set_clock T.F_set_clock.kp T.b_set_clock .nil pass0 (pa_cons (pv 0) (pa_cons (pe_ix (ixL (K := K) rfl) (pv 1) pe_int (fun _ _ => rfl)) (pa_cons (pe_ix (ixL (K := K) rfl) (pv 1) pe_int (fun _ _ => rfl)) (pa_cons (pe_ix (ixL (K := K) rfl) (pv 1) pe_int (fun _ _ => rfl)) pa_nil))))))) pss_nil) (pss_cons (ps_if (pt_cmp (pc_eqI (pv 2) (pe_gint rfl T.g_SIGNAL))) (pss_one (ps_ret (pe_call (ok_tell_signal T) (hr.mono (by decide)) rfl T.m_tell_signal T.F_tell_signal.kp T.b_tell_signal .nil pass0 (pa_cons (pv 0) (pa_cons (pe_ix (ixL (K := K) rfl) (pv 1) pe_int (fun _ _ => rfl)) (pa_cons (pe_ix (ixL (K := K) rfl) (pv 1) pe_int (fun _ _ => rfl)) (pa_cons (pe_ix (ixL (K := K) rfl) (pv 1) pe_int (fun _ _ => rfl)) (pa_cons (pe_ix (ixL (K := K) rfl) (pv 1) pe_int (fun _ _ => rfl)) pa_nil)))))))) pss_nil) (pss_cons (ps_if (pt_cmp (pc_eqI (pv 2) (pe_gint rfl T.g_STRIKE))) (pss_one (ps_ret (pe_call (ok_strike T) (hr.mono (by decide)) rfl T.m_strike T.F_strike.kp T.b_strike .nil pass0 (pa_cons (pv 0) (pa_cons (pe_ix (ixL (K := K) rfl) (pv 1) pe_int (fun _ _ => rfl)) pa_nil))))) pss_nil) (pss_cons (ps_if (pt_cmp (pc_eqI (pv 2) (pe_gint rfl T.g_BELIEVED))) (pss_one (ps_ret (pe_call (ok_tell_believed T) hr rfl T.m_tell_believed T.F_tell_believed.kp T.b_tell_believed .nil pass0 (pa_cons (pv 0) pa_nil)))) pss_nil) (pss_cons (ps_if (pt_cmp (pc_eqI (pv 2) (pe_gint rfl T.g_BETWEEN))) (pss_one (ps_ret (pe_call (ok_tell_between T) hr rfl T.m_tell_between T.F_tell_between.kp T.b_tell_between .nil pass0 (pa_cons (pv 0) (pa_cons (pe_ix (ixL (K := K) rfl) (pv 1) pe_int (fun _ _ => rfl)) (pa_cons (pe_ix (ixL (K := K) rfl) (pv 1) pe_int (fun _ _ => rfl)) pa_nil)))))) pss_nil) (pss_cons (ps_if (pt_cmp (pc_eqI (pv 2) (pe_gint rfl T.g_ORDER))) (pss_one (ps_ret (pe_call (ok_tell_order T) hr rfl T.m_tell_order T.F_tell_order.kp T.b_tell_order .nil pass0 (pa_cons (pv 0) (pa_cons (pe_ix (ixL (K := K) rfl) (pv 1) pe_int (fun _ _ => rfl)) (pa_cons (pe_ix (ixL (K := K) rfl) (pv 1) pe_int (fun _ _ => rfl)) pa_nil)))))) pss_nil) (pss_cons (ps_if (pt_cmp (pc_eqI (pv 2) (pe_gint rfl T.g_REASON))) (pss_one (ps_ret (pe_call (ok_tell_reason T) hr rfl T.m_tell_reason T.F_tell_reason.kp T.b_tell_reason .nil pass0 (pa_cons (pv 0) (pa_cons (pe_ix (ixL (K := K) rfl) (pv 1) pe_int (fun _ _ => rfl)) (pa_cons (pe_ix (ixL (K := K) rfl) (pv 1) pe_int (fun _ _ => rfl)) pa_nil)))))) pss_nil) (pss_cons (ps_if (pt_cmp (pc_eqI (pv 2) (pe_gint rfl T.g_AGAINST))) (pss_one (ps_ret (pe_call (ok_tell_against T) (hr.mono (by decide)) rfl T.m_tell_against T.F_tell_against.kp T.b_tell_against .nil pass0 (pa_cons (pv 0) (pa_cons (pe_ix (ixL (K := K) rfl) (pv 1) pe_int (fun _ _ => rfl)) pa_nil))))) pss_nil) (pss_cons (ps_if (pt_cmp (pc_eqI (pv 2) (pe_gint rfl T.g_COULD))) (pss_one (ps_ret (pe_call (ok_tell_could T) hr rfl T.m_tell_could T.F_tell_could.kp T.b_tell_could .nil pass0 (pa_cons (pv 0) (pa_cons (pe_ix (ixL (K := K) rfl) (pv 1) pe_int (fun _ _ => rfl)) (pa_cons (pe_ix (ixL (K := K) rfl) (pv 1) pe_int (fun _ _ => rfl)) (pa_cons (pe_ix (ixL (K := K) rfl) (pv 1) pe_int (fun _ _ => rfl)) (pa_cons (pe_ix (ixL (K := K) rfl) (pv 1) pe_int (fun _ _ => rfl)) pa_nil)))))))) pss_nil) (pss_cons (ps_if (pt_cmp (pc_eqI (pv 2) (pe_gint rfl T.g_OF))) (pss_one (ps_ret (pe_call (ok_tell_of T) (hr.mono (by decide)) rfl T.m_tell_of T.F_tell_of.kp T.b_tell_of .nil pass0 (pa_cons (pv 0) (pa_cons (pe_ix (ixL (K := K) rfl) (pv 1) pe_int (fun _ _ => rfl)) pa_nil))))) pss_nil) (pss_one (ps_ret (pe_call (ok_tell_once T) hr rfl T.m_tell_once T.F_tell_once.kp T.b_tell_once .nil pass0 (pa_cons (pv 0) (pa_cons (pe_ix (ixL (K := K) rfl) (pv 1) pe_int (fun _ _ => rfl)) pa_nil)))))))))))))))))), ?_⟩
    cases raw with
    | begins x h =>
      refine ⟨_, rfl, ca, _, _, _, rfl, rfl, hw, at_of (j := 0) rfl rfl, ?_⟩
      refine ⟨_, rfl, _, _, rfl, rfl, _, rfl, iteT ?_⟩
      refine ⟨_, rfl, _, rfl, _, rfl, ca, _, rfl, hw, fun p hp => ?_⟩
      rw [cut_two]
      have sm : Same H (upd H p (.lst (x.map nV))) := Same.new hp
      exact ⟨a, p, s, fp, u, x, rfl, hR.same sm, g, SqL.of upd_same, by omega, k.of_same sm⟩
    | event x y =>
      refine ⟨_, rfl, ca, _, _, _, rfl, rfl, hw, at_of (j := 0) rfl rfl, ?_⟩
      refine ⟨_, rfl, _, _, rfl, rfl, _, rfl, iteF ?_⟩
      refine ⟨_, rfl, _, _, rfl, rfl, _, rfl, iteT ?_⟩
      exact ⟨_, rfl, _, rfl, ca, _, _, _, rfl, rfl, hw, at_of (j := 1) rfl rfl, _, rfl, ca, _, _, _, rfl, rfl, hw, at_of (j := 2) rfl rfl, a, s, fp, u, x, y, rfl, hR, g, k⟩
    | set x y z =>
      refine ⟨_, rfl, ca, _, _, _, rfl, rfl, hw, at_of (j := 0) rfl rfl, ?_⟩
      refine ⟨_, rfl, _, _, rfl, rfl, _, rfl, iteF ?_⟩
      refine ⟨_, rfl, _, _, rfl, rfl, _, rfl, iteF ?_⟩
      refine ⟨_, rfl, _, _, rfl, rfl, _, rfl, iteT ?_⟩
      exact ⟨_, rfl, _, rfl, ca, _, _, _, rfl, rfl, hw, at_of (j := 1) rfl rfl, _, rfl, ca, _, _, _, rfl, rfl, hw, at_of (j := 2) rfl rfl, _, rfl, ca, _, _, _, rfl, rfl, hw, at_of (j := 3) rfl rfl, a, s, fp, u, x, y, z, rfl, hR, g, k⟩
    | signal x y z v =>
      refine ⟨_, rfl, ca, _, _, _, rfl, rfl, hw, at_of (j := 0) rfl rfl, ?_⟩
      refine ⟨_, rfl, _, _, rfl, rfl, _, rfl, iteF ?_⟩
      refine ⟨_, rfl, _, _, rfl, rfl, _, rfl, iteF ?_⟩
      refine ⟨_, rfl, _, _, rfl, rfl, _, rfl, iteF ?_⟩
      refine ⟨_, rfl, _, _, rfl, rfl, _, rfl, iteT ?_⟩
      exact ⟨_, rfl, _, rfl, ca, _, _, _, rfl, rfl, hw, at_of (j := 1) rfl rfl, _, rfl, ca, _, _, _, rfl, rfl, hw, at_of (j := 2) rfl rfl, _, rfl, ca, _, _, _, rfl, rfl, hw, at_of (j := 3) rfl rfl, _, rfl, ca, _, _, _, rfl, rfl, hw, at_of (j := 4) rfl rfl, a, s, fp, u, x, y, z, v, rfl, hR, g, k⟩
    | strike x =>
      refine ⟨_, rfl, ca, _, _, _, rfl, rfl, hw, at_of (j := 0) rfl rfl, ?_⟩
      refine ⟨_, rfl, _, _, rfl, rfl, _, rfl, iteF ?_⟩
      refine ⟨_, rfl, _, _, rfl, rfl, _, rfl, iteF ?_⟩
      refine ⟨_, rfl, _, _, rfl, rfl, _, rfl, iteF ?_⟩
      refine ⟨_, rfl, _, _, rfl, rfl, _, rfl, iteF ?_⟩
      refine ⟨_, rfl, _, _, rfl, rfl, _, rfl, iteT ?_⟩
      exact ⟨_, rfl, _, rfl, ca, _, _, _, rfl, rfl, hw, at_of (j := 1) rfl rfl, a, s, fp, u, x, rfl, hR, g, k⟩
    | believed =>
      refine ⟨_, rfl, ca, _, _, _, rfl, rfl, hw, at_of (j := 0) rfl rfl, ?_⟩
      refine ⟨_, rfl, _, _, rfl, rfl, _, rfl, iteF ?_⟩
      refine ⟨_, rfl, _, _, rfl, rfl, _, rfl, iteF ?_⟩
      refine ⟨_, rfl, _, _, rfl, rfl, _, rfl, iteF ?_⟩
      refine ⟨_, rfl, _, _, rfl, rfl, _, rfl, iteF ?_⟩
      refine ⟨_, rfl, _, _, rfl, rfl, _, rfl, iteF ?_⟩
      refine ⟨_, rfl, _, _, rfl, rfl, _, rfl, iteT ?_⟩
      exact ⟨_, rfl, a, s, fp, u, rfl, hR, g, k⟩
    | between x y =>
      refine ⟨_, rfl, ca, _, _, _, rfl, rfl, hw, at_of (j := 0) rfl rfl, ?_⟩
      refine ⟨_, rfl, _, _, rfl, rfl, _, rfl, iteF ?_⟩
      refine ⟨_, rfl, _, _, rfl, rfl, _, rfl, iteF ?_⟩
      refine ⟨_, rfl, _, _, rfl, rfl, _, rfl, iteF ?_⟩
      refine ⟨_, rfl, _, _, rfl, rfl, _, rfl, iteF ?_⟩
      refine ⟨_, rfl, _, _, rfl, rfl, _, rfl, iteF ?_⟩
      refine ⟨_, rfl, _, _, rfl, rfl, _, rfl, iteF ?_⟩
      refine ⟨_, rfl, _, _, rfl, rfl, _, rfl, iteT ?_⟩
      exact ⟨_, rfl, _, rfl, ca, _, _, _, rfl, rfl, hw, at_of (j := 1) rfl rfl, _, rfl, ca, _, _, _, rfl, rfl, hw, at_of (j := 2) rfl rfl, a, s, fp, u, x, y, rfl, hR, g, k⟩
    | order x y =>
      refine ⟨_, rfl, ca, _, _, _, rfl, rfl, hw, at_of (j := 0) rfl rfl, ?_⟩
      refine ⟨_, rfl, _, _, rfl, rfl, _, rfl, iteF ?_⟩
      refine ⟨_, rfl, _, _, rfl, rfl, _, rfl, iteF ?_⟩
      refine ⟨_, rfl, _, _, rfl, rfl, _, rfl, iteF ?_⟩
      refine ⟨_, rfl, _, _, rfl, rfl, _, rfl, iteF ?_⟩
      refine ⟨_, rfl, _, _, rfl, rfl, _, rfl, iteF ?_⟩
      refine ⟨_, rfl, _, _, rfl, rfl, _, rfl, iteF ?_⟩
      refine ⟨_, rfl, _, _, rfl, rfl, _, rfl, iteF ?_⟩
      refine ⟨_, rfl, _, _, rfl, rfl, _, rfl, iteT ?_⟩
      exact ⟨_, rfl, _, rfl, ca, _, _, _, rfl, rfl, hw, at_of (j := 1) rfl rfl, _, rfl, ca, _, _, _, rfl, rfl, hw, at_of (j := 2) rfl rfl, a, s, fp, u, x, y, rfl, hR, g, k⟩
    | reason x y =>
      refine ⟨_, rfl, ca, _, _, _, rfl, rfl, hw, at_of (j := 0) rfl rfl, ?_⟩
      refine ⟨_, rfl, _, _, rfl, rfl, _, rfl, iteF ?_⟩
      refine ⟨_, rfl, _, _, rfl, rfl, _, rfl, iteF ?_⟩
      refine ⟨_, rfl, _, _, rfl, rfl, _, rfl, iteF ?_⟩
      refine ⟨_, rfl, _, _, rfl, rfl, _, rfl, iteF ?_⟩
      refine ⟨_, rfl, _, _, rfl, rfl, _, rfl, iteF ?_⟩
      refine ⟨_, rfl, _, _, rfl, rfl, _, rfl, iteF ?_⟩
      refine ⟨_, rfl, _, _, rfl, rfl, _, rfl, iteF ?_⟩
      refine ⟨_, rfl, _, _, rfl, rfl, _, rfl, iteF ?_⟩
      refine ⟨_, rfl, _, _, rfl, rfl, _, rfl, iteT ?_⟩
      exact ⟨_, rfl, _, rfl, ca, _, _, _, rfl, rfl, hw, at_of (j := 1) rfl rfl, _, rfl, ca, _, _, _, rfl, rfl, hw, at_of (j := 2) rfl rfl, a, s, fp, u, x, y, rfl, hR, g, k⟩
    | against x =>
      refine ⟨_, rfl, ca, _, _, _, rfl, rfl, hw, at_of (j := 0) rfl rfl, ?_⟩
      refine ⟨_, rfl, _, _, rfl, rfl, _, rfl, iteF ?_⟩
      refine ⟨_, rfl, _, _, rfl, rfl, _, rfl, iteF ?_⟩
      refine ⟨_, rfl, _, _, rfl, rfl, _, rfl, iteF ?_⟩
      refine ⟨_, rfl, _, _, rfl, rfl, _, rfl, iteF ?_⟩
      refine ⟨_, rfl, _, _, rfl, rfl, _, rfl, iteF ?_⟩
      refine ⟨_, rfl, _, _, rfl, rfl, _, rfl, iteF ?_⟩
      refine ⟨_, rfl, _, _, rfl, rfl, _, rfl, iteF ?_⟩
      refine ⟨_, rfl, _, _, rfl, rfl, _, rfl, iteF ?_⟩
      refine ⟨_, rfl, _, _, rfl, rfl, _, rfl, iteF ?_⟩
      refine ⟨_, rfl, _, _, rfl, rfl, _, rfl, iteT ?_⟩
      exact ⟨_, rfl, _, rfl, ca, _, _, _, rfl, rfl, hw, at_of (j := 1) rfl rfl, a, s, fp, u, x, rfl, hR, g, k⟩
    | could x y z v =>
      refine ⟨_, rfl, ca, _, _, _, rfl, rfl, hw, at_of (j := 0) rfl rfl, ?_⟩
      refine ⟨_, rfl, _, _, rfl, rfl, _, rfl, iteF ?_⟩
      refine ⟨_, rfl, _, _, rfl, rfl, _, rfl, iteF ?_⟩
      refine ⟨_, rfl, _, _, rfl, rfl, _, rfl, iteF ?_⟩
      refine ⟨_, rfl, _, _, rfl, rfl, _, rfl, iteF ?_⟩
      refine ⟨_, rfl, _, _, rfl, rfl, _, rfl, iteF ?_⟩
      refine ⟨_, rfl, _, _, rfl, rfl, _, rfl, iteF ?_⟩
      refine ⟨_, rfl, _, _, rfl, rfl, _, rfl, iteF ?_⟩
      refine ⟨_, rfl, _, _, rfl, rfl, _, rfl, iteF ?_⟩
      refine ⟨_, rfl, _, _, rfl, rfl, _, rfl, iteF ?_⟩
      refine ⟨_, rfl, _, _, rfl, rfl, _, rfl, iteF ?_⟩
      refine ⟨_, rfl, _, _, rfl, rfl, _, rfl, iteT ?_⟩
      exact ⟨_, rfl, _, rfl, ca, _, _, _, rfl, rfl, hw, at_of (j := 1) rfl rfl, _, rfl, ca, _, _, _, rfl, rfl, hw, at_of (j := 2) rfl rfl, _, rfl, ca, _, _, _, rfl, rfl, hw, at_of (j := 3) rfl rfl, _, rfl, ca, _, _, _, rfl, rfl, hw, at_of (j := 4) rfl rfl, a, s, fp, u, x, y, z, v, rfl, hR, g, k⟩
    | of_ x =>
      refine ⟨_, rfl, ca, _, _, _, rfl, rfl, hw, at_of (j := 0) rfl rfl, ?_⟩
      refine ⟨_, rfl, _, _, rfl, rfl, _, rfl, iteF ?_⟩
      refine ⟨_, rfl, _, _, rfl, rfl, _, rfl, iteF ?_⟩
      refine ⟨_, rfl, _, _, rfl, rfl, _, rfl, iteF ?_⟩
      refine ⟨_, rfl, _, _, rfl, rfl, _, rfl, iteF ?_⟩
      refine ⟨_, rfl, _, _, rfl, rfl, _, rfl, iteF ?_⟩
      refine ⟨_, rfl, _, _, rfl, rfl, _, rfl, iteF ?_⟩
      refine ⟨_, rfl, _, _, rfl, rfl, _, rfl, iteF ?_⟩
      refine ⟨_, rfl, _, _, rfl, rfl, _, rfl, iteF ?_⟩
      refine ⟨_, rfl, _, _, rfl, rfl, _, rfl, iteF ?_⟩
      refine ⟨_, rfl, _, _, rfl, rfl, _, rfl, iteF ?_⟩
      refine ⟨_, rfl, _, _, rfl, rfl, _, rfl, iteF ?_⟩
      refine ⟨_, rfl, _, _, rfl, rfl, _, rfl, iteT ?_⟩
      exact ⟨_, rfl, _, rfl, ca, _, _, _, rfl, rfl, hw, at_of (j := 1) rfl rfl, a, s, fp, u, x, rfl, hR, g, k⟩
    | once x =>
      refine ⟨_, rfl, ca, _, _, _, rfl, rfl, hw, at_of (j := 0) rfl rfl, ?_⟩
      refine ⟨_, rfl, _, _, rfl, rfl, _, rfl, iteF ?_⟩
      refine ⟨_, rfl, _, _, rfl, rfl, _, rfl, iteF ?_⟩
      refine ⟨_, rfl, _, _, rfl, rfl, _, rfl, iteF ?_⟩
      refine ⟨_, rfl, _, _, rfl, rfl, _, rfl, iteF ?_⟩
      refine ⟨_, rfl, _, _, rfl, rfl, _, rfl, iteF ?_⟩
      refine ⟨_, rfl, _, _, rfl, rfl, _, rfl, iteF ?_⟩
      refine ⟨_, rfl, _, _, rfl, rfl, _, rfl, iteF ?_⟩
      refine ⟨_, rfl, _, _, rfl, rfl, _, rfl, iteF ?_⟩
      refine ⟨_, rfl, _, _, rfl, rfl, _, rfl, iteF ?_⟩
      refine ⟨_, rfl, _, _, rfl, rfl, _, rfl, iteF ?_⟩
      refine ⟨_, rfl, _, _, rfl, rfl, _, rfl, iteF ?_⟩
      refine ⟨_, rfl, _, _, rfl, rfl, _, rfl, iteF ?_⟩
      exact ⟨_, rfl, _, rfl, ca, _, _, _, rfl, rfl, hw, at_of (j := 1) rfl rfl, a, s, fp, u, x, rfl, hR, g, k⟩
theorem ok_answers (T : Txt K mg t) : FnOk P w K mg base CX0 10 t.f_answers t.d_answers ["calls"] (spAnswers K) := by
  refine T.F_answers.ok sc_answers (fun vs H Q E h => ?_) (fun cdv A outer s H vs Q E hr h => ?_)
  · obtain ⟨_, _, rfl, _⟩ := h
    rfl
  · obtain ⟨la, ns, rfl, hS, hask, k⟩ := h
    refine ⟨_, (pss_cons (ps_set (i := 1) sc_answers.nd rfl (Or.inl rfl) (pe_make0 T.M_Room (ok_Room_init T) (hr.mono (by decide)) rfl T.m_Room T.b_Room_init .nil pass0)) (pss_cons (ps_set (i := 2) sc_answers.nd rfl (Or.inl rfl) (pe_lst pa_nil)) (pss_cons (ps_set (i := 3) sc_answers.nd rfl (Or.inl rfl) pe_int) (pss_cons (ps_while PassesOwn.never (pt_cmp (pc_lt (pv 3) (pe_callB (call_lenK (K := K) rfl) (by rfl) T.z_len PySem.boot_len (pa_cons (pv 0) pa_nil)))) (pss_cons (ps_set (i := 4) sc_answers.nd rfl (Or.inl rfl) (pe_call (ok_call_length T) (hr.mono (by decide)) rfl T.m_call_length T.F_call_length.kp T.b_call_length .nil pass0 (pa_cons (pv 0) (pa_cons (pv 3) pa_nil)))) (pss_cons (ps_set (i := 5) sc_answers.nd rfl (Or.inl rfl) (pe_call (ok_answer_to T) hr rfl T.m_answer_to T.F_answer_to.kp T.b_answer_to .nil pass0 (pa_cons (pv 1) (pa_cons (pe_slice (sl_listK (K := K) rfl) (pv 0) (po_some (pv 3)) (po_some (pe_op op_add (pv 3) (pv 4)))) pa_nil)))) (pss_cons (ps_expr (pe_bm PySem.F.plainAttrs_list PySem.F.slot_list_append PySem.F.type_list_append mt_append (pv 2) (pa_cons (pe_callB (call_lenK (K := K) rfl) (by rfl) T.z_len PySem.boot_len (pa_cons (pv 5) pa_nil)) pa_nil))) (pss_cons (ps_expr (pe_bm PySem.F.plainAttrs_list PySem.F.slot_list_extend PySem.F.type_list_extend mt_extend (pv 2) (pa_cons (pv 5) pa_nil))) (pss_one (ps_set (i := 3) sc_answers.nd rfl (Or.inl rfl) (pe_op op_add (pv 3) (pv 4))))))))) (pss_one (ps_ret (pv 2))))))), ?_⟩
    intro a dx n1 n2 n3
    refine ⟨a, dx, rfl, upd_same, fun H1 fp R1 k1 => ⟨rfl, ?_⟩⟩
    refine ⟨Nat.zero_le _, fun g hg => ?_⟩
    have kH : ∀ b o, H b = some o → H1 b = some o ∧ b ∉ fp := fun b o hb => k1 b o (by rw [upd_ne (ne_of_none hb n1), upd_ne (ne_of_none hb n2)]; exact hb) (ne_of_none hb n1)
    have gfp : g ∉ fp := by
      obtain ⟨_, _, _, _, _, _, _, e, I⟩ := R1
      rw [e]
      exact I.dom hg
    have start : Loop t H ns la a g ns.length [some (.ref la), some (.ref a), some (.ref g), some (nV 0), none, none] (upd H1 g (.lst [])) := by
      refine ⟨[], ns, [], Sy35.init, freshRm [0], fp, none, none, rfl, rfl, rfl, run_start hask, R1.same (Same.new hg), good_fresh (by intro r hr; rw [List.mem_singleton.mp hr]; exact Nat.zero_le _), upd_same, gfp, fun o ho => ?_⟩
      obtain ⟨q1, q2⟩ := kH la o ho
      have ne := ne_of_none q1 hg
      exact ⟨by rw [upd_ne ne]; exact q1, q2, ne⟩
    refine ⟨Loop t H ns la a g, ⟨_, start⟩, fun m σ H2 L => ?_⟩
    obtain ⟨d, r, gs, u, s, fp, v4, v5, rfl, rfl, rfl, run, R2, g2, hg2, gfp2, kl⟩ := L.ex
    have sq2 : SqL K H2 la ((d ++ r).map V.int) := sq_from hS fun o ho => (kl o ho).1
    refine ⟨_, rfl, _, rfl, la, _, rfl, .inl sq2, _, _, rfl, rfl, _, rfl, ite2 (fun h => ?_) (fun h => ?_)⟩
    · have hlt : d.length < (d ++ r).length := by have := d_t h; rw [List.length_map] at this; omega
      have hr0 : 0 < r.length := by rw [List.length_append] at hlt; omega
      obtain ⟨p, r', rfl⟩ : ∃ p r', r = p :: r' := match r, hr0 with | p :: r', _ => ⟨p, r', rfl⟩
      obtain ⟨w, r2, c, hw, hwl, raw, run2⟩ := run_step run
      rw [hw] at sq2 run2 ⊢
      have hsz : gs.length + (Sy35Neutral.out (Sy35.step u c).2).length + 1 ≤ 1000060 := by
        have := run_pre run2
        rw [List.length_append, List.length_cons] at this
        have := run_size hask
        rw [hw] at this
        omega
      refine ⟨fun σ' H' => ∃ m', m' < (w ++ r2).length ∧ Loop t H (d ++ (w ++ r2)) la a g m' σ' H', fun σ' H' q => q, ?_⟩
      refine ⟨_, rfl, _, rfl, la, d, w, r2, c, rfl, sq2, raw, ?_⟩
      refine ⟨_, rfl, _, rfl, _, rfl, _, rfl, _, rfl, _, rfl, _, _, rfl, rfl, _, rfl, la, _, rfl, sq2, fun ca hca => ?_⟩
      have sc : Same H2 (upd H2 ca (.lst (cutV ((d ++ (w ++ r2)).map V.int) (some (d.length : Int)) (some ((d.length : Int) + (w.length : Int)))))) := Same.new hca
      refine ⟨a, ca, s, fp, u, w, c, rfl, R2.same sc, g2, SqL.of (by rw [upd_same, cut_mid]), raw, fun H3 fp3 p3 s3 R3 g3 kp3 f3 h3 => ?_⟩
      have kp := (Keep.same fp sc).trans kp3
      obtain ⟨hg3, gfp3⟩ := kp.at_ g _ hg2 gfp2
      have npg : g ≠ p3 := ne_of_none (sc _ _ hg2) f3
      refine ⟨_, rfl, .inl ⟨rfl, _, SqL.of hg3⟩, _, rfl, p3, _, rfl, .inl (SqL.of h3), g, _, _, rfl, rfl, hg3, ?_, ?_⟩
      · rw [List.length_map]
        exact Nat.lt_of_lt_of_le (show gs.length < 2000000 by omega) (by decide)
      have h3' : upd H3 g (.lst (gs.map V.int ++ [V.int (((Sy35Neutral.out (Sy35.step u c).2).map V.int).length : Nat)])) p3 = some (.lst ((Sy35Neutral.out (Sy35.step u c).2).map V.int)) := by rw [upd_ne (Ne.symm npg)]; exact h3
      refine ⟨_, rfl, .inl ⟨rfl, _, SqL.of upd_same⟩, _, rfl, g, p3, _, _, rfl, rfl, upd_same, h3', ?_, ?_⟩
      · simp
        exact line_big (by omega)
      refine ⟨_, rfl, _, rfl, _, _, rfl, rfl, r2.length, ?_, ?_⟩
      · rw [List.length_append]; omega
      · refine ⟨d ++ w, r2, gs ++ (((Sy35Neutral.out (Sy35.step u c).2).length : Int) :: Sy35Neutral.out (Sy35.step u c).2), (Sy35.step u c).1, s3, fp3, some (nV w.length), some (V.ref p3), ?_, (List.append_assoc ..).symm, rfl, run2, ?_, g3, ?_, gfp3, fun o ho => ?_⟩
        · rw [List.length_append]
          rfl
        · rw [upd_upd]
          exact R3.aside hg3 gfp3
        · rw [upd_same]
          simp
        · obtain ⟨q1, q2, q3⟩ := kl o ho
          obtain ⟨q4, q5⟩ := kp.at_ la o q1 q2
          exact ⟨by rw [upd_ne q3, upd_ne q3]; exact q4, q5, q3⟩
    · have hr0 : r = [] := by
        have := d_f h
        rw [List.length_map, List.length_append] at this
        exact List.length_eq_zero_iff.mp (by omega)
      subst hr0
      rw [← run_end run] at hg2
      exact ⟨_, rfl, k H2 g hg2⟩
end
end Ck
namespace Ck
open PySem PySem.Spec PyProof.Rows L2
open PySem.W (Codec)
theorem txt_mk {K : PySem.W.Frag} {h : Heap} {mg : Str → Option Value} (X : K.In h) (G : h.Ns mainGlobals mg)
    {C_Event : Addr}
    {C_Signal : Addr}
    {C_Room : Addr}
    {C_Belief : Addr}
    {f_era_bound : Addr} {od_era_bound an_era_bound : Option Addr} {sl_era_bound : Array (Option Value)} {oc_era_bound kV_era_bound dc_era_bound pm_era_bound cd_era_bound ct_era_bound : Value}
    {f_clock_bound : Addr} {od_clock_bound an_clock_bound : Option Addr} {sl_clock_bound : Array (Option Value)} {oc_clock_bound kV_clock_bound dc_clock_bound pm_clock_bound cd_clock_bound ct_clock_bound : Value}
    {f_bound_sum : Addr} {od_bound_sum an_bound_sum : Option Addr} {sl_bound_sum : Array (Option Value)} {oc_bound_sum kV_bound_sum dc_bound_sum pm_bound_sum cd_bound_sum ct_bound_sum : Value}
    {f_bound_least : Addr} {od_bound_least an_bound_least : Option Addr} {sl_bound_least : Array (Option Value)} {oc_bound_least kV_bound_least dc_bound_least pm_bound_least cd_bound_least ct_bound_least : Value}
    {f_row_by_way : Addr} {od_row_by_way an_row_by_way : Option Addr} {sl_row_by_way : Array (Option Value)} {oc_row_by_way kV_row_by_way dc_row_by_way pm_row_by_way cd_row_by_way ct_row_by_way : Value}
    {f_with_bound : Addr} {od_with_bound an_with_bound : Option Addr} {sl_with_bound : Array (Option Value)} {oc_with_bound kV_with_bound dc_with_bound pm_with_bound cd_with_bound ct_with_bound : Value}
    {f_clock_row : Addr} {od_clock_row an_clock_row : Option Addr} {sl_clock_row : Array (Option Value)} {oc_clock_row kV_clock_row dc_clock_row pm_clock_row cd_clock_row ct_clock_row : Value}
    {f_own_clock_bounds : Addr} {od_own_clock_bounds an_own_clock_bounds : Option Addr} {sl_own_clock_bounds : Array (Option Value)} {oc_own_clock_bounds kV_own_clock_bounds dc_own_clock_bounds pm_own_clock_bounds cd_own_clock_bounds ct_own_clock_bounds : Value}
    {f_clock_table : Addr} {od_clock_table an_clock_table : Option Addr} {sl_clock_table : Array (Option Value)} {oc_clock_table kV_clock_table dc_clock_table pm_clock_table cd_clock_table ct_clock_table : Value}
    {f_least_later : Addr} {od_least_later an_least_later : Option Addr} {sl_least_later : Array (Option Value)} {oc_least_later kV_least_later dc_least_later pm_least_later cd_least_later ct_least_later : Value}
    {f_surely_before : Addr} {od_surely_before an_surely_before : Option Addr} {sl_surely_before : Array (Option Value)} {oc_surely_before kV_surely_before dc_surely_before pm_surely_before cd_surely_before ct_surely_before : Value}
    {f_surely_at_once : Addr} {od_surely_at_once an_surely_at_once : Option Addr} {sl_surely_at_once : Array (Option Value)} {oc_surely_at_once kV_surely_at_once dc_surely_at_once pm_surely_at_once cd_surely_at_once ct_surely_at_once : Value}
    {f_bound_fits : Addr} {od_bound_fits an_bound_fits : Option Addr} {sl_bound_fits : Array (Option Value)} {oc_bound_fits kV_bound_fits dc_bound_fits pm_bound_fits cd_bound_fits ct_bound_fits : Value}
    {f_least_fits : Addr} {od_least_fits an_least_fits : Option Addr} {sl_least_fits : Array (Option Value)} {oc_least_fits kV_least_fits dc_least_fits pm_least_fits cd_least_fits ct_least_fits : Value}
    {f_signal_fits : Addr} {od_signal_fits an_signal_fits : Option Addr} {sl_signal_fits : Array (Option Value)} {oc_signal_fits kV_signal_fits dc_signal_fits pm_signal_fits cd_signal_fits ct_signal_fits : Value}
    {f_with_signal : Addr} {od_with_signal an_with_signal : Option Addr} {sl_with_signal : Array (Option Value)} {oc_with_signal kV_with_signal dc_with_signal pm_with_signal cd_with_signal ct_with_signal : Value}
    {f_bounds_at : Addr} {od_bounds_at an_bounds_at : Option Addr} {sl_bounds_at : Array (Option Value)} {oc_bounds_at kV_bounds_at dc_bounds_at pm_bounds_at cd_bounds_at ct_bounds_at : Value}
    {f_bounds_fit : Addr} {od_bounds_fit an_bounds_fit : Option Addr} {sl_bounds_fit : Array (Option Value)} {oc_bounds_fit kV_bounds_fit dc_bounds_fit pm_bounds_fit cd_bounds_fit ct_bounds_fit : Value}
    {f_own_bounds : Addr} {od_own_bounds an_own_bounds : Option Addr} {sl_own_bounds : Array (Option Value)} {oc_own_bounds kV_own_bounds dc_own_bounds pm_own_bounds cd_own_bounds ct_own_bounds : Value}
    {f_leads_on : Addr} {od_leads_on an_leads_on : Option Addr} {sl_leads_on : Array (Option Value)} {oc_leads_on kV_leads_on dc_leads_on pm_leads_on cd_leads_on ct_leads_on : Value}
    {f_bound_row : Addr} {od_bound_row an_bound_row : Option Addr} {sl_bound_row : Array (Option Value)} {oc_bound_row kV_bound_row dc_bound_row pm_bound_row cd_bound_row ct_bound_row : Value}
    {f_Event_init : Addr} {od_Event_init an_Event_init : Option Addr} {sl_Event_init : Array (Option Value)} {oc_Event_init kV_Event_init dc_Event_init pm_Event_init cd_Event_init ct_Event_init : Value}
    {f_Signal_init : Addr} {od_Signal_init an_Signal_init : Option Addr} {sl_Signal_init : Array (Option Value)} {oc_Signal_init kV_Signal_init dc_Signal_init pm_Signal_init cd_Signal_init ct_Signal_init : Value}
    {f_Room_init : Addr} {od_Room_init an_Room_init : Option Addr} {sl_Room_init : Array (Option Value)} {oc_Room_init kV_Room_init dc_Room_init pm_Room_init cd_Room_init ct_Room_init : Value}
    {f_Room_renew : Addr} {od_Room_renew an_Room_renew : Option Addr} {sl_Room_renew : Array (Option Value)} {oc_Room_renew kV_Room_renew dc_Room_renew pm_Room_renew cd_Room_renew ct_Room_renew : Value}
    {f_Room_note : Addr} {od_Room_note an_Room_note : Option Addr} {sl_Room_note : Array (Option Value)} {oc_Room_note kV_Room_note dc_Room_note pm_Room_note cd_Room_note ct_Room_note : Value}
    {f_Room_has_clock : Addr} {od_Room_has_clock an_Room_has_clock : Option Addr} {sl_Room_has_clock : Array (Option Value)} {oc_Room_has_clock kV_Room_has_clock dc_Room_has_clock pm_Room_has_clock cd_Room_has_clock ct_Room_has_clock : Value}
    {f_Room_has_event : Addr} {od_Room_has_event an_Room_has_event : Option Addr} {sl_Room_has_event : Array (Option Value)} {oc_Room_has_event kV_Room_has_event dc_Room_has_event pm_Room_has_event cd_Room_has_event ct_Room_has_event : Value}
    {f_Room_has_both : Addr} {od_Room_has_both an_Room_has_both : Option Addr} {sl_Room_has_both : Array (Option Value)} {oc_Room_has_both kV_Room_has_both dc_Room_has_both pm_Room_has_both cd_Room_has_both ct_Room_has_both : Value}
    {f_Belief_init : Addr} {od_Belief_init an_Belief_init : Option Addr} {sl_Belief_init : Array (Option Value)} {oc_Belief_init kV_Belief_init dc_Belief_init pm_Belief_init cd_Belief_init ct_Belief_init : Value}
    {f_belief_before : Addr} {od_belief_before an_belief_before : Option Addr} {sl_belief_before : Array (Option Value)} {oc_belief_before kV_belief_before dc_belief_before pm_belief_before cd_belief_before ct_belief_before : Value}
    {f_belief_of : Addr} {od_belief_of an_belief_of : Option Addr} {sl_belief_of : Array (Option Value)} {oc_belief_of kV_belief_of dc_belief_of pm_belief_of cd_belief_of ct_belief_of : Value}
    {f_row_by : Addr} {od_row_by an_row_by : Option Addr} {sl_row_by : Array (Option Value)} {oc_row_by kV_row_by dc_row_by pm_row_by cd_row_by ct_row_by : Value}
    {f_begin : Addr} {od_begin an_begin : Option Addr} {sl_begin : Array (Option Value)} {oc_begin kV_begin dc_begin pm_begin cd_begin ct_begin : Value}
    {f_tell_event : Addr} {od_tell_event an_tell_event : Option Addr} {sl_tell_event : Array (Option Value)} {oc_tell_event kV_tell_event dc_tell_event pm_tell_event cd_tell_event ct_tell_event : Value}
    {f_era_reached : Addr} {od_era_reached an_era_reached : Option Addr} {sl_era_reached : Array (Option Value)} {oc_era_reached kV_era_reached dc_era_reached pm_era_reached cd_era_reached ct_era_reached : Value}
    {f_set_clock : Addr} {od_set_clock an_set_clock : Option Addr} {sl_set_clock : Array (Option Value)} {oc_set_clock kV_set_clock dc_set_clock pm_set_clock cd_set_clock ct_set_clock : Value}
    {f_tell_signal : Addr} {od_tell_signal an_tell_signal : Option Addr} {sl_tell_signal : Array (Option Value)} {oc_tell_signal kV_tell_signal dc_tell_signal pm_tell_signal cd_tell_signal ct_tell_signal : Value}
    {f_signal_refusal : Addr} {od_signal_refusal an_signal_refusal : Option Addr} {sl_signal_refusal : Array (Option Value)} {oc_signal_refusal kV_signal_refusal dc_signal_refusal pm_signal_refusal cd_signal_refusal ct_signal_refusal : Value}
    {f_strike : Addr} {od_strike an_strike : Option Addr} {sl_strike : Array (Option Value)} {oc_strike kV_strike dc_strike pm_strike cd_strike ct_strike : Value}
    {f_with_length : Addr} {od_with_length an_with_length : Option Addr} {sl_with_length : Array (Option Value)} {oc_with_length kV_with_length dc_with_length pm_with_length cd_with_length ct_with_length : Value}
    {f_bound_list : Addr} {od_bound_list an_bound_list : Option Addr} {sl_bound_list : Array (Option Value)} {oc_bound_list kV_bound_list dc_bound_list pm_bound_list cd_bound_list ct_bound_list : Value}
    {f_counted : Addr} {od_counted an_counted : Option Addr} {sl_counted : Array (Option Value)} {oc_counted kV_counted dc_counted pm_counted cd_counted ct_counted : Value}
    {f_tell_believed : Addr} {od_tell_believed an_tell_believed : Option Addr} {sl_tell_believed : Array (Option Value)} {oc_tell_believed kV_tell_believed dc_tell_believed pm_tell_believed cd_tell_believed ct_tell_believed : Value}
    {f_tell_between : Addr} {od_tell_between an_tell_between : Option Addr} {sl_tell_between : Array (Option Value)} {oc_tell_between kV_tell_between dc_tell_between pm_tell_between cd_tell_between ct_tell_between : Value}
    {f_tell_order : Addr} {od_tell_order an_tell_order : Option Addr} {sl_tell_order : Array (Option Value)} {oc_tell_order kV_tell_order dc_tell_order pm_tell_order cd_tell_order ct_tell_order : Value}
    {f_tell_reason : Addr} {od_tell_reason an_tell_reason : Option Addr} {sl_tell_reason : Array (Option Value)} {oc_tell_reason kV_tell_reason dc_tell_reason pm_tell_reason cd_tell_reason ct_tell_reason : Value}
    {f_tell_against : Addr} {od_tell_against an_tell_against : Option Addr} {sl_tell_against : Array (Option Value)} {oc_tell_against kV_tell_against dc_tell_against pm_tell_against cd_tell_against ct_tell_against : Value}
    {f_tell_could : Addr} {od_tell_could an_tell_could : Option Addr} {sl_tell_could : Array (Option Value)} {oc_tell_could kV_tell_could dc_tell_could pm_tell_could cd_tell_could ct_tell_could : Value}
    {f_tell_of : Addr} {od_tell_of an_tell_of : Option Addr} {sl_tell_of : Array (Option Value)} {oc_tell_of kV_tell_of dc_tell_of pm_tell_of cd_tell_of ct_tell_of : Value}
    {f_tell_once : Addr} {od_tell_once an_tell_once : Option Addr} {sl_tell_once : Array (Option Value)} {oc_tell_once kV_tell_once dc_tell_once pm_tell_once cd_tell_once ct_tell_once : Value}
    {f_answer_to : Addr} {od_answer_to an_answer_to : Option Addr} {sl_answer_to : Array (Option Value)} {oc_answer_to kV_answer_to dc_answer_to pm_answer_to cd_answer_to ct_answer_to : Value}
    {f_call_length : Addr} {od_call_length an_call_length : Option Addr} {sl_call_length : Array (Option Value)} {oc_call_length kV_call_length dc_call_length pm_call_length cd_call_length ct_call_length : Value}
    {f_answers : Addr} {od_answers an_answers : Option Addr} {sl_answers : Array (Option Value)} {oc_answers kV_answers dc_answers pm_answers cd_answers ct_answers : Value}
    {u_MILLION : Tok}
    {u_MOST_CLOCKS : Tok}
    {u_MOST_RATE : Tok}
    {u_MOST_READING : Tok}
    {u_MOST_EVENTS : Tok}
    {u_MOST_SIGNALS : Tok}
    {u_MOST_ON_WAY : Tok}
    {u_BEGINS : Tok}
    {u_EVENT : Tok}
    {u_SET : Tok}
    {u_SIGNAL : Tok}
    {u_STRIKE : Tok}
    {u_BELIEVED : Tok}
    {u_BETWEEN : Tok}
    {u_ORDER : Tok}
    {u_REASON : Tok}
    {u_AGAINST : Tok}
    {u_COULD : Tok}
    {u_OF : Tok}
    {A_WIDTHS : Addr} {t_WIDTHS_0 t_WIDTHS_1 t_WIDTHS_2 t_WIDTHS_3 t_WIDTHS_4 t_WIDTHS_5 t_WIDTHS_6 t_WIDTHS_7 t_WIDTHS_8 t_WIDTHS_9 t_WIDTHS_10 t_WIDTHS_11 t_WIDTHS_12 : Tok} {nn_WIDTHS : Nat} {ow_WIDTHS : Option Addr} {sw_WIDTHS : Array (Option Value)}
    (aC_Event : PySem.W.nsIn K mainGlobals "Event" = some (some (.ref C_Event)))
    (aC_Signal : PySem.W.nsIn K mainGlobals "Signal" = some (some (.ref C_Signal)))
    (aC_Room : PySem.W.nsIn K mainGlobals "Room" = some (some (.ref C_Room)))
    (aC_Belief : PySem.W.nsIn K mainGlobals "Belief" = some (some (.ref C_Belief)))
    (a_era_bound : PySem.W.nsIn K mainGlobals "era_bound" = some (some (.ref f_era_bound)))
    (l_era_bound : K.lookup f_era_bound = some ⟨oc_era_bound, od_era_bound, .func (PySem.W.fnOf "era_bound" "era_bound" (defArgs s_era_bound) (defBody s_era_bound) (defScope s_era_bound) .none kV_era_bound dc_era_bound pm_era_bound an_era_bound cd_era_bound ct_era_bound), sl_era_bound⟩)
    (c_era_bound : PySem.W.codeIn K cd_era_bound "era_bound" = true)
    (k_era_bound : PySem.W.keepIn K (.ref f_era_bound) = true)
    (a_clock_bound : PySem.W.nsIn K mainGlobals "clock_bound" = some (some (.ref f_clock_bound)))
    (l_clock_bound : K.lookup f_clock_bound = some ⟨oc_clock_bound, od_clock_bound, .func (PySem.W.fnOf "clock_bound" "clock_bound" (defArgs s_clock_bound) (defBody s_clock_bound) (defScope s_clock_bound) .none kV_clock_bound dc_clock_bound pm_clock_bound an_clock_bound cd_clock_bound ct_clock_bound), sl_clock_bound⟩)
    (c_clock_bound : PySem.W.codeIn K cd_clock_bound "clock_bound" = true)
    (k_clock_bound : PySem.W.keepIn K (.ref f_clock_bound) = true)
    (a_bound_sum : PySem.W.nsIn K mainGlobals "bound_sum" = some (some (.ref f_bound_sum)))
    (l_bound_sum : K.lookup f_bound_sum = some ⟨oc_bound_sum, od_bound_sum, .func (PySem.W.fnOf "bound_sum" "bound_sum" (defArgs s_bound_sum) (defBody s_bound_sum) (defScope s_bound_sum) .none kV_bound_sum dc_bound_sum pm_bound_sum an_bound_sum cd_bound_sum ct_bound_sum), sl_bound_sum⟩)
    (c_bound_sum : PySem.W.codeIn K cd_bound_sum "bound_sum" = true)
    (k_bound_sum : PySem.W.keepIn K (.ref f_bound_sum) = true)
    (a_bound_least : PySem.W.nsIn K mainGlobals "bound_least" = some (some (.ref f_bound_least)))
    (l_bound_least : K.lookup f_bound_least = some ⟨oc_bound_least, od_bound_least, .func (PySem.W.fnOf "bound_least" "bound_least" (defArgs s_bound_least) (defBody s_bound_least) (defScope s_bound_least) .none kV_bound_least dc_bound_least pm_bound_least an_bound_least cd_bound_least ct_bound_least), sl_bound_least⟩)
    (c_bound_least : PySem.W.codeIn K cd_bound_least "bound_least" = true)
    (k_bound_least : PySem.W.keepIn K (.ref f_bound_least) = true)
    (a_row_by_way : PySem.W.nsIn K mainGlobals "row_by_way" = some (some (.ref f_row_by_way)))
    (l_row_by_way : K.lookup f_row_by_way = some ⟨oc_row_by_way, od_row_by_way, .func (PySem.W.fnOf "row_by_way" "row_by_way" (defArgs s_row_by_way) (defBody s_row_by_way) (defScope s_row_by_way) .none kV_row_by_way dc_row_by_way pm_row_by_way an_row_by_way cd_row_by_way ct_row_by_way), sl_row_by_way⟩)
    (c_row_by_way : PySem.W.codeIn K cd_row_by_way "row_by_way" = true)
    (k_row_by_way : PySem.W.keepIn K (.ref f_row_by_way) = true)
    (a_with_bound : PySem.W.nsIn K mainGlobals "with_bound" = some (some (.ref f_with_bound)))
    (l_with_bound : K.lookup f_with_bound = some ⟨oc_with_bound, od_with_bound, .func (PySem.W.fnOf "with_bound" "with_bound" (defArgs s_with_bound) (defBody s_with_bound) (defScope s_with_bound) .none kV_with_bound dc_with_bound pm_with_bound an_with_bound cd_with_bound ct_with_bound), sl_with_bound⟩)
    (c_with_bound : PySem.W.codeIn K cd_with_bound "with_bound" = true)
    (k_with_bound : PySem.W.keepIn K (.ref f_with_bound) = true)
    (a_clock_row : PySem.W.nsIn K mainGlobals "clock_row" = some (some (.ref f_clock_row)))
    (l_clock_row : K.lookup f_clock_row = some ⟨oc_clock_row, od_clock_row, .func (PySem.W.fnOf "clock_row" "clock_row" (defArgs s_clock_row) (defBody s_clock_row) (defScope s_clock_row) .none kV_clock_row dc_clock_row pm_clock_row an_clock_row cd_clock_row ct_clock_row), sl_clock_row⟩)
    (c_clock_row : PySem.W.codeIn K cd_clock_row "clock_row" = true)
    (k_clock_row : PySem.W.keepIn K (.ref f_clock_row) = true)
    (a_own_clock_bounds : PySem.W.nsIn K mainGlobals "own_clock_bounds" = some (some (.ref f_own_clock_bounds)))
    (l_own_clock_bounds : K.lookup f_own_clock_bounds = some ⟨oc_own_clock_bounds, od_own_clock_bounds, .func (PySem.W.fnOf "own_clock_bounds" "own_clock_bounds" (defArgs s_own_clock_bounds) (defBody s_own_clock_bounds) (defScope s_own_clock_bounds) .none kV_own_clock_bounds dc_own_clock_bounds pm_own_clock_bounds an_own_clock_bounds cd_own_clock_bounds ct_own_clock_bounds), sl_own_clock_bounds⟩)
    (c_own_clock_bounds : PySem.W.codeIn K cd_own_clock_bounds "own_clock_bounds" = true)
    (k_own_clock_bounds : PySem.W.keepIn K (.ref f_own_clock_bounds) = true)
    (a_clock_table : PySem.W.nsIn K mainGlobals "clock_table" = some (some (.ref f_clock_table)))
    (l_clock_table : K.lookup f_clock_table = some ⟨oc_clock_table, od_clock_table, .func (PySem.W.fnOf "clock_table" "clock_table" (defArgs s_clock_table) (defBody s_clock_table) (defScope s_clock_table) .none kV_clock_table dc_clock_table pm_clock_table an_clock_table cd_clock_table ct_clock_table), sl_clock_table⟩)
    (c_clock_table : PySem.W.codeIn K cd_clock_table "clock_table" = true)
    (k_clock_table : PySem.W.keepIn K (.ref f_clock_table) = true)
    (a_least_later : PySem.W.nsIn K mainGlobals "least_later" = some (some (.ref f_least_later)))
    (l_least_later : K.lookup f_least_later = some ⟨oc_least_later, od_least_later, .func (PySem.W.fnOf "least_later" "least_later" (defArgs s_least_later) (defBody s_least_later) (defScope s_least_later) .none kV_least_later dc_least_later pm_least_later an_least_later cd_least_later ct_least_later), sl_least_later⟩)
    (c_least_later : PySem.W.codeIn K cd_least_later "least_later" = true)
    (k_least_later : PySem.W.keepIn K (.ref f_least_later) = true)
    (a_surely_before : PySem.W.nsIn K mainGlobals "surely_before" = some (some (.ref f_surely_before)))
    (l_surely_before : K.lookup f_surely_before = some ⟨oc_surely_before, od_surely_before, .func (PySem.W.fnOf "surely_before" "surely_before" (defArgs s_surely_before) (defBody s_surely_before) (defScope s_surely_before) .none kV_surely_before dc_surely_before pm_surely_before an_surely_before cd_surely_before ct_surely_before), sl_surely_before⟩)
    (c_surely_before : PySem.W.codeIn K cd_surely_before "surely_before" = true)
    (k_surely_before : PySem.W.keepIn K (.ref f_surely_before) = true)
    (a_surely_at_once : PySem.W.nsIn K mainGlobals "surely_at_once" = some (some (.ref f_surely_at_once)))
    (l_surely_at_once : K.lookup f_surely_at_once = some ⟨oc_surely_at_once, od_surely_at_once, .func (PySem.W.fnOf "surely_at_once" "surely_at_once" (defArgs s_surely_at_once) (defBody s_surely_at_once) (defScope s_surely_at_once) .none kV_surely_at_once dc_surely_at_once pm_surely_at_once an_surely_at_once cd_surely_at_once ct_surely_at_once), sl_surely_at_once⟩)
    (c_surely_at_once : PySem.W.codeIn K cd_surely_at_once "surely_at_once" = true)
    (k_surely_at_once : PySem.W.keepIn K (.ref f_surely_at_once) = true)
    (a_bound_fits : PySem.W.nsIn K mainGlobals "bound_fits" = some (some (.ref f_bound_fits)))
    (l_bound_fits : K.lookup f_bound_fits = some ⟨oc_bound_fits, od_bound_fits, .func (PySem.W.fnOf "bound_fits" "bound_fits" (defArgs s_bound_fits) (defBody s_bound_fits) (defScope s_bound_fits) .none kV_bound_fits dc_bound_fits pm_bound_fits an_bound_fits cd_bound_fits ct_bound_fits), sl_bound_fits⟩)
    (c_bound_fits : PySem.W.codeIn K cd_bound_fits "bound_fits" = true)
    (k_bound_fits : PySem.W.keepIn K (.ref f_bound_fits) = true)
    (a_least_fits : PySem.W.nsIn K mainGlobals "least_fits" = some (some (.ref f_least_fits)))
    (l_least_fits : K.lookup f_least_fits = some ⟨oc_least_fits, od_least_fits, .func (PySem.W.fnOf "least_fits" "least_fits" (defArgs s_least_fits) (defBody s_least_fits) (defScope s_least_fits) .none kV_least_fits dc_least_fits pm_least_fits an_least_fits cd_least_fits ct_least_fits), sl_least_fits⟩)
    (c_least_fits : PySem.W.codeIn K cd_least_fits "least_fits" = true)
    (k_least_fits : PySem.W.keepIn K (.ref f_least_fits) = true)
    (a_signal_fits : PySem.W.nsIn K mainGlobals "signal_fits" = some (some (.ref f_signal_fits)))
    (l_signal_fits : K.lookup f_signal_fits = some ⟨oc_signal_fits, od_signal_fits, .func (PySem.W.fnOf "signal_fits" "signal_fits" (defArgs s_signal_fits) (defBody s_signal_fits) (defScope s_signal_fits) .none kV_signal_fits dc_signal_fits pm_signal_fits an_signal_fits cd_signal_fits ct_signal_fits), sl_signal_fits⟩)
    (c_signal_fits : PySem.W.codeIn K cd_signal_fits "signal_fits" = true)
    (k_signal_fits : PySem.W.keepIn K (.ref f_signal_fits) = true)
    (a_with_signal : PySem.W.nsIn K mainGlobals "with_signal" = some (some (.ref f_with_signal)))
    (l_with_signal : K.lookup f_with_signal = some ⟨oc_with_signal, od_with_signal, .func (PySem.W.fnOf "with_signal" "with_signal" (defArgs s_with_signal) (defBody s_with_signal) (defScope s_with_signal) .none kV_with_signal dc_with_signal pm_with_signal an_with_signal cd_with_signal ct_with_signal), sl_with_signal⟩)
    (c_with_signal : PySem.W.codeIn K cd_with_signal "with_signal" = true)
    (k_with_signal : PySem.W.keepIn K (.ref f_with_signal) = true)
    (a_bounds_at : PySem.W.nsIn K mainGlobals "bounds_at" = some (some (.ref f_bounds_at)))
    (l_bounds_at : K.lookup f_bounds_at = some ⟨oc_bounds_at, od_bounds_at, .func (PySem.W.fnOf "bounds_at" "bounds_at" (defArgs s_bounds_at) (defBody s_bounds_at) (defScope s_bounds_at) .none kV_bounds_at dc_bounds_at pm_bounds_at an_bounds_at cd_bounds_at ct_bounds_at), sl_bounds_at⟩)
    (c_bounds_at : PySem.W.codeIn K cd_bounds_at "bounds_at" = true)
    (k_bounds_at : PySem.W.keepIn K (.ref f_bounds_at) = true)
    (a_bounds_fit : PySem.W.nsIn K mainGlobals "bounds_fit" = some (some (.ref f_bounds_fit)))
    (l_bounds_fit : K.lookup f_bounds_fit = some ⟨oc_bounds_fit, od_bounds_fit, .func (PySem.W.fnOf "bounds_fit" "bounds_fit" (defArgs s_bounds_fit) (defBody s_bounds_fit) (defScope s_bounds_fit) .none kV_bounds_fit dc_bounds_fit pm_bounds_fit an_bounds_fit cd_bounds_fit ct_bounds_fit), sl_bounds_fit⟩)
    (c_bounds_fit : PySem.W.codeIn K cd_bounds_fit "bounds_fit" = true)
    (k_bounds_fit : PySem.W.keepIn K (.ref f_bounds_fit) = true)
    (a_own_bounds : PySem.W.nsIn K mainGlobals "own_bounds" = some (some (.ref f_own_bounds)))
    (l_own_bounds : K.lookup f_own_bounds = some ⟨oc_own_bounds, od_own_bounds, .func (PySem.W.fnOf "own_bounds" "own_bounds" (defArgs s_own_bounds) (defBody s_own_bounds) (defScope s_own_bounds) .none kV_own_bounds dc_own_bounds pm_own_bounds an_own_bounds cd_own_bounds ct_own_bounds), sl_own_bounds⟩)
    (c_own_bounds : PySem.W.codeIn K cd_own_bounds "own_bounds" = true)
    (k_own_bounds : PySem.W.keepIn K (.ref f_own_bounds) = true)
    (a_leads_on : PySem.W.nsIn K mainGlobals "leads_on" = some (some (.ref f_leads_on)))
    (l_leads_on : K.lookup f_leads_on = some ⟨oc_leads_on, od_leads_on, .func (PySem.W.fnOf "leads_on" "leads_on" (defArgs s_leads_on) (defBody s_leads_on) (defScope s_leads_on) .none kV_leads_on dc_leads_on pm_leads_on an_leads_on cd_leads_on ct_leads_on), sl_leads_on⟩)
    (c_leads_on : PySem.W.codeIn K cd_leads_on "leads_on" = true)
    (k_leads_on : PySem.W.keepIn K (.ref f_leads_on) = true)
    (a_bound_row : PySem.W.nsIn K mainGlobals "bound_row" = some (some (.ref f_bound_row)))
    (l_bound_row : K.lookup f_bound_row = some ⟨oc_bound_row, od_bound_row, .func (PySem.W.fnOf "bound_row" "bound_row" (defArgs s_bound_row) (defBody s_bound_row) (defScope s_bound_row) .none kV_bound_row dc_bound_row pm_bound_row an_bound_row cd_bound_row ct_bound_row), sl_bound_row⟩)
    (c_bound_row : PySem.W.codeIn K cd_bound_row "bound_row" = true)
    (k_bound_row : PySem.W.keepIn K (.ref f_bound_row) = true)
    (a_Event_init : PySem.W.findIn K (.ref C_Event) "__init__" = some (some (.ref f_Event_init)))
    (i_Event_init : PySem.W.isFn K (.ref f_Event_init) = true)
    (l_Event_init : K.lookup f_Event_init = some ⟨oc_Event_init, od_Event_init, .func (PySem.W.fnOf "__init__" "Event.__init__" (defArgs s_Event_init) (defBody s_Event_init) (defScope s_Event_init) .none kV_Event_init dc_Event_init pm_Event_init an_Event_init cd_Event_init ct_Event_init), sl_Event_init⟩)
    (c_Event_init : PySem.W.codeIn K cd_Event_init "Event.__init__" = true)
    (k_Event_init : PySem.W.keepIn K (.ref f_Event_init) = true)
    (a_Signal_init : PySem.W.findIn K (.ref C_Signal) "__init__" = some (some (.ref f_Signal_init)))
    (i_Signal_init : PySem.W.isFn K (.ref f_Signal_init) = true)
    (l_Signal_init : K.lookup f_Signal_init = some ⟨oc_Signal_init, od_Signal_init, .func (PySem.W.fnOf "__init__" "Signal.__init__" (defArgs s_Signal_init) (defBody s_Signal_init) (defScope s_Signal_init) .none kV_Signal_init dc_Signal_init pm_Signal_init an_Signal_init cd_Signal_init ct_Signal_init), sl_Signal_init⟩)
    (c_Signal_init : PySem.W.codeIn K cd_Signal_init "Signal.__init__" = true)
    (k_Signal_init : PySem.W.keepIn K (.ref f_Signal_init) = true)
    (a_Room_init : PySem.W.findIn K (.ref C_Room) "__init__" = some (some (.ref f_Room_init)))
    (i_Room_init : PySem.W.isFn K (.ref f_Room_init) = true)
    (l_Room_init : K.lookup f_Room_init = some ⟨oc_Room_init, od_Room_init, .func (PySem.W.fnOf "__init__" "Room.__init__" (defArgs s_Room_init) (defBody s_Room_init) (defScope s_Room_init) .none kV_Room_init dc_Room_init pm_Room_init an_Room_init cd_Room_init ct_Room_init), sl_Room_init⟩)
    (c_Room_init : PySem.W.codeIn K cd_Room_init "Room.__init__" = true)
    (k_Room_init : PySem.W.keepIn K (.ref f_Room_init) = true)
    (a_Room_renew : PySem.W.findIn K (.ref C_Room) "renew" = some (some (.ref f_Room_renew)))
    (i_Room_renew : PySem.W.isFn K (.ref f_Room_renew) = true)
    (l_Room_renew : K.lookup f_Room_renew = some ⟨oc_Room_renew, od_Room_renew, .func (PySem.W.fnOf "renew" "Room.renew" (defArgs s_Room_renew) (defBody s_Room_renew) (defScope s_Room_renew) .none kV_Room_renew dc_Room_renew pm_Room_renew an_Room_renew cd_Room_renew ct_Room_renew), sl_Room_renew⟩)
    (c_Room_renew : PySem.W.codeIn K cd_Room_renew "Room.renew" = true)
    (k_Room_renew : PySem.W.keepIn K (.ref f_Room_renew) = true)
    (a_Room_note : PySem.W.findIn K (.ref C_Room) "note" = some (some (.ref f_Room_note)))
    (i_Room_note : PySem.W.isFn K (.ref f_Room_note) = true)
    (l_Room_note : K.lookup f_Room_note = some ⟨oc_Room_note, od_Room_note, .func (PySem.W.fnOf "note" "Room.note" (defArgs s_Room_note) (defBody s_Room_note) (defScope s_Room_note) .none kV_Room_note dc_Room_note pm_Room_note an_Room_note cd_Room_note ct_Room_note), sl_Room_note⟩)
    (c_Room_note : PySem.W.codeIn K cd_Room_note "Room.note" = true)
    (k_Room_note : PySem.W.keepIn K (.ref f_Room_note) = true)
    (a_Room_has_clock : PySem.W.findIn K (.ref C_Room) "has_clock" = some (some (.ref f_Room_has_clock)))
    (i_Room_has_clock : PySem.W.isFn K (.ref f_Room_has_clock) = true)
    (l_Room_has_clock : K.lookup f_Room_has_clock = some ⟨oc_Room_has_clock, od_Room_has_clock, .func (PySem.W.fnOf "has_clock" "Room.has_clock" (defArgs s_Room_has_clock) (defBody s_Room_has_clock) (defScope s_Room_has_clock) .none kV_Room_has_clock dc_Room_has_clock pm_Room_has_clock an_Room_has_clock cd_Room_has_clock ct_Room_has_clock), sl_Room_has_clock⟩)
    (c_Room_has_clock : PySem.W.codeIn K cd_Room_has_clock "Room.has_clock" = true)
    (k_Room_has_clock : PySem.W.keepIn K (.ref f_Room_has_clock) = true)
    (a_Room_has_event : PySem.W.findIn K (.ref C_Room) "has_event" = some (some (.ref f_Room_has_event)))
    (i_Room_has_event : PySem.W.isFn K (.ref f_Room_has_event) = true)
    (l_Room_has_event : K.lookup f_Room_has_event = some ⟨oc_Room_has_event, od_Room_has_event, .func (PySem.W.fnOf "has_event" "Room.has_event" (defArgs s_Room_has_event) (defBody s_Room_has_event) (defScope s_Room_has_event) .none kV_Room_has_event dc_Room_has_event pm_Room_has_event an_Room_has_event cd_Room_has_event ct_Room_has_event), sl_Room_has_event⟩)
    (c_Room_has_event : PySem.W.codeIn K cd_Room_has_event "Room.has_event" = true)
    (k_Room_has_event : PySem.W.keepIn K (.ref f_Room_has_event) = true)
    (a_Room_has_both : PySem.W.findIn K (.ref C_Room) "has_both" = some (some (.ref f_Room_has_both)))
    (i_Room_has_both : PySem.W.isFn K (.ref f_Room_has_both) = true)
    (l_Room_has_both : K.lookup f_Room_has_both = some ⟨oc_Room_has_both, od_Room_has_both, .func (PySem.W.fnOf "has_both" "Room.has_both" (defArgs s_Room_has_both) (defBody s_Room_has_both) (defScope s_Room_has_both) .none kV_Room_has_both dc_Room_has_both pm_Room_has_both an_Room_has_both cd_Room_has_both ct_Room_has_both), sl_Room_has_both⟩)
    (c_Room_has_both : PySem.W.codeIn K cd_Room_has_both "Room.has_both" = true)
    (k_Room_has_both : PySem.W.keepIn K (.ref f_Room_has_both) = true)
    (a_Belief_init : PySem.W.findIn K (.ref C_Belief) "__init__" = some (some (.ref f_Belief_init)))
    (i_Belief_init : PySem.W.isFn K (.ref f_Belief_init) = true)
    (l_Belief_init : K.lookup f_Belief_init = some ⟨oc_Belief_init, od_Belief_init, .func (PySem.W.fnOf "__init__" "Belief.__init__" (defArgs s_Belief_init) (defBody s_Belief_init) (defScope s_Belief_init) .none kV_Belief_init dc_Belief_init pm_Belief_init an_Belief_init cd_Belief_init ct_Belief_init), sl_Belief_init⟩)
    (c_Belief_init : PySem.W.codeIn K cd_Belief_init "Belief.__init__" = true)
    (k_Belief_init : PySem.W.keepIn K (.ref f_Belief_init) = true)
    (a_belief_before : PySem.W.nsIn K mainGlobals "belief_before" = some (some (.ref f_belief_before)))
    (l_belief_before : K.lookup f_belief_before = some ⟨oc_belief_before, od_belief_before, .func (PySem.W.fnOf "belief_before" "belief_before" (defArgs s_belief_before) (defBody s_belief_before) (defScope s_belief_before) .none kV_belief_before dc_belief_before pm_belief_before an_belief_before cd_belief_before ct_belief_before), sl_belief_before⟩)
    (c_belief_before : PySem.W.codeIn K cd_belief_before "belief_before" = true)
    (k_belief_before : PySem.W.keepIn K (.ref f_belief_before) = true)
    (a_belief_of : PySem.W.nsIn K mainGlobals "belief_of" = some (some (.ref f_belief_of)))
    (l_belief_of : K.lookup f_belief_of = some ⟨oc_belief_of, od_belief_of, .func (PySem.W.fnOf "belief_of" "belief_of" (defArgs s_belief_of) (defBody s_belief_of) (defScope s_belief_of) .none kV_belief_of dc_belief_of pm_belief_of an_belief_of cd_belief_of ct_belief_of), sl_belief_of⟩)
    (c_belief_of : PySem.W.codeIn K cd_belief_of "belief_of" = true)
    (k_belief_of : PySem.W.keepIn K (.ref f_belief_of) = true)
    (a_row_by : PySem.W.nsIn K mainGlobals "row_by" = some (some (.ref f_row_by)))
    (l_row_by : K.lookup f_row_by = some ⟨oc_row_by, od_row_by, .func (PySem.W.fnOf "row_by" "row_by" (defArgs s_row_by) (defBody s_row_by) (defScope s_row_by) .none kV_row_by dc_row_by pm_row_by an_row_by cd_row_by ct_row_by), sl_row_by⟩)
    (c_row_by : PySem.W.codeIn K cd_row_by "row_by" = true)
    (k_row_by : PySem.W.keepIn K (.ref f_row_by) = true)
    (a_begin : PySem.W.nsIn K mainGlobals "begin" = some (some (.ref f_begin)))
    (l_begin : K.lookup f_begin = some ⟨oc_begin, od_begin, .func (PySem.W.fnOf "begin" "begin" (defArgs s_begin) (defBody s_begin) (defScope s_begin) .none kV_begin dc_begin pm_begin an_begin cd_begin ct_begin), sl_begin⟩)
    (c_begin : PySem.W.codeIn K cd_begin "begin" = true)
    (k_begin : PySem.W.keepIn K (.ref f_begin) = true)
    (a_tell_event : PySem.W.nsIn K mainGlobals "tell_event" = some (some (.ref f_tell_event)))
    (l_tell_event : K.lookup f_tell_event = some ⟨oc_tell_event, od_tell_event, .func (PySem.W.fnOf "tell_event" "tell_event" (defArgs s_tell_event) (defBody s_tell_event) (defScope s_tell_event) .none kV_tell_event dc_tell_event pm_tell_event an_tell_event cd_tell_event ct_tell_event), sl_tell_event⟩)
    (c_tell_event : PySem.W.codeIn K cd_tell_event "tell_event" = true)
    (k_tell_event : PySem.W.keepIn K (.ref f_tell_event) = true)
    (a_era_reached : PySem.W.nsIn K mainGlobals "era_reached" = some (some (.ref f_era_reached)))
    (l_era_reached : K.lookup f_era_reached = some ⟨oc_era_reached, od_era_reached, .func (PySem.W.fnOf "era_reached" "era_reached" (defArgs s_era_reached) (defBody s_era_reached) (defScope s_era_reached) .none kV_era_reached dc_era_reached pm_era_reached an_era_reached cd_era_reached ct_era_reached), sl_era_reached⟩)
    (c_era_reached : PySem.W.codeIn K cd_era_reached "era_reached" = true)
    (k_era_reached : PySem.W.keepIn K (.ref f_era_reached) = true)
    (a_set_clock : PySem.W.nsIn K mainGlobals "set_clock" = some (some (.ref f_set_clock)))
    (l_set_clock : K.lookup f_set_clock = some ⟨oc_set_clock, od_set_clock, .func (PySem.W.fnOf "set_clock" "set_clock" (defArgs s_set_clock) (defBody s_set_clock) (defScope s_set_clock) .none kV_set_clock dc_set_clock pm_set_clock an_set_clock cd_set_clock ct_set_clock), sl_set_clock⟩)
    (c_set_clock : PySem.W.codeIn K cd_set_clock "set_clock" = true)
    (k_set_clock : PySem.W.keepIn K (.ref f_set_clock) = true)
    (a_tell_signal : PySem.W.nsIn K mainGlobals "tell_signal" = some (some (.ref f_tell_signal)))
    (l_tell_signal : K.lookup f_tell_signal = some ⟨oc_tell_signal, od_tell_signal, .func (PySem.W.fnOf "tell_signal" "tell_signal" (defArgs s_tell_signal) (defBody s_tell_signal) (defScope s_tell_signal) .none kV_tell_signal dc_tell_signal pm_tell_signal an_tell_signal cd_tell_signal ct_tell_signal), sl_tell_signal⟩)
    (c_tell_signal : PySem.W.codeIn K cd_tell_signal "tell_signal" = true)
    (k_tell_signal : PySem.W.keepIn K (.ref f_tell_signal) = true)
    (a_signal_refusal : PySem.W.nsIn K mainGlobals "signal_refusal" = some (some (.ref f_signal_refusal)))
    (l_signal_refusal : K.lookup f_signal_refusal = some ⟨oc_signal_refusal, od_signal_refusal, .func (PySem.W.fnOf "signal_refusal" "signal_refusal" (defArgs s_signal_refusal) (defBody s_signal_refusal) (defScope s_signal_refusal) .none kV_signal_refusal dc_signal_refusal pm_signal_refusal an_signal_refusal cd_signal_refusal ct_signal_refusal), sl_signal_refusal⟩)
    (c_signal_refusal : PySem.W.codeIn K cd_signal_refusal "signal_refusal" = true)
    (k_signal_refusal : PySem.W.keepIn K (.ref f_signal_refusal) = true)
    (a_strike : PySem.W.nsIn K mainGlobals "strike" = some (some (.ref f_strike)))
    (l_strike : K.lookup f_strike = some ⟨oc_strike, od_strike, .func (PySem.W.fnOf "strike" "strike" (defArgs s_strike) (defBody s_strike) (defScope s_strike) .none kV_strike dc_strike pm_strike an_strike cd_strike ct_strike), sl_strike⟩)
    (c_strike : PySem.W.codeIn K cd_strike "strike" = true)
    (k_strike : PySem.W.keepIn K (.ref f_strike) = true)
    (a_with_length : PySem.W.nsIn K mainGlobals "with_length" = some (some (.ref f_with_length)))
    (l_with_length : K.lookup f_with_length = some ⟨oc_with_length, od_with_length, .func (PySem.W.fnOf "with_length" "with_length" (defArgs s_with_length) (defBody s_with_length) (defScope s_with_length) .none kV_with_length dc_with_length pm_with_length an_with_length cd_with_length ct_with_length), sl_with_length⟩)
    (c_with_length : PySem.W.codeIn K cd_with_length "with_length" = true)
    (k_with_length : PySem.W.keepIn K (.ref f_with_length) = true)
    (a_bound_list : PySem.W.nsIn K mainGlobals "bound_list" = some (some (.ref f_bound_list)))
    (l_bound_list : K.lookup f_bound_list = some ⟨oc_bound_list, od_bound_list, .func (PySem.W.fnOf "bound_list" "bound_list" (defArgs s_bound_list) (defBody s_bound_list) (defScope s_bound_list) .none kV_bound_list dc_bound_list pm_bound_list an_bound_list cd_bound_list ct_bound_list), sl_bound_list⟩)
    (c_bound_list : PySem.W.codeIn K cd_bound_list "bound_list" = true)
    (k_bound_list : PySem.W.keepIn K (.ref f_bound_list) = true)
    (a_counted : PySem.W.nsIn K mainGlobals "counted" = some (some (.ref f_counted)))
    (l_counted : K.lookup f_counted = some ⟨oc_counted, od_counted, .func (PySem.W.fnOf "counted" "counted" (defArgs s_counted) (defBody s_counted) (defScope s_counted) .none kV_counted dc_counted pm_counted an_counted cd_counted ct_counted), sl_counted⟩)
    (c_counted : PySem.W.codeIn K cd_counted "counted" = true)
    (k_counted : PySem.W.keepIn K (.ref f_counted) = true)
    (a_tell_believed : PySem.W.nsIn K mainGlobals "tell_believed" = some (some (.ref f_tell_believed)))
    (l_tell_believed : K.lookup f_tell_believed = some ⟨oc_tell_believed, od_tell_believed, .func (PySem.W.fnOf "tell_believed" "tell_believed" (defArgs s_tell_believed) (defBody s_tell_believed) (defScope s_tell_believed) .none kV_tell_believed dc_tell_believed pm_tell_believed an_tell_believed cd_tell_believed ct_tell_believed), sl_tell_believed⟩)
    (c_tell_believed : PySem.W.codeIn K cd_tell_believed "tell_believed" = true)
    (k_tell_believed : PySem.W.keepIn K (.ref f_tell_believed) = true)
    (a_tell_between : PySem.W.nsIn K mainGlobals "tell_between" = some (some (.ref f_tell_between)))
    (l_tell_between : K.lookup f_tell_between = some ⟨oc_tell_between, od_tell_between, .func (PySem.W.fnOf "tell_between" "tell_between" (defArgs s_tell_between) (defBody s_tell_between) (defScope s_tell_between) .none kV_tell_between dc_tell_between pm_tell_between an_tell_between cd_tell_between ct_tell_between), sl_tell_between⟩)
    (c_tell_between : PySem.W.codeIn K cd_tell_between "tell_between" = true)
    (k_tell_between : PySem.W.keepIn K (.ref f_tell_between) = true)
    (a_tell_order : PySem.W.nsIn K mainGlobals "tell_order" = some (some (.ref f_tell_order)))
    (l_tell_order : K.lookup f_tell_order = some ⟨oc_tell_order, od_tell_order, .func (PySem.W.fnOf "tell_order" "tell_order" (defArgs s_tell_order) (defBody s_tell_order) (defScope s_tell_order) .none kV_tell_order dc_tell_order pm_tell_order an_tell_order cd_tell_order ct_tell_order), sl_tell_order⟩)
    (c_tell_order : PySem.W.codeIn K cd_tell_order "tell_order" = true)
    (k_tell_order : PySem.W.keepIn K (.ref f_tell_order) = true)
    (a_tell_reason : PySem.W.nsIn K mainGlobals "tell_reason" = some (some (.ref f_tell_reason)))
    (l_tell_reason : K.lookup f_tell_reason = some ⟨oc_tell_reason, od_tell_reason, .func (PySem.W.fnOf "tell_reason" "tell_reason" (defArgs s_tell_reason) (defBody s_tell_reason) (defScope s_tell_reason) .none kV_tell_reason dc_tell_reason pm_tell_reason an_tell_reason cd_tell_reason ct_tell_reason), sl_tell_reason⟩)
    (c_tell_reason : PySem.W.codeIn K cd_tell_reason "tell_reason" = true)
    (k_tell_reason : PySem.W.keepIn K (.ref f_tell_reason) = true)
    (a_tell_against : PySem.W.nsIn K mainGlobals "tell_against" = some (some (.ref f_tell_against)))
    (l_tell_against : K.lookup f_tell_against = some ⟨oc_tell_against, od_tell_against, .func (PySem.W.fnOf "tell_against" "tell_against" (defArgs s_tell_against) (defBody s_tell_against) (defScope s_tell_against) .none kV_tell_against dc_tell_against pm_tell_against an_tell_against cd_tell_against ct_tell_against), sl_tell_against⟩)
    (c_tell_against : PySem.W.codeIn K cd_tell_against "tell_against" = true)
    (k_tell_against : PySem.W.keepIn K (.ref f_tell_against) = true)
    (a_tell_could : PySem.W.nsIn K mainGlobals "tell_could" = some (some (.ref f_tell_could)))
    (l_tell_could : K.lookup f_tell_could = some ⟨oc_tell_could, od_tell_could, .func (PySem.W.fnOf "tell_could" "tell_could" (defArgs s_tell_could) (defBody s_tell_could) (defScope s_tell_could) .none kV_tell_could dc_tell_could pm_tell_could an_tell_could cd_tell_could ct_tell_could), sl_tell_could⟩)
    (c_tell_could : PySem.W.codeIn K cd_tell_could "tell_could" = true)
    (k_tell_could : PySem.W.keepIn K (.ref f_tell_could) = true)
    (a_tell_of : PySem.W.nsIn K mainGlobals "tell_of" = some (some (.ref f_tell_of)))
    (l_tell_of : K.lookup f_tell_of = some ⟨oc_tell_of, od_tell_of, .func (PySem.W.fnOf "tell_of" "tell_of" (defArgs s_tell_of) (defBody s_tell_of) (defScope s_tell_of) .none kV_tell_of dc_tell_of pm_tell_of an_tell_of cd_tell_of ct_tell_of), sl_tell_of⟩)
    (c_tell_of : PySem.W.codeIn K cd_tell_of "tell_of" = true)
    (k_tell_of : PySem.W.keepIn K (.ref f_tell_of) = true)
    (a_tell_once : PySem.W.nsIn K mainGlobals "tell_once" = some (some (.ref f_tell_once)))
    (l_tell_once : K.lookup f_tell_once = some ⟨oc_tell_once, od_tell_once, .func (PySem.W.fnOf "tell_once" "tell_once" (defArgs s_tell_once) (defBody s_tell_once) (defScope s_tell_once) .none kV_tell_once dc_tell_once pm_tell_once an_tell_once cd_tell_once ct_tell_once), sl_tell_once⟩)
    (c_tell_once : PySem.W.codeIn K cd_tell_once "tell_once" = true)
    (k_tell_once : PySem.W.keepIn K (.ref f_tell_once) = true)
    (a_answer_to : PySem.W.nsIn K mainGlobals "answer_to" = some (some (.ref f_answer_to)))
    (l_answer_to : K.lookup f_answer_to = some ⟨oc_answer_to, od_answer_to, .func (PySem.W.fnOf "answer_to" "answer_to" (defArgs s_answer_to) (defBody s_answer_to) (defScope s_answer_to) .none kV_answer_to dc_answer_to pm_answer_to an_answer_to cd_answer_to ct_answer_to), sl_answer_to⟩)
    (c_answer_to : PySem.W.codeIn K cd_answer_to "answer_to" = true)
    (k_answer_to : PySem.W.keepIn K (.ref f_answer_to) = true)
    (a_call_length : PySem.W.nsIn K mainGlobals "call_length" = some (some (.ref f_call_length)))
    (l_call_length : K.lookup f_call_length = some ⟨oc_call_length, od_call_length, .func (PySem.W.fnOf "call_length" "call_length" (defArgs s_call_length) (defBody s_call_length) (defScope s_call_length) .none kV_call_length dc_call_length pm_call_length an_call_length cd_call_length ct_call_length), sl_call_length⟩)
    (c_call_length : PySem.W.codeIn K cd_call_length "call_length" = true)
    (k_call_length : PySem.W.keepIn K (.ref f_call_length) = true)
    (a_answers : PySem.W.nsIn K mainGlobals "answers" = some (some (.ref f_answers)))
    (l_answers : K.lookup f_answers = some ⟨oc_answers, od_answers, .func (PySem.W.fnOf "answers" "answers" (defArgs s_answers) (defBody s_answers) (defScope s_answers) .none kV_answers dc_answers pm_answers an_answers cd_answers ct_answers), sl_answers⟩)
    (c_answers : PySem.W.codeIn K cd_answers "answers" = true)
    (k_answers : PySem.W.keepIn K (.ref f_answers) = true)
    (pg_Event : PySem.W.plainGet K C_Event Str.empty = true)
    (hd_Event : PySem.W.hasDictIn K C_Event = true)
    (po_Event : PySem.W.plainOver K C_Event = true)
    (sa_Event : PySem.W.findIn K (.ref C_Event) "__setattr__" = some (some (.builtin "object.__setattr__")))
    (mk_Event : PySem.W.makesIn K C_Event = true)
    (kc_Event : PySem.W.keepIn K (.ref C_Event) = true)
    (n_Event_clock : PySem.W.findIn K (.ref C_Event) "clock" = some none)
    (n_Event_era : PySem.W.findIn K (.ref C_Event) "era" = some none)
    (n_Event_reading : PySem.W.findIn K (.ref C_Event) "reading" = some none)
    (n_Event_instant : PySem.W.findIn K (.ref C_Event) "instant" = some none)
    (pg_Signal : PySem.W.plainGet K C_Signal Str.empty = true)
    (hd_Signal : PySem.W.hasDictIn K C_Signal = true)
    (po_Signal : PySem.W.plainOver K C_Signal = true)
    (sa_Signal : PySem.W.findIn K (.ref C_Signal) "__setattr__" = some (some (.builtin "object.__setattr__")))
    (mk_Signal : PySem.W.makesIn K C_Signal = true)
    (kc_Signal : PySem.W.keepIn K (.ref C_Signal) = true)
    (n_Signal_first : PySem.W.findIn K (.ref C_Signal) "first" = some none)
    (n_Signal_second : PySem.W.findIn K (.ref C_Signal) "second" = some none)
    (n_Signal_least : PySem.W.findIn K (.ref C_Signal) "least" = some none)
    (n_Signal_most : PySem.W.findIn K (.ref C_Signal) "most" = some none)
    (n_Signal_struck : PySem.W.findIn K (.ref C_Signal) "struck" = some none)
    (pg_Room : PySem.W.plainGet K C_Room Str.empty = true)
    (hd_Room : PySem.W.hasDictIn K C_Room = true)
    (po_Room : PySem.W.plainOver K C_Room = true)
    (sa_Room : PySem.W.findIn K (.ref C_Room) "__setattr__" = some (some (.builtin "object.__setattr__")))
    (mk_Room : PySem.W.makesIn K C_Room = true)
    (kc_Room : PySem.W.keepIn K (.ref C_Room) = true)
    (n_Room_rates : PySem.W.findIn K (.ref C_Room) "rates" = some none)
    (n_Room_eras : PySem.W.findIn K (.ref C_Room) "eras" = some none)
    (n_Room_begun : PySem.W.findIn K (.ref C_Room) "begun" = some none)
    (n_Room_events : PySem.W.findIn K (.ref C_Room) "events" = some none)
    (n_Room_signals : PySem.W.findIn K (.ref C_Room) "signals" = some none)
    (pg_Belief : PySem.W.plainGet K C_Belief Str.empty = true)
    (hd_Belief : PySem.W.hasDictIn K C_Belief = true)
    (po_Belief : PySem.W.plainOver K C_Belief = true)
    (sa_Belief : PySem.W.findIn K (.ref C_Belief) "__setattr__" = some (some (.builtin "object.__setattr__")))
    (mk_Belief : PySem.W.makesIn K C_Belief = true)
    (kc_Belief : PySem.W.keepIn K (.ref C_Belief) = true)
    (n_Belief_numbers : PySem.W.findIn K (.ref C_Belief) "numbers" = some none)
    (n_Belief_table : PySem.W.findIn K (.ref C_Belief) "table" = some none)
    (g_MILLION : PySem.W.nsIn K mainGlobals "MILLION" = some (some (.int 1000000 u_MILLION)))
    (g_MOST_CLOCKS : PySem.W.nsIn K mainGlobals "MOST_CLOCKS" = some (some (.int 6 u_MOST_CLOCKS)))
    (g_MOST_RATE : PySem.W.nsIn K mainGlobals "MOST_RATE" = some (some (.int 999999 u_MOST_RATE)))
    (g_MOST_READING : PySem.W.nsIn K mainGlobals "MOST_READING" = some (some (.int 1000000 u_MOST_READING)))
    (g_MOST_EVENTS : PySem.W.nsIn K mainGlobals "MOST_EVENTS" = some (some (.int 24 u_MOST_EVENTS)))
    (g_MOST_SIGNALS : PySem.W.nsIn K mainGlobals "MOST_SIGNALS" = some (some (.int 30 u_MOST_SIGNALS)))
    (g_MOST_ON_WAY : PySem.W.nsIn K mainGlobals "MOST_ON_WAY" = some (some (.int 1000000000000 u_MOST_ON_WAY)))
    (g_BEGINS : PySem.W.nsIn K mainGlobals "BEGINS" = some (some (.int 0 u_BEGINS)))
    (g_EVENT : PySem.W.nsIn K mainGlobals "EVENT" = some (some (.int 1 u_EVENT)))
    (g_SET : PySem.W.nsIn K mainGlobals "SET" = some (some (.int 2 u_SET)))
    (g_SIGNAL : PySem.W.nsIn K mainGlobals "SIGNAL" = some (some (.int 3 u_SIGNAL)))
    (g_STRIKE : PySem.W.nsIn K mainGlobals "STRIKE" = some (some (.int 4 u_STRIKE)))
    (g_BELIEVED : PySem.W.nsIn K mainGlobals "BELIEVED" = some (some (.int 5 u_BELIEVED)))
    (g_BETWEEN : PySem.W.nsIn K mainGlobals "BETWEEN" = some (some (.int 6 u_BETWEEN)))
    (g_ORDER : PySem.W.nsIn K mainGlobals "ORDER" = some (some (.int 7 u_ORDER)))
    (g_REASON : PySem.W.nsIn K mainGlobals "REASON" = some (some (.int 8 u_REASON)))
    (g_AGAINST : PySem.W.nsIn K mainGlobals "AGAINST" = some (some (.int 9 u_AGAINST)))
    (g_COULD : PySem.W.nsIn K mainGlobals "COULD" = some (some (.int 10 u_COULD)))
    (g_OF : PySem.W.nsIn K mainGlobals "OF" = some (some (.int 11 u_OF)))
    (g_WIDTHS : PySem.W.nsIn K mainGlobals "WIDTHS" = some (some (.ref A_WIDTHS)))
    (w_WIDTHS : K.lookup A_WIDTHS = some ⟨.type "tuple", ow_WIDTHS, .seq #[.int 1 t_WIDTHS_0, .int 2 t_WIDTHS_1, .int 3 t_WIDTHS_2, .int 4 t_WIDTHS_3, .int 1 t_WIDTHS_4, .int 0 t_WIDTHS_5, .int 2 t_WIDTHS_6, .int 2 t_WIDTHS_7, .int 2 t_WIDTHS_8, .int 1 t_WIDTHS_9, .int 4 t_WIDTHS_10, .int 1 t_WIDTHS_11, .int 1 t_WIDTHS_12] nn_WIDTHS, sw_WIDTHS⟩)
    (z_min : PySem.W.nsIn K mainGlobals "min" = some none)
    (z_range : PySem.W.nsIn K mainGlobals "range" = some none)
    (z_enumerate : PySem.W.nsIn K mainGlobals "enumerate" = some none)
    (z_len : PySem.W.nsIn K mainGlobals "len" = some none)
    (z_list : PySem.W.nsIn K mainGlobals "list" = some none)
    (z_max : PySem.W.nsIn K mainGlobals "max" = some none) :
    Txt K mg {
      c_Event := C_Event,
      c_Signal := C_Signal,
      c_Room := C_Room,
      c_Belief := C_Belief,
      f_era_bound := f_era_bound,
      d_era_bound := PySem.W.fnOf "era_bound" "era_bound" (defArgs s_era_bound) (defBody s_era_bound) (defScope s_era_bound) .none kV_era_bound dc_era_bound pm_era_bound an_era_bound cd_era_bound ct_era_bound,
      f_clock_bound := f_clock_bound,
      d_clock_bound := PySem.W.fnOf "clock_bound" "clock_bound" (defArgs s_clock_bound) (defBody s_clock_bound) (defScope s_clock_bound) .none kV_clock_bound dc_clock_bound pm_clock_bound an_clock_bound cd_clock_bound ct_clock_bound,
      f_bound_sum := f_bound_sum,
      d_bound_sum := PySem.W.fnOf "bound_sum" "bound_sum" (defArgs s_bound_sum) (defBody s_bound_sum) (defScope s_bound_sum) .none kV_bound_sum dc_bound_sum pm_bound_sum an_bound_sum cd_bound_sum ct_bound_sum,
      f_bound_least := f_bound_least,
      d_bound_least := PySem.W.fnOf "bound_least" "bound_least" (defArgs s_bound_least) (defBody s_bound_least) (defScope s_bound_least) .none kV_bound_least dc_bound_least pm_bound_least an_bound_least cd_bound_least ct_bound_least,
      f_row_by_way := f_row_by_way,
      d_row_by_way := PySem.W.fnOf "row_by_way" "row_by_way" (defArgs s_row_by_way) (defBody s_row_by_way) (defScope s_row_by_way) .none kV_row_by_way dc_row_by_way pm_row_by_way an_row_by_way cd_row_by_way ct_row_by_way,
      f_with_bound := f_with_bound,
      d_with_bound := PySem.W.fnOf "with_bound" "with_bound" (defArgs s_with_bound) (defBody s_with_bound) (defScope s_with_bound) .none kV_with_bound dc_with_bound pm_with_bound an_with_bound cd_with_bound ct_with_bound,
      f_clock_row := f_clock_row,
      d_clock_row := PySem.W.fnOf "clock_row" "clock_row" (defArgs s_clock_row) (defBody s_clock_row) (defScope s_clock_row) .none kV_clock_row dc_clock_row pm_clock_row an_clock_row cd_clock_row ct_clock_row,
      f_own_clock_bounds := f_own_clock_bounds,
      d_own_clock_bounds := PySem.W.fnOf "own_clock_bounds" "own_clock_bounds" (defArgs s_own_clock_bounds) (defBody s_own_clock_bounds) (defScope s_own_clock_bounds) .none kV_own_clock_bounds dc_own_clock_bounds pm_own_clock_bounds an_own_clock_bounds cd_own_clock_bounds ct_own_clock_bounds,
      f_clock_table := f_clock_table,
      d_clock_table := PySem.W.fnOf "clock_table" "clock_table" (defArgs s_clock_table) (defBody s_clock_table) (defScope s_clock_table) .none kV_clock_table dc_clock_table pm_clock_table an_clock_table cd_clock_table ct_clock_table,
      f_least_later := f_least_later,
      d_least_later := PySem.W.fnOf "least_later" "least_later" (defArgs s_least_later) (defBody s_least_later) (defScope s_least_later) .none kV_least_later dc_least_later pm_least_later an_least_later cd_least_later ct_least_later,
      f_surely_before := f_surely_before,
      d_surely_before := PySem.W.fnOf "surely_before" "surely_before" (defArgs s_surely_before) (defBody s_surely_before) (defScope s_surely_before) .none kV_surely_before dc_surely_before pm_surely_before an_surely_before cd_surely_before ct_surely_before,
      f_surely_at_once := f_surely_at_once,
      d_surely_at_once := PySem.W.fnOf "surely_at_once" "surely_at_once" (defArgs s_surely_at_once) (defBody s_surely_at_once) (defScope s_surely_at_once) .none kV_surely_at_once dc_surely_at_once pm_surely_at_once an_surely_at_once cd_surely_at_once ct_surely_at_once,
      f_bound_fits := f_bound_fits,
      d_bound_fits := PySem.W.fnOf "bound_fits" "bound_fits" (defArgs s_bound_fits) (defBody s_bound_fits) (defScope s_bound_fits) .none kV_bound_fits dc_bound_fits pm_bound_fits an_bound_fits cd_bound_fits ct_bound_fits,
      f_least_fits := f_least_fits,
      d_least_fits := PySem.W.fnOf "least_fits" "least_fits" (defArgs s_least_fits) (defBody s_least_fits) (defScope s_least_fits) .none kV_least_fits dc_least_fits pm_least_fits an_least_fits cd_least_fits ct_least_fits,
      f_signal_fits := f_signal_fits,
      d_signal_fits := PySem.W.fnOf "signal_fits" "signal_fits" (defArgs s_signal_fits) (defBody s_signal_fits) (defScope s_signal_fits) .none kV_signal_fits dc_signal_fits pm_signal_fits an_signal_fits cd_signal_fits ct_signal_fits,
      f_with_signal := f_with_signal,
      d_with_signal := PySem.W.fnOf "with_signal" "with_signal" (defArgs s_with_signal) (defBody s_with_signal) (defScope s_with_signal) .none kV_with_signal dc_with_signal pm_with_signal an_with_signal cd_with_signal ct_with_signal,
      f_bounds_at := f_bounds_at,
      d_bounds_at := PySem.W.fnOf "bounds_at" "bounds_at" (defArgs s_bounds_at) (defBody s_bounds_at) (defScope s_bounds_at) .none kV_bounds_at dc_bounds_at pm_bounds_at an_bounds_at cd_bounds_at ct_bounds_at,
      f_bounds_fit := f_bounds_fit,
      d_bounds_fit := PySem.W.fnOf "bounds_fit" "bounds_fit" (defArgs s_bounds_fit) (defBody s_bounds_fit) (defScope s_bounds_fit) .none kV_bounds_fit dc_bounds_fit pm_bounds_fit an_bounds_fit cd_bounds_fit ct_bounds_fit,
      f_own_bounds := f_own_bounds,
      d_own_bounds := PySem.W.fnOf "own_bounds" "own_bounds" (defArgs s_own_bounds) (defBody s_own_bounds) (defScope s_own_bounds) .none kV_own_bounds dc_own_bounds pm_own_bounds an_own_bounds cd_own_bounds ct_own_bounds,
      f_leads_on := f_leads_on,
      d_leads_on := PySem.W.fnOf "leads_on" "leads_on" (defArgs s_leads_on) (defBody s_leads_on) (defScope s_leads_on) .none kV_leads_on dc_leads_on pm_leads_on an_leads_on cd_leads_on ct_leads_on,
      f_bound_row := f_bound_row,
      d_bound_row := PySem.W.fnOf "bound_row" "bound_row" (defArgs s_bound_row) (defBody s_bound_row) (defScope s_bound_row) .none kV_bound_row dc_bound_row pm_bound_row an_bound_row cd_bound_row ct_bound_row,
      f_Event_init := f_Event_init,
      d_Event_init := PySem.W.fnOf "__init__" "Event.__init__" (defArgs s_Event_init) (defBody s_Event_init) (defScope s_Event_init) .none kV_Event_init dc_Event_init pm_Event_init an_Event_init cd_Event_init ct_Event_init,
      f_Signal_init := f_Signal_init,
      d_Signal_init := PySem.W.fnOf "__init__" "Signal.__init__" (defArgs s_Signal_init) (defBody s_Signal_init) (defScope s_Signal_init) .none kV_Signal_init dc_Signal_init pm_Signal_init an_Signal_init cd_Signal_init ct_Signal_init,
      f_Room_init := f_Room_init,
      d_Room_init := PySem.W.fnOf "__init__" "Room.__init__" (defArgs s_Room_init) (defBody s_Room_init) (defScope s_Room_init) .none kV_Room_init dc_Room_init pm_Room_init an_Room_init cd_Room_init ct_Room_init,
      f_Room_renew := f_Room_renew,
      d_Room_renew := PySem.W.fnOf "renew" "Room.renew" (defArgs s_Room_renew) (defBody s_Room_renew) (defScope s_Room_renew) .none kV_Room_renew dc_Room_renew pm_Room_renew an_Room_renew cd_Room_renew ct_Room_renew,
      f_Room_note := f_Room_note,
      d_Room_note := PySem.W.fnOf "note" "Room.note" (defArgs s_Room_note) (defBody s_Room_note) (defScope s_Room_note) .none kV_Room_note dc_Room_note pm_Room_note an_Room_note cd_Room_note ct_Room_note,
      f_Room_has_clock := f_Room_has_clock,
      d_Room_has_clock := PySem.W.fnOf "has_clock" "Room.has_clock" (defArgs s_Room_has_clock) (defBody s_Room_has_clock) (defScope s_Room_has_clock) .none kV_Room_has_clock dc_Room_has_clock pm_Room_has_clock an_Room_has_clock cd_Room_has_clock ct_Room_has_clock,
      f_Room_has_event := f_Room_has_event,
      d_Room_has_event := PySem.W.fnOf "has_event" "Room.has_event" (defArgs s_Room_has_event) (defBody s_Room_has_event) (defScope s_Room_has_event) .none kV_Room_has_event dc_Room_has_event pm_Room_has_event an_Room_has_event cd_Room_has_event ct_Room_has_event,
      f_Room_has_both := f_Room_has_both,
      d_Room_has_both := PySem.W.fnOf "has_both" "Room.has_both" (defArgs s_Room_has_both) (defBody s_Room_has_both) (defScope s_Room_has_both) .none kV_Room_has_both dc_Room_has_both pm_Room_has_both an_Room_has_both cd_Room_has_both ct_Room_has_both,
      f_Belief_init := f_Belief_init,
      d_Belief_init := PySem.W.fnOf "__init__" "Belief.__init__" (defArgs s_Belief_init) (defBody s_Belief_init) (defScope s_Belief_init) .none kV_Belief_init dc_Belief_init pm_Belief_init an_Belief_init cd_Belief_init ct_Belief_init,
      f_belief_before := f_belief_before,
      d_belief_before := PySem.W.fnOf "belief_before" "belief_before" (defArgs s_belief_before) (defBody s_belief_before) (defScope s_belief_before) .none kV_belief_before dc_belief_before pm_belief_before an_belief_before cd_belief_before ct_belief_before,
      f_belief_of := f_belief_of,
      d_belief_of := PySem.W.fnOf "belief_of" "belief_of" (defArgs s_belief_of) (defBody s_belief_of) (defScope s_belief_of) .none kV_belief_of dc_belief_of pm_belief_of an_belief_of cd_belief_of ct_belief_of,
      f_row_by := f_row_by,
      d_row_by := PySem.W.fnOf "row_by" "row_by" (defArgs s_row_by) (defBody s_row_by) (defScope s_row_by) .none kV_row_by dc_row_by pm_row_by an_row_by cd_row_by ct_row_by,
      f_begin := f_begin,
      d_begin := PySem.W.fnOf "begin" "begin" (defArgs s_begin) (defBody s_begin) (defScope s_begin) .none kV_begin dc_begin pm_begin an_begin cd_begin ct_begin,
      f_tell_event := f_tell_event,
      d_tell_event := PySem.W.fnOf "tell_event" "tell_event" (defArgs s_tell_event) (defBody s_tell_event) (defScope s_tell_event) .none kV_tell_event dc_tell_event pm_tell_event an_tell_event cd_tell_event ct_tell_event,
      f_era_reached := f_era_reached,
      d_era_reached := PySem.W.fnOf "era_reached" "era_reached" (defArgs s_era_reached) (defBody s_era_reached) (defScope s_era_reached) .none kV_era_reached dc_era_reached pm_era_reached an_era_reached cd_era_reached ct_era_reached,
      f_set_clock := f_set_clock,
      d_set_clock := PySem.W.fnOf "set_clock" "set_clock" (defArgs s_set_clock) (defBody s_set_clock) (defScope s_set_clock) .none kV_set_clock dc_set_clock pm_set_clock an_set_clock cd_set_clock ct_set_clock,
      f_tell_signal := f_tell_signal,
      d_tell_signal := PySem.W.fnOf "tell_signal" "tell_signal" (defArgs s_tell_signal) (defBody s_tell_signal) (defScope s_tell_signal) .none kV_tell_signal dc_tell_signal pm_tell_signal an_tell_signal cd_tell_signal ct_tell_signal,
      f_signal_refusal := f_signal_refusal,
      d_signal_refusal := PySem.W.fnOf "signal_refusal" "signal_refusal" (defArgs s_signal_refusal) (defBody s_signal_refusal) (defScope s_signal_refusal) .none kV_signal_refusal dc_signal_refusal pm_signal_refusal an_signal_refusal cd_signal_refusal ct_signal_refusal,
      f_strike := f_strike,
      d_strike := PySem.W.fnOf "strike" "strike" (defArgs s_strike) (defBody s_strike) (defScope s_strike) .none kV_strike dc_strike pm_strike an_strike cd_strike ct_strike,
      f_with_length := f_with_length,
      d_with_length := PySem.W.fnOf "with_length" "with_length" (defArgs s_with_length) (defBody s_with_length) (defScope s_with_length) .none kV_with_length dc_with_length pm_with_length an_with_length cd_with_length ct_with_length,
      f_bound_list := f_bound_list,
      d_bound_list := PySem.W.fnOf "bound_list" "bound_list" (defArgs s_bound_list) (defBody s_bound_list) (defScope s_bound_list) .none kV_bound_list dc_bound_list pm_bound_list an_bound_list cd_bound_list ct_bound_list,
      f_counted := f_counted,
      d_counted := PySem.W.fnOf "counted" "counted" (defArgs s_counted) (defBody s_counted) (defScope s_counted) .none kV_counted dc_counted pm_counted an_counted cd_counted ct_counted,
      f_tell_believed := f_tell_believed,
      d_tell_believed := PySem.W.fnOf "tell_believed" "tell_believed" (defArgs s_tell_believed) (defBody s_tell_believed) (defScope s_tell_believed) .none kV_tell_believed dc_tell_believed pm_tell_believed an_tell_believed cd_tell_believed ct_tell_believed,
      f_tell_between := f_tell_between,
      d_tell_between := PySem.W.fnOf "tell_between" "tell_between" (defArgs s_tell_between) (defBody s_tell_between) (defScope s_tell_between) .none kV_tell_between dc_tell_between pm_tell_between an_tell_between cd_tell_between ct_tell_between,
      f_tell_order := f_tell_order,
      d_tell_order := PySem.W.fnOf "tell_order" "tell_order" (defArgs s_tell_order) (defBody s_tell_order) (defScope s_tell_order) .none kV_tell_order dc_tell_order pm_tell_order an_tell_order cd_tell_order ct_tell_order,
      f_tell_reason := f_tell_reason,
      d_tell_reason := PySem.W.fnOf "tell_reason" "tell_reason" (defArgs s_tell_reason) (defBody s_tell_reason) (defScope s_tell_reason) .none kV_tell_reason dc_tell_reason pm_tell_reason an_tell_reason cd_tell_reason ct_tell_reason,
      f_tell_against := f_tell_against,
      d_tell_against := PySem.W.fnOf "tell_against" "tell_against" (defArgs s_tell_against) (defBody s_tell_against) (defScope s_tell_against) .none kV_tell_against dc_tell_against pm_tell_against an_tell_against cd_tell_against ct_tell_against,
      f_tell_could := f_tell_could,
      d_tell_could := PySem.W.fnOf "tell_could" "tell_could" (defArgs s_tell_could) (defBody s_tell_could) (defScope s_tell_could) .none kV_tell_could dc_tell_could pm_tell_could an_tell_could cd_tell_could ct_tell_could,
      f_tell_of := f_tell_of,
      d_tell_of := PySem.W.fnOf "tell_of" "tell_of" (defArgs s_tell_of) (defBody s_tell_of) (defScope s_tell_of) .none kV_tell_of dc_tell_of pm_tell_of an_tell_of cd_tell_of ct_tell_of,
      f_tell_once := f_tell_once,
      d_tell_once := PySem.W.fnOf "tell_once" "tell_once" (defArgs s_tell_once) (defBody s_tell_once) (defScope s_tell_once) .none kV_tell_once dc_tell_once pm_tell_once an_tell_once cd_tell_once ct_tell_once,
      f_answer_to := f_answer_to,
      d_answer_to := PySem.W.fnOf "answer_to" "answer_to" (defArgs s_answer_to) (defBody s_answer_to) (defScope s_answer_to) .none kV_answer_to dc_answer_to pm_answer_to an_answer_to cd_answer_to ct_answer_to,
      f_call_length := f_call_length,
      d_call_length := PySem.W.fnOf "call_length" "call_length" (defArgs s_call_length) (defBody s_call_length) (defScope s_call_length) .none kV_call_length dc_call_length pm_call_length an_call_length cd_call_length ct_call_length,
      f_answers := f_answers,
      d_answers := PySem.W.fnOf "answers" "answers" (defArgs s_answers) (defBody s_answers) (defScope s_answers) .none kV_answers dc_answers pm_answers an_answers cd_answers ct_answers } where
  F_era_bound := fun_mk (st := s_era_bound) l_era_bound c_era_bound k_era_bound
  b_era_bound := (fun_mk (st := s_era_bound) l_era_bound c_era_bound k_era_bound).binds (ps := ["rate", "further"]) fun _ _ _ _ _ _ us hl => match us, hl with | [_, _], _ => rfl
  m_era_bound := PySem.W.mg_of X G a_era_bound
  F_clock_bound := fun_mk (st := s_clock_bound) l_clock_bound c_clock_bound k_clock_bound
  b_clock_bound := (fun_mk (st := s_clock_bound) l_clock_bound c_clock_bound k_clock_bound).binds (ps := ["rates", "base", "other"]) fun _ _ _ _ _ _ us hl => match us, hl with | [_, _, _], _ => rfl
  m_clock_bound := PySem.W.mg_of X G a_clock_bound
  F_bound_sum := fun_mk (st := s_bound_sum) l_bound_sum c_bound_sum k_bound_sum
  b_bound_sum := (fun_mk (st := s_bound_sum) l_bound_sum c_bound_sum k_bound_sum).binds (ps := ["one", "other"]) fun _ _ _ _ _ _ us hl => match us, hl with | [_, _], _ => rfl
  m_bound_sum := PySem.W.mg_of X G a_bound_sum
  F_bound_least := fun_mk (st := s_bound_least) l_bound_least c_bound_least k_bound_least
  b_bound_least := (fun_mk (st := s_bound_least) l_bound_least c_bound_least k_bound_least).binds (ps := ["one", "other"]) fun _ _ _ _ _ _ us hl => match us, hl with | [_, _], _ => rfl
  m_bound_least := PySem.W.mg_of X G a_bound_least
  F_row_by_way := fun_mk (st := s_row_by_way) l_row_by_way c_row_by_way k_row_by_way
  b_row_by_way := (fun_mk (st := s_row_by_way) l_row_by_way c_row_by_way k_row_by_way).binds (ps := ["row", "reach", "onward"]) fun _ _ _ _ _ _ us hl => match us, hl with | [_, _, _], _ => rfl
  m_row_by_way := PySem.W.mg_of X G a_row_by_way
  F_with_bound := fun_mk (st := s_with_bound) l_with_bound c_with_bound k_with_bound
  b_with_bound := (fun_mk (st := s_with_bound) l_with_bound c_with_bound k_with_bound).binds (ps := ["table", "base", "other", "most"]) fun _ _ _ _ _ _ us hl => match us, hl with | [_, _, _, _], _ => rfl
  m_with_bound := PySem.W.mg_of X G a_with_bound
  F_clock_row := fun_mk (st := s_clock_row) l_clock_row c_clock_row k_clock_row
  b_clock_row := (fun_mk (st := s_clock_row) l_clock_row c_clock_row k_clock_row).binds (ps := ["rates", "base", "events"]) fun _ _ _ _ _ _ us hl => match us, hl with | [_, _, _], _ => rfl
  m_clock_row := PySem.W.mg_of X G a_clock_row
  F_own_clock_bounds := fun_mk (st := s_own_clock_bounds) l_own_clock_bounds c_own_clock_bounds k_own_clock_bounds
  b_own_clock_bounds := (fun_mk (st := s_own_clock_bounds) l_own_clock_bounds c_own_clock_bounds k_own_clock_bounds).binds (ps := ["rates", "events"]) fun _ _ _ _ _ _ us hl => match us, hl with | [_, _], _ => rfl
  m_own_clock_bounds := PySem.W.mg_of X G a_own_clock_bounds
  F_clock_table := fun_mk (st := s_clock_table) l_clock_table c_clock_table k_clock_table
  b_clock_table := (fun_mk (st := s_clock_table) l_clock_table c_clock_table k_clock_table).binds (ps := ["rates", "events"]) fun _ _ _ _ _ _ us hl => match us, hl with | [_, _], _ => rfl
  m_clock_table := PySem.W.mg_of X G a_clock_table
  F_least_later := fun_mk (st := s_least_later) l_least_later c_least_later k_least_later
  b_least_later := (fun_mk (st := s_least_later) l_least_later c_least_later k_least_later).binds (ps := ["table", "base", "other"]) fun _ _ _ _ _ _ us hl => match us, hl with | [_, _, _], _ => rfl
  m_least_later := PySem.W.mg_of X G a_least_later
  F_surely_before := fun_mk (st := s_surely_before) l_surely_before c_surely_before k_surely_before
  b_surely_before := (fun_mk (st := s_surely_before) l_surely_before c_surely_before k_surely_before).binds (ps := ["table", "base", "other"]) fun _ _ _ _ _ _ us hl => match us, hl with | [_, _, _], _ => rfl
  m_surely_before := PySem.W.mg_of X G a_surely_before
  F_surely_at_once := fun_mk (st := s_surely_at_once) l_surely_at_once c_surely_at_once k_surely_at_once
  b_surely_at_once := (fun_mk (st := s_surely_at_once) l_surely_at_once c_surely_at_once k_surely_at_once).binds (ps := ["table", "base", "other"]) fun _ _ _ _ _ _ us hl => match us, hl with | [_, _, _], _ => rfl
  m_surely_at_once := PySem.W.mg_of X G a_surely_at_once
  F_bound_fits := fun_mk (st := s_bound_fits) l_bound_fits c_bound_fits k_bound_fits
  b_bound_fits := (fun_mk (st := s_bound_fits) l_bound_fits c_bound_fits k_bound_fits).binds (ps := ["table", "base", "other", "most"]) fun _ _ _ _ _ _ us hl => match us, hl with | [_, _, _, _], _ => rfl
  m_bound_fits := PySem.W.mg_of X G a_bound_fits
  F_least_fits := fun_mk (st := s_least_fits) l_least_fits c_least_fits k_least_fits
  b_least_fits := (fun_mk (st := s_least_fits) l_least_fits c_least_fits k_least_fits).binds (ps := ["table", "signal"]) fun _ _ _ _ _ _ us hl => match us, hl with | [_, _], _ => rfl
  m_least_fits := PySem.W.mg_of X G a_least_fits
  F_signal_fits := fun_mk (st := s_signal_fits) l_signal_fits c_signal_fits k_signal_fits
  b_signal_fits := (fun_mk (st := s_signal_fits) l_signal_fits c_signal_fits k_signal_fits).binds (ps := ["table", "signal"]) fun _ _ _ _ _ _ us hl => match us, hl with | [_, _], _ => rfl
  m_signal_fits := PySem.W.mg_of X G a_signal_fits
  F_with_signal := fun_mk (st := s_with_signal) l_with_signal c_with_signal k_with_signal
  b_with_signal := (fun_mk (st := s_with_signal) l_with_signal c_with_signal k_with_signal).binds (ps := ["table", "signal"]) fun _ _ _ _ _ _ us hl => match us, hl with | [_, _], _ => rfl
  m_with_signal := PySem.W.mg_of X G a_with_signal
  F_bounds_at := fun_mk (st := s_bounds_at) l_bounds_at c_bounds_at k_bounds_at
  b_bounds_at := (fun_mk (st := s_bounds_at) l_bounds_at c_bounds_at k_bounds_at).binds (ps := ["rates", "events", "extra", "place"]) fun _ _ _ _ _ _ us hl => match us, hl with | [_, _, _, _], _ => rfl
  m_bounds_at := PySem.W.mg_of X G a_bounds_at
  F_bounds_fit := fun_mk (st := s_bounds_fit) l_bounds_fit c_bounds_fit k_bounds_fit
  b_bounds_fit := (fun_mk (st := s_bounds_fit) l_bounds_fit c_bounds_fit k_bounds_fit).binds (ps := ["table", "told"]) fun _ _ _ _ _ _ us hl => match us, hl with | [_, _], _ => rfl
  m_bounds_fit := PySem.W.mg_of X G a_bounds_fit
  F_own_bounds := fun_mk (st := s_own_bounds) l_own_bounds c_own_bounds k_own_bounds
  b_own_bounds := (fun_mk (st := s_own_bounds) l_own_bounds c_own_bounds k_own_bounds).binds (ps := ["rates", "events", "signals"]) fun _ _ _ _ _ _ us hl => match us, hl with | [_, _, _], _ => rfl
  m_own_bounds := PySem.W.mg_of X G a_own_bounds
  F_leads_on := fun_mk (st := s_leads_on) l_leads_on c_leads_on k_leads_on
  b_leads_on := (fun_mk (st := s_leads_on) l_leads_on c_leads_on k_leads_on).binds (ps := ["own", "table", "here", "onward", "end"]) fun _ _ _ _ _ _ us hl => match us, hl with | [_, _, _, _, _], _ => rfl
  m_leads_on := PySem.W.mg_of X G a_leads_on
  F_bound_row := fun_mk (st := s_bound_row) l_bound_row c_bound_row k_bound_row
  b_bound_row := (fun_mk (st := s_bound_row) l_bound_row c_bound_row k_bound_row).binds (ps := ["own", "table", "start", "end"]) fun _ _ _ _ _ _ us hl => match us, hl with | [_, _, _, _], _ => rfl
  m_bound_row := PySem.W.mg_of X G a_bound_row
  F_Event_init := fun_mk (st := s_Event_init) l_Event_init c_Event_init k_Event_init
  b_Event_init := (fun_mk (st := s_Event_init) l_Event_init c_Event_init k_Event_init).binds (ps := ["self", "clock", "era", "reading", "instant"]) fun _ _ _ _ _ _ us hl => match us, hl with | [_, _, _, _, _], _ => rfl
  F_Signal_init := fun_mk (st := s_Signal_init) l_Signal_init c_Signal_init k_Signal_init
  b_Signal_init := (fun_mk (st := s_Signal_init) l_Signal_init c_Signal_init k_Signal_init).binds (ps := ["self", "first", "second", "least", "most"]) fun _ _ _ _ _ _ us hl => match us, hl with | [_, _, _, _, _], _ => rfl
  F_Room_init := fun_mk (st := s_Room_init) l_Room_init c_Room_init k_Room_init
  b_Room_init := (fun_mk (st := s_Room_init) l_Room_init c_Room_init k_Room_init).binds (ps := ["self"]) fun _ _ _ _ _ _ us hl => match us, hl with | [_], _ => rfl
  F_Room_renew := fun_mk (st := s_Room_renew) l_Room_renew c_Room_renew k_Room_renew
  b_Room_renew := (fun_mk (st := s_Room_renew) l_Room_renew c_Room_renew k_Room_renew).binds (ps := ["self", "rates"]) fun _ _ _ _ _ _ us hl => match us, hl with | [_, _], _ => rfl
  h_Room_renew := ⟨a_Room_renew, i_Room_renew, k_Room_renew⟩
  F_Room_note := fun_mk (st := s_Room_note) l_Room_note c_Room_note k_Room_note
  b_Room_note := (fun_mk (st := s_Room_note) l_Room_note c_Room_note k_Room_note).binds (ps := ["self", "clock", "reading", "instant"]) fun _ _ _ _ _ _ us hl => match us, hl with | [_, _, _, _], _ => rfl
  h_Room_note := ⟨a_Room_note, i_Room_note, k_Room_note⟩
  F_Room_has_clock := fun_mk (st := s_Room_has_clock) l_Room_has_clock c_Room_has_clock k_Room_has_clock
  b_Room_has_clock := (fun_mk (st := s_Room_has_clock) l_Room_has_clock c_Room_has_clock k_Room_has_clock).binds (ps := ["self", "clock"]) fun _ _ _ _ _ _ us hl => match us, hl with | [_, _], _ => rfl
  h_Room_has_clock := ⟨a_Room_has_clock, i_Room_has_clock, k_Room_has_clock⟩
  F_Room_has_event := fun_mk (st := s_Room_has_event) l_Room_has_event c_Room_has_event k_Room_has_event
  b_Room_has_event := (fun_mk (st := s_Room_has_event) l_Room_has_event c_Room_has_event k_Room_has_event).binds (ps := ["self", "number"]) fun _ _ _ _ _ _ us hl => match us, hl with | [_, _], _ => rfl
  h_Room_has_event := ⟨a_Room_has_event, i_Room_has_event, k_Room_has_event⟩
  F_Room_has_both := fun_mk (st := s_Room_has_both) l_Room_has_both c_Room_has_both k_Room_has_both
  b_Room_has_both := (fun_mk (st := s_Room_has_both) l_Room_has_both c_Room_has_both k_Room_has_both).binds (ps := ["self", "one", "other"]) fun _ _ _ _ _ _ us hl => match us, hl with | [_, _, _], _ => rfl
  h_Room_has_both := ⟨a_Room_has_both, i_Room_has_both, k_Room_has_both⟩
  F_Belief_init := fun_mk (st := s_Belief_init) l_Belief_init c_Belief_init k_Belief_init
  b_Belief_init := (fun_mk (st := s_Belief_init) l_Belief_init c_Belief_init k_Belief_init).binds (ps := ["self", "numbers", "table"]) fun _ _ _ _ _ _ us hl => match us, hl with | [_, _, _], _ => rfl
  F_belief_before := fun_mk (st := s_belief_before) l_belief_before c_belief_before k_belief_before
  b_belief_before := (fun_mk (st := s_belief_before) l_belief_before c_belief_before k_belief_before).binds (ps := ["room", "end"]) fun _ _ _ _ _ _ us hl => match us, hl with | [_, _], _ => rfl
  m_belief_before := PySem.W.mg_of X G a_belief_before
  F_belief_of := fun_mk (st := s_belief_of) l_belief_of c_belief_of k_belief_of
  b_belief_of := (fun_mk (st := s_belief_of) l_belief_of c_belief_of k_belief_of).binds (ps := ["room"]) fun _ _ _ _ _ _ us hl => match us, hl with | [_], _ => rfl
  m_belief_of := PySem.W.mg_of X G a_belief_of
  F_row_by := fun_mk (st := s_row_by) l_row_by c_row_by k_row_by
  b_row_by := (fun_mk (st := s_row_by) l_row_by c_row_by k_row_by).binds (ps := ["room", "belief", "start", "end"]) fun _ _ _ _ _ _ us hl => match us, hl with | [_, _, _, _], _ => rfl
  m_row_by := PySem.W.mg_of X G a_row_by
  F_begin := fun_mk (st := s_begin) l_begin c_begin k_begin
  b_begin := (fun_mk (st := s_begin) l_begin c_begin k_begin).binds (ps := ["room", "rates"]) fun _ _ _ _ _ _ us hl => match us, hl with | [_, _], _ => rfl
  m_begin := PySem.W.mg_of X G a_begin
  F_tell_event := fun_mk (st := s_tell_event) l_tell_event c_tell_event k_tell_event
  b_tell_event := (fun_mk (st := s_tell_event) l_tell_event c_tell_event k_tell_event).binds (ps := ["room", "clock", "reading"]) fun _ _ _ _ _ _ us hl => match us, hl with | [_, _, _], _ => rfl
  m_tell_event := PySem.W.mg_of X G a_tell_event
  F_era_reached := fun_mk (st := s_era_reached) l_era_reached c_era_reached k_era_reached
  b_era_reached := (fun_mk (st := s_era_reached) l_era_reached c_era_reached k_era_reached).binds (ps := ["room", "clock"]) fun _ _ _ _ _ _ us hl => match us, hl with | [_, _], _ => rfl
  m_era_reached := PySem.W.mg_of X G a_era_reached
  F_set_clock := fun_mk (st := s_set_clock) l_set_clock c_set_clock k_set_clock
  b_set_clock := (fun_mk (st := s_set_clock) l_set_clock c_set_clock k_set_clock).binds (ps := ["room", "clock", "showed", "told"]) fun _ _ _ _ _ _ us hl => match us, hl with | [_, _, _, _], _ => rfl
  m_set_clock := PySem.W.mg_of X G a_set_clock
  F_tell_signal := fun_mk (st := s_tell_signal) l_tell_signal c_tell_signal k_tell_signal
  b_tell_signal := (fun_mk (st := s_tell_signal) l_tell_signal c_tell_signal k_tell_signal).binds (ps := ["room", "first", "second", "least", "most"]) fun _ _ _ _ _ _ us hl => match us, hl with | [_, _, _, _, _], _ => rfl
  m_tell_signal := PySem.W.mg_of X G a_tell_signal
  F_signal_refusal := fun_mk (st := s_signal_refusal) l_signal_refusal c_signal_refusal k_signal_refusal
  b_signal_refusal := (fun_mk (st := s_signal_refusal) l_signal_refusal c_signal_refusal k_signal_refusal).binds (ps := ["room", "number"]) fun _ _ _ _ _ _ us hl => match us, hl with | [_, _], _ => rfl
  m_signal_refusal := PySem.W.mg_of X G a_signal_refusal
  F_strike := fun_mk (st := s_strike) l_strike c_strike k_strike
  b_strike := (fun_mk (st := s_strike) l_strike c_strike k_strike).binds (ps := ["room", "number"]) fun _ _ _ _ _ _ us hl => match us, hl with | [_, _], _ => rfl
  m_strike := PySem.W.mg_of X G a_strike
  F_with_length := fun_mk (st := s_with_length) l_with_length c_with_length k_with_length
  b_with_length := (fun_mk (st := s_with_length) l_with_length c_with_length k_with_length).binds (ps := ["numbers"]) fun _ _ _ _ _ _ us hl => match us, hl with | [_], _ => rfl
  m_with_length := PySem.W.mg_of X G a_with_length
  F_bound_list := fun_mk (st := s_bound_list) l_bound_list c_bound_list k_bound_list
  b_bound_list := (fun_mk (st := s_bound_list) l_bound_list c_bound_list k_bound_list).binds (ps := ["bound"]) fun _ _ _ _ _ _ us hl => match us, hl with | [_], _ => rfl
  m_bound_list := PySem.W.mg_of X G a_bound_list
  F_counted := fun_mk (st := s_counted) l_counted c_counted k_counted
  b_counted := (fun_mk (st := s_counted) l_counted c_counted k_counted).binds (ps := ["numbers"]) fun _ _ _ _ _ _ us hl => match us, hl with | [_], _ => rfl
  m_counted := PySem.W.mg_of X G a_counted
  F_tell_believed := fun_mk (st := s_tell_believed) l_tell_believed c_tell_believed k_tell_believed
  b_tell_believed := (fun_mk (st := s_tell_believed) l_tell_believed c_tell_believed k_tell_believed).binds (ps := ["room"]) fun _ _ _ _ _ _ us hl => match us, hl with | [_], _ => rfl
  m_tell_believed := PySem.W.mg_of X G a_tell_believed
  F_tell_between := fun_mk (st := s_tell_between) l_tell_between c_tell_between k_tell_between
  b_tell_between := (fun_mk (st := s_tell_between) l_tell_between c_tell_between k_tell_between).binds (ps := ["room", "base", "other"]) fun _ _ _ _ _ _ us hl => match us, hl with | [_, _, _], _ => rfl
  m_tell_between := PySem.W.mg_of X G a_tell_between
  F_tell_order := fun_mk (st := s_tell_order) l_tell_order c_tell_order k_tell_order
  b_tell_order := (fun_mk (st := s_tell_order) l_tell_order c_tell_order k_tell_order).binds (ps := ["room", "base", "other"]) fun _ _ _ _ _ _ us hl => match us, hl with | [_, _, _], _ => rfl
  m_tell_order := PySem.W.mg_of X G a_tell_order
  F_tell_reason := fun_mk (st := s_tell_reason) l_tell_reason c_tell_reason k_tell_reason
  b_tell_reason := (fun_mk (st := s_tell_reason) l_tell_reason c_tell_reason k_tell_reason).binds (ps := ["room", "base", "other"]) fun _ _ _ _ _ _ us hl => match us, hl with | [_, _, _], _ => rfl
  m_tell_reason := PySem.W.mg_of X G a_tell_reason
  F_tell_against := fun_mk (st := s_tell_against) l_tell_against c_tell_against k_tell_against
  b_tell_against := (fun_mk (st := s_tell_against) l_tell_against c_tell_against k_tell_against).binds (ps := ["room", "number"]) fun _ _ _ _ _ _ us hl => match us, hl with | [_, _], _ => rfl
  m_tell_against := PySem.W.mg_of X G a_tell_against
  F_tell_could := fun_mk (st := s_tell_could) l_tell_could c_tell_could k_tell_could
  b_tell_could := (fun_mk (st := s_tell_could) l_tell_could c_tell_could k_tell_could).binds (ps := ["room", "place", "clock", "era", "reading"]) fun _ _ _ _ _ _ us hl => match us, hl with | [_, _, _, _, _], _ => rfl
  m_tell_could := PySem.W.mg_of X G a_tell_could
  F_tell_of := fun_mk (st := s_tell_of) l_tell_of c_tell_of k_tell_of
  b_tell_of := (fun_mk (st := s_tell_of) l_tell_of c_tell_of k_tell_of).binds (ps := ["room", "clock"]) fun _ _ _ _ _ _ us hl => match us, hl with | [_, _], _ => rfl
  m_tell_of := PySem.W.mg_of X G a_tell_of
  F_tell_once := fun_mk (st := s_tell_once) l_tell_once c_tell_once k_tell_once
  b_tell_once := (fun_mk (st := s_tell_once) l_tell_once c_tell_once k_tell_once).binds (ps := ["room", "base"]) fun _ _ _ _ _ _ us hl => match us, hl with | [_, _], _ => rfl
  m_tell_once := PySem.W.mg_of X G a_tell_once
  F_answer_to := fun_mk (st := s_answer_to) l_answer_to c_answer_to k_answer_to
  b_answer_to := (fun_mk (st := s_answer_to) l_answer_to c_answer_to k_answer_to).binds (ps := ["room", "call"]) fun _ _ _ _ _ _ us hl => match us, hl with | [_, _], _ => rfl
  m_answer_to := PySem.W.mg_of X G a_answer_to
  F_call_length := fun_mk (st := s_call_length) l_call_length c_call_length k_call_length
  b_call_length := (fun_mk (st := s_call_length) l_call_length c_call_length k_call_length).binds (ps := ["calls", "at"]) fun _ _ _ _ _ _ us hl => match us, hl with | [_, _], _ => rfl
  m_call_length := PySem.W.mg_of X G a_call_length
  F_answers := fun_mk (st := s_answers) l_answers c_answers k_answers
  b_answers := (fun_mk (st := s_answers) l_answers c_answers k_answers).binds (ps := ["calls"]) fun _ _ _ _ _ _ us hl => match us, hl with | [_], _ => rfl
  m_answers := PySem.W.mg_of X G a_answers
  cl_Event := ⟨pg_Event, hd_Event, po_Event, sa_Event⟩
  m_Event := PySem.W.mg_of X G aC_Event
  M_Event := ⟨mk_Event, a_Event_init, i_Event_init, kc_Event⟩
  n_Event_clock := n_Event_clock
  n_Event_era := n_Event_era
  n_Event_reading := n_Event_reading
  n_Event_instant := n_Event_instant
  cl_Signal := ⟨pg_Signal, hd_Signal, po_Signal, sa_Signal⟩
  m_Signal := PySem.W.mg_of X G aC_Signal
  M_Signal := ⟨mk_Signal, a_Signal_init, i_Signal_init, kc_Signal⟩
  n_Signal_first := n_Signal_first
  n_Signal_second := n_Signal_second
  n_Signal_least := n_Signal_least
  n_Signal_most := n_Signal_most
  n_Signal_struck := n_Signal_struck
  cl_Room := ⟨pg_Room, hd_Room, po_Room, sa_Room⟩
  m_Room := PySem.W.mg_of X G aC_Room
  M_Room := ⟨mk_Room, a_Room_init, i_Room_init, kc_Room⟩
  n_Room_rates := n_Room_rates
  n_Room_eras := n_Room_eras
  n_Room_begun := n_Room_begun
  n_Room_events := n_Room_events
  n_Room_signals := n_Room_signals
  cl_Belief := ⟨pg_Belief, hd_Belief, po_Belief, sa_Belief⟩
  m_Belief := PySem.W.mg_of X G aC_Belief
  M_Belief := ⟨mk_Belief, a_Belief_init, i_Belief_init, kc_Belief⟩
  n_Belief_numbers := n_Belief_numbers
  n_Belief_table := n_Belief_table
  g_MILLION := ⟨_, PySem.W.mg_of X G g_MILLION⟩
  g_MOST_CLOCKS := ⟨_, PySem.W.mg_of X G g_MOST_CLOCKS⟩
  g_MOST_RATE := ⟨_, PySem.W.mg_of X G g_MOST_RATE⟩
  g_MOST_READING := ⟨_, PySem.W.mg_of X G g_MOST_READING⟩
  g_MOST_EVENTS := ⟨_, PySem.W.mg_of X G g_MOST_EVENTS⟩
  g_MOST_SIGNALS := ⟨_, PySem.W.mg_of X G g_MOST_SIGNALS⟩
  g_MOST_ON_WAY := ⟨_, PySem.W.mg_of X G g_MOST_ON_WAY⟩
  g_BEGINS := ⟨_, PySem.W.mg_of X G g_BEGINS⟩
  g_EVENT := ⟨_, PySem.W.mg_of X G g_EVENT⟩
  g_SET := ⟨_, PySem.W.mg_of X G g_SET⟩
  g_SIGNAL := ⟨_, PySem.W.mg_of X G g_SIGNAL⟩
  g_STRIKE := ⟨_, PySem.W.mg_of X G g_STRIKE⟩
  g_BELIEVED := ⟨_, PySem.W.mg_of X G g_BELIEVED⟩
  g_BETWEEN := ⟨_, PySem.W.mg_of X G g_BETWEEN⟩
  g_ORDER := ⟨_, PySem.W.mg_of X G g_ORDER⟩
  g_REASON := ⟨_, PySem.W.mg_of X G g_REASON⟩
  g_AGAINST := ⟨_, PySem.W.mg_of X G g_AGAINST⟩
  g_COULD := ⟨_, PySem.W.mg_of X G g_COULD⟩
  g_OF := ⟨_, PySem.W.mg_of X G g_OF⟩
  g_WIDTHS := ⟨_, PySem.W.mg_of X G g_WIDTHS, fun H => .inr ⟨_, _, _, w_WIDTHS, rfl, rfl, (show 13 ≤ sizeLine by decide), .cons ⟨_, rfl⟩ (.cons ⟨_, rfl⟩ (.cons ⟨_, rfl⟩ (.cons ⟨_, rfl⟩ (.cons ⟨_, rfl⟩ (.cons ⟨_, rfl⟩ (.cons ⟨_, rfl⟩ (.cons ⟨_, rfl⟩ (.cons ⟨_, rfl⟩ (.cons ⟨_, rfl⟩ (.cons ⟨_, rfl⟩ (.cons ⟨_, rfl⟩ (.cons ⟨_, rfl⟩ .nil))))))))))))⟩⟩
  z_min := PySem.W.mg_none_of X G z_min
  z_range := PySem.W.mg_none_of X G z_range
  z_enumerate := PySem.W.mg_none_of X G z_enumerate
  z_len := PySem.W.mg_none_of X G z_len
  z_list := PySem.W.mg_none_of X G z_list
  z_max := PySem.W.mg_none_of X G z_max
theorem fin_mk {P : Program} {w : World} {K : PySem.W.Frag} {h : Heap} {mg : Str → Option Value} {fa : Addr} (X : K.In h) (G : h.Ns mainGlobals mg) (hfa : mg "answers" = some (.ref fa))
    {C_Event : Addr}
    {C_Signal : Addr}
    {C_Room : Addr}
    {C_Belief : Addr}
    {f_era_bound : Addr} {od_era_bound an_era_bound : Option Addr} {sl_era_bound : Array (Option Value)} {oc_era_bound kV_era_bound dc_era_bound pm_era_bound cd_era_bound ct_era_bound : Value}
    {f_clock_bound : Addr} {od_clock_bound an_clock_bound : Option Addr} {sl_clock_bound : Array (Option Value)} {oc_clock_bound kV_clock_bound dc_clock_bound pm_clock_bound cd_clock_bound ct_clock_bound : Value}
    {f_bound_sum : Addr} {od_bound_sum an_bound_sum : Option Addr} {sl_bound_sum : Array (Option Value)} {oc_bound_sum kV_bound_sum dc_bound_sum pm_bound_sum cd_bound_sum ct_bound_sum : Value}
    {f_bound_least : Addr} {od_bound_least an_bound_least : Option Addr} {sl_bound_least : Array (Option Value)} {oc_bound_least kV_bound_least dc_bound_least pm_bound_least cd_bound_least ct_bound_least : Value}
    {f_row_by_way : Addr} {od_row_by_way an_row_by_way : Option Addr} {sl_row_by_way : Array (Option Value)} {oc_row_by_way kV_row_by_way dc_row_by_way pm_row_by_way cd_row_by_way ct_row_by_way : Value}
    {f_with_bound : Addr} {od_with_bound an_with_bound : Option Addr} {sl_with_bound : Array (Option Value)} {oc_with_bound kV_with_bound dc_with_bound pm_with_bound cd_with_bound ct_with_bound : Value}
    {f_clock_row : Addr} {od_clock_row an_clock_row : Option Addr} {sl_clock_row : Array (Option Value)} {oc_clock_row kV_clock_row dc_clock_row pm_clock_row cd_clock_row ct_clock_row : Value}
    {f_own_clock_bounds : Addr} {od_own_clock_bounds an_own_clock_bounds : Option Addr} {sl_own_clock_bounds : Array (Option Value)} {oc_own_clock_bounds kV_own_clock_bounds dc_own_clock_bounds pm_own_clock_bounds cd_own_clock_bounds ct_own_clock_bounds : Value}
    {f_clock_table : Addr} {od_clock_table an_clock_table : Option Addr} {sl_clock_table : Array (Option Value)} {oc_clock_table kV_clock_table dc_clock_table pm_clock_table cd_clock_table ct_clock_table : Value}
    {f_least_later : Addr} {od_least_later an_least_later : Option Addr} {sl_least_later : Array (Option Value)} {oc_least_later kV_least_later dc_least_later pm_least_later cd_least_later ct_least_later : Value}
    {f_surely_before : Addr} {od_surely_before an_surely_before : Option Addr} {sl_surely_before : Array (Option Value)} {oc_surely_before kV_surely_before dc_surely_before pm_surely_before cd_surely_before ct_surely_before : Value}
    {f_surely_at_once : Addr} {od_surely_at_once an_surely_at_once : Option Addr} {sl_surely_at_once : Array (Option Value)} {oc_surely_at_once kV_surely_at_once dc_surely_at_once pm_surely_at_once cd_surely_at_once ct_surely_at_once : Value}
    {f_bound_fits : Addr} {od_bound_fits an_bound_fits : Option Addr} {sl_bound_fits : Array (Option Value)} {oc_bound_fits kV_bound_fits dc_bound_fits pm_bound_fits cd_bound_fits ct_bound_fits : Value}
    {f_least_fits : Addr} {od_least_fits an_least_fits : Option Addr} {sl_least_fits : Array (Option Value)} {oc_least_fits kV_least_fits dc_least_fits pm_least_fits cd_least_fits ct_least_fits : Value}
    {f_signal_fits : Addr} {od_signal_fits an_signal_fits : Option Addr} {sl_signal_fits : Array (Option Value)} {oc_signal_fits kV_signal_fits dc_signal_fits pm_signal_fits cd_signal_fits ct_signal_fits : Value}
    {f_with_signal : Addr} {od_with_signal an_with_signal : Option Addr} {sl_with_signal : Array (Option Value)} {oc_with_signal kV_with_signal dc_with_signal pm_with_signal cd_with_signal ct_with_signal : Value}
    {f_bounds_at : Addr} {od_bounds_at an_bounds_at : Option Addr} {sl_bounds_at : Array (Option Value)} {oc_bounds_at kV_bounds_at dc_bounds_at pm_bounds_at cd_bounds_at ct_bounds_at : Value}
    {f_bounds_fit : Addr} {od_bounds_fit an_bounds_fit : Option Addr} {sl_bounds_fit : Array (Option Value)} {oc_bounds_fit kV_bounds_fit dc_bounds_fit pm_bounds_fit cd_bounds_fit ct_bounds_fit : Value}
    {f_own_bounds : Addr} {od_own_bounds an_own_bounds : Option Addr} {sl_own_bounds : Array (Option Value)} {oc_own_bounds kV_own_bounds dc_own_bounds pm_own_bounds cd_own_bounds ct_own_bounds : Value}
    {f_leads_on : Addr} {od_leads_on an_leads_on : Option Addr} {sl_leads_on : Array (Option Value)} {oc_leads_on kV_leads_on dc_leads_on pm_leads_on cd_leads_on ct_leads_on : Value}
    {f_bound_row : Addr} {od_bound_row an_bound_row : Option Addr} {sl_bound_row : Array (Option Value)} {oc_bound_row kV_bound_row dc_bound_row pm_bound_row cd_bound_row ct_bound_row : Value}
    {f_Event_init : Addr} {od_Event_init an_Event_init : Option Addr} {sl_Event_init : Array (Option Value)} {oc_Event_init kV_Event_init dc_Event_init pm_Event_init cd_Event_init ct_Event_init : Value}
    {f_Signal_init : Addr} {od_Signal_init an_Signal_init : Option Addr} {sl_Signal_init : Array (Option Value)} {oc_Signal_init kV_Signal_init dc_Signal_init pm_Signal_init cd_Signal_init ct_Signal_init : Value}
    {f_Room_init : Addr} {od_Room_init an_Room_init : Option Addr} {sl_Room_init : Array (Option Value)} {oc_Room_init kV_Room_init dc_Room_init pm_Room_init cd_Room_init ct_Room_init : Value}
    {f_Room_renew : Addr} {od_Room_renew an_Room_renew : Option Addr} {sl_Room_renew : Array (Option Value)} {oc_Room_renew kV_Room_renew dc_Room_renew pm_Room_renew cd_Room_renew ct_Room_renew : Value}
    {f_Room_note : Addr} {od_Room_note an_Room_note : Option Addr} {sl_Room_note : Array (Option Value)} {oc_Room_note kV_Room_note dc_Room_note pm_Room_note cd_Room_note ct_Room_note : Value}
    {f_Room_has_clock : Addr} {od_Room_has_clock an_Room_has_clock : Option Addr} {sl_Room_has_clock : Array (Option Value)} {oc_Room_has_clock kV_Room_has_clock dc_Room_has_clock pm_Room_has_clock cd_Room_has_clock ct_Room_has_clock : Value}
    {f_Room_has_event : Addr} {od_Room_has_event an_Room_has_event : Option Addr} {sl_Room_has_event : Array (Option Value)} {oc_Room_has_event kV_Room_has_event dc_Room_has_event pm_Room_has_event cd_Room_has_event ct_Room_has_event : Value}
    {f_Room_has_both : Addr} {od_Room_has_both an_Room_has_both : Option Addr} {sl_Room_has_both : Array (Option Value)} {oc_Room_has_both kV_Room_has_both dc_Room_has_both pm_Room_has_both cd_Room_has_both ct_Room_has_both : Value}
    {f_Belief_init : Addr} {od_Belief_init an_Belief_init : Option Addr} {sl_Belief_init : Array (Option Value)} {oc_Belief_init kV_Belief_init dc_Belief_init pm_Belief_init cd_Belief_init ct_Belief_init : Value}
    {f_belief_before : Addr} {od_belief_before an_belief_before : Option Addr} {sl_belief_before : Array (Option Value)} {oc_belief_before kV_belief_before dc_belief_before pm_belief_before cd_belief_before ct_belief_before : Value}
    {f_belief_of : Addr} {od_belief_of an_belief_of : Option Addr} {sl_belief_of : Array (Option Value)} {oc_belief_of kV_belief_of dc_belief_of pm_belief_of cd_belief_of ct_belief_of : Value}
    {f_row_by : Addr} {od_row_by an_row_by : Option Addr} {sl_row_by : Array (Option Value)} {oc_row_by kV_row_by dc_row_by pm_row_by cd_row_by ct_row_by : Value}
    {f_begin : Addr} {od_begin an_begin : Option Addr} {sl_begin : Array (Option Value)} {oc_begin kV_begin dc_begin pm_begin cd_begin ct_begin : Value}
    {f_tell_event : Addr} {od_tell_event an_tell_event : Option Addr} {sl_tell_event : Array (Option Value)} {oc_tell_event kV_tell_event dc_tell_event pm_tell_event cd_tell_event ct_tell_event : Value}
    {f_era_reached : Addr} {od_era_reached an_era_reached : Option Addr} {sl_era_reached : Array (Option Value)} {oc_era_reached kV_era_reached dc_era_reached pm_era_reached cd_era_reached ct_era_reached : Value}
    {f_set_clock : Addr} {od_set_clock an_set_clock : Option Addr} {sl_set_clock : Array (Option Value)} {oc_set_clock kV_set_clock dc_set_clock pm_set_clock cd_set_clock ct_set_clock : Value}
    {f_tell_signal : Addr} {od_tell_signal an_tell_signal : Option Addr} {sl_tell_signal : Array (Option Value)} {oc_tell_signal kV_tell_signal dc_tell_signal pm_tell_signal cd_tell_signal ct_tell_signal : Value}
    {f_signal_refusal : Addr} {od_signal_refusal an_signal_refusal : Option Addr} {sl_signal_refusal : Array (Option Value)} {oc_signal_refusal kV_signal_refusal dc_signal_refusal pm_signal_refusal cd_signal_refusal ct_signal_refusal : Value}
    {f_strike : Addr} {od_strike an_strike : Option Addr} {sl_strike : Array (Option Value)} {oc_strike kV_strike dc_strike pm_strike cd_strike ct_strike : Value}
    {f_with_length : Addr} {od_with_length an_with_length : Option Addr} {sl_with_length : Array (Option Value)} {oc_with_length kV_with_length dc_with_length pm_with_length cd_with_length ct_with_length : Value}
    {f_bound_list : Addr} {od_bound_list an_bound_list : Option Addr} {sl_bound_list : Array (Option Value)} {oc_bound_list kV_bound_list dc_bound_list pm_bound_list cd_bound_list ct_bound_list : Value}
    {f_counted : Addr} {od_counted an_counted : Option Addr} {sl_counted : Array (Option Value)} {oc_counted kV_counted dc_counted pm_counted cd_counted ct_counted : Value}
    {f_tell_believed : Addr} {od_tell_believed an_tell_believed : Option Addr} {sl_tell_believed : Array (Option Value)} {oc_tell_believed kV_tell_believed dc_tell_believed pm_tell_believed cd_tell_believed ct_tell_believed : Value}
    {f_tell_between : Addr} {od_tell_between an_tell_between : Option Addr} {sl_tell_between : Array (Option Value)} {oc_tell_between kV_tell_between dc_tell_between pm_tell_between cd_tell_between ct_tell_between : Value}
    {f_tell_order : Addr} {od_tell_order an_tell_order : Option Addr} {sl_tell_order : Array (Option Value)} {oc_tell_order kV_tell_order dc_tell_order pm_tell_order cd_tell_order ct_tell_order : Value}
    {f_tell_reason : Addr} {od_tell_reason an_tell_reason : Option Addr} {sl_tell_reason : Array (Option Value)} {oc_tell_reason kV_tell_reason dc_tell_reason pm_tell_reason cd_tell_reason ct_tell_reason : Value}
    {f_tell_against : Addr} {od_tell_against an_tell_against : Option Addr} {sl_tell_against : Array (Option Value)} {oc_tell_against kV_tell_against dc_tell_against pm_tell_against cd_tell_against ct_tell_against : Value}
    {f_tell_could : Addr} {od_tell_could an_tell_could : Option Addr} {sl_tell_could : Array (Option Value)} {oc_tell_could kV_tell_could dc_tell_could pm_tell_could cd_tell_could ct_tell_could : Value}
    {f_tell_of : Addr} {od_tell_of an_tell_of : Option Addr} {sl_tell_of : Array (Option Value)} {oc_tell_of kV_tell_of dc_tell_of pm_tell_of cd_tell_of ct_tell_of : Value}
    {f_tell_once : Addr} {od_tell_once an_tell_once : Option Addr} {sl_tell_once : Array (Option Value)} {oc_tell_once kV_tell_once dc_tell_once pm_tell_once cd_tell_once ct_tell_once : Value}
    {f_answer_to : Addr} {od_answer_to an_answer_to : Option Addr} {sl_answer_to : Array (Option Value)} {oc_answer_to kV_answer_to dc_answer_to pm_answer_to cd_answer_to ct_answer_to : Value}
    {f_call_length : Addr} {od_call_length an_call_length : Option Addr} {sl_call_length : Array (Option Value)} {oc_call_length kV_call_length dc_call_length pm_call_length cd_call_length ct_call_length : Value}
    {f_answers : Addr} {od_answers an_answers : Option Addr} {sl_answers : Array (Option Value)} {oc_answers kV_answers dc_answers pm_answers cd_answers ct_answers : Value}
    {u_MILLION : Tok}
    {u_MOST_CLOCKS : Tok}
    {u_MOST_RATE : Tok}
    {u_MOST_READING : Tok}
    {u_MOST_EVENTS : Tok}
    {u_MOST_SIGNALS : Tok}
    {u_MOST_ON_WAY : Tok}
    {u_BEGINS : Tok}
    {u_EVENT : Tok}
    {u_SET : Tok}
    {u_SIGNAL : Tok}
    {u_STRIKE : Tok}
    {u_BELIEVED : Tok}
    {u_BETWEEN : Tok}
    {u_ORDER : Tok}
    {u_REASON : Tok}
    {u_AGAINST : Tok}
    {u_COULD : Tok}
    {u_OF : Tok}
    {A_WIDTHS : Addr} {t_WIDTHS_0 t_WIDTHS_1 t_WIDTHS_2 t_WIDTHS_3 t_WIDTHS_4 t_WIDTHS_5 t_WIDTHS_6 t_WIDTHS_7 t_WIDTHS_8 t_WIDTHS_9 t_WIDTHS_10 t_WIDTHS_11 t_WIDTHS_12 : Tok} {nn_WIDTHS : Nat} {ow_WIDTHS : Option Addr} {sw_WIDTHS : Array (Option Value)}
    (aC_Event : PySem.W.nsIn K mainGlobals "Event" = some (some (.ref C_Event)))
    (aC_Signal : PySem.W.nsIn K mainGlobals "Signal" = some (some (.ref C_Signal)))
    (aC_Room : PySem.W.nsIn K mainGlobals "Room" = some (some (.ref C_Room)))
    (aC_Belief : PySem.W.nsIn K mainGlobals "Belief" = some (some (.ref C_Belief)))
    (a_era_bound : PySem.W.nsIn K mainGlobals "era_bound" = some (some (.ref f_era_bound)))
    (l_era_bound : K.lookup f_era_bound = some ⟨oc_era_bound, od_era_bound, .func (PySem.W.fnOf "era_bound" "era_bound" (defArgs s_era_bound) (defBody s_era_bound) (defScope s_era_bound) .none kV_era_bound dc_era_bound pm_era_bound an_era_bound cd_era_bound ct_era_bound), sl_era_bound⟩)
    (c_era_bound : PySem.W.codeIn K cd_era_bound "era_bound" = true)
    (k_era_bound : PySem.W.keepIn K (.ref f_era_bound) = true)
    (a_clock_bound : PySem.W.nsIn K mainGlobals "clock_bound" = some (some (.ref f_clock_bound)))
    (l_clock_bound : K.lookup f_clock_bound = some ⟨oc_clock_bound, od_clock_bound, .func (PySem.W.fnOf "clock_bound" "clock_bound" (defArgs s_clock_bound) (defBody s_clock_bound) (defScope s_clock_bound) .none kV_clock_bound dc_clock_bound pm_clock_bound an_clock_bound cd_clock_bound ct_clock_bound), sl_clock_bound⟩)
    (c_clock_bound : PySem.W.codeIn K cd_clock_bound "clock_bound" = true)
    (k_clock_bound : PySem.W.keepIn K (.ref f_clock_bound) = true)
    (a_bound_sum : PySem.W.nsIn K mainGlobals "bound_sum" = some (some (.ref f_bound_sum)))
    (l_bound_sum : K.lookup f_bound_sum = some ⟨oc_bound_sum, od_bound_sum, .func (PySem.W.fnOf "bound_sum" "bound_sum" (defArgs s_bound_sum) (defBody s_bound_sum) (defScope s_bound_sum) .none kV_bound_sum dc_bound_sum pm_bound_sum an_bound_sum cd_bound_sum ct_bound_sum), sl_bound_sum⟩)
    (c_bound_sum : PySem.W.codeIn K cd_bound_sum "bound_sum" = true)
    (k_bound_sum : PySem.W.keepIn K (.ref f_bound_sum) = true)
    (a_bound_least : PySem.W.nsIn K mainGlobals "bound_least" = some (some (.ref f_bound_least)))
    (l_bound_least : K.lookup f_bound_least = some ⟨oc_bound_least, od_bound_least, .func (PySem.W.fnOf "bound_least" "bound_least" (defArgs s_bound_least) (defBody s_bound_least) (defScope s_bound_least) .none kV_bound_least dc_bound_least pm_bound_least an_bound_least cd_bound_least ct_bound_least), sl_bound_least⟩)
    (c_bound_least : PySem.W.codeIn K cd_bound_least "bound_least" = true)
    (k_bound_least : PySem.W.keepIn K (.ref f_bound_least) = true)
    (a_row_by_way : PySem.W.nsIn K mainGlobals "row_by_way" = some (some (.ref f_row_by_way)))
    (l_row_by_way : K.lookup f_row_by_way = some ⟨oc_row_by_way, od_row_by_way, .func (PySem.W.fnOf "row_by_way" "row_by_way" (defArgs s_row_by_way) (defBody s_row_by_way) (defScope s_row_by_way) .none kV_row_by_way dc_row_by_way pm_row_by_way an_row_by_way cd_row_by_way ct_row_by_way), sl_row_by_way⟩)
    (c_row_by_way : PySem.W.codeIn K cd_row_by_way "row_by_way" = true)
    (k_row_by_way : PySem.W.keepIn K (.ref f_row_by_way) = true)
    (a_with_bound : PySem.W.nsIn K mainGlobals "with_bound" = some (some (.ref f_with_bound)))
    (l_with_bound : K.lookup f_with_bound = some ⟨oc_with_bound, od_with_bound, .func (PySem.W.fnOf "with_bound" "with_bound" (defArgs s_with_bound) (defBody s_with_bound) (defScope s_with_bound) .none kV_with_bound dc_with_bound pm_with_bound an_with_bound cd_with_bound ct_with_bound), sl_with_bound⟩)
    (c_with_bound : PySem.W.codeIn K cd_with_bound "with_bound" = true)
    (k_with_bound : PySem.W.keepIn K (.ref f_with_bound) = true)
    (a_clock_row : PySem.W.nsIn K mainGlobals "clock_row" = some (some (.ref f_clock_row)))
    (l_clock_row : K.lookup f_clock_row = some ⟨oc_clock_row, od_clock_row, .func (PySem.W.fnOf "clock_row" "clock_row" (defArgs s_clock_row) (defBody s_clock_row) (defScope s_clock_row) .none kV_clock_row dc_clock_row pm_clock_row an_clock_row cd_clock_row ct_clock_row), sl_clock_row⟩)
    (c_clock_row : PySem.W.codeIn K cd_clock_row "clock_row" = true)
    (k_clock_row : PySem.W.keepIn K (.ref f_clock_row) = true)
    (a_own_clock_bounds : PySem.W.nsIn K mainGlobals "own_clock_bounds" = some (some (.ref f_own_clock_bounds)))
    (l_own_clock_bounds : K.lookup f_own_clock_bounds = some ⟨oc_own_clock_bounds, od_own_clock_bounds, .func (PySem.W.fnOf "own_clock_bounds" "own_clock_bounds" (defArgs s_own_clock_bounds) (defBody s_own_clock_bounds) (defScope s_own_clock_bounds) .none kV_own_clock_bounds dc_own_clock_bounds pm_own_clock_bounds an_own_clock_bounds cd_own_clock_bounds ct_own_clock_bounds), sl_own_clock_bounds⟩)
    (c_own_clock_bounds : PySem.W.codeIn K cd_own_clock_bounds "own_clock_bounds" = true)
    (k_own_clock_bounds : PySem.W.keepIn K (.ref f_own_clock_bounds) = true)
    (a_clock_table : PySem.W.nsIn K mainGlobals "clock_table" = some (some (.ref f_clock_table)))
    (l_clock_table : K.lookup f_clock_table = some ⟨oc_clock_table, od_clock_table, .func (PySem.W.fnOf "clock_table" "clock_table" (defArgs s_clock_table) (defBody s_clock_table) (defScope s_clock_table) .none kV_clock_table dc_clock_table pm_clock_table an_clock_table cd_clock_table ct_clock_table), sl_clock_table⟩)
    (c_clock_table : PySem.W.codeIn K cd_clock_table "clock_table" = true)
    (k_clock_table : PySem.W.keepIn K (.ref f_clock_table) = true)
    (a_least_later : PySem.W.nsIn K mainGlobals "least_later" = some (some (.ref f_least_later)))
    (l_least_later : K.lookup f_least_later = some ⟨oc_least_later, od_least_later, .func (PySem.W.fnOf "least_later" "least_later" (defArgs s_least_later) (defBody s_least_later) (defScope s_least_later) .none kV_least_later dc_least_later pm_least_later an_least_later cd_least_later ct_least_later), sl_least_later⟩)
    (c_least_later : PySem.W.codeIn K cd_least_later "least_later" = true)
    (k_least_later : PySem.W.keepIn K (.ref f_least_later) = true)
    (a_surely_before : PySem.W.nsIn K mainGlobals "surely_before" = some (some (.ref f_surely_before)))
    (l_surely_before : K.lookup f_surely_before = some ⟨oc_surely_before, od_surely_before, .func (PySem.W.fnOf "surely_before" "surely_before" (defArgs s_surely_before) (defBody s_surely_before) (defScope s_surely_before) .none kV_surely_before dc_surely_before pm_surely_before an_surely_before cd_surely_before ct_surely_before), sl_surely_before⟩)
    (c_surely_before : PySem.W.codeIn K cd_surely_before "surely_before" = true)
    (k_surely_before : PySem.W.keepIn K (.ref f_surely_before) = true)
    (a_surely_at_once : PySem.W.nsIn K mainGlobals "surely_at_once" = some (some (.ref f_surely_at_once)))
    (l_surely_at_once : K.lookup f_surely_at_once = some ⟨oc_surely_at_once, od_surely_at_once, .func (PySem.W.fnOf "surely_at_once" "surely_at_once" (defArgs s_surely_at_once) (defBody s_surely_at_once) (defScope s_surely_at_once) .none kV_surely_at_once dc_surely_at_once pm_surely_at_once an_surely_at_once cd_surely_at_once ct_surely_at_once), sl_surely_at_once⟩)
    (c_surely_at_once : PySem.W.codeIn K cd_surely_at_once "surely_at_once" = true)
    (k_surely_at_once : PySem.W.keepIn K (.ref f_surely_at_once) = true)
    (a_bound_fits : PySem.W.nsIn K mainGlobals "bound_fits" = some (some (.ref f_bound_fits)))
    (l_bound_fits : K.lookup f_bound_fits = some ⟨oc_bound_fits, od_bound_fits, .func (PySem.W.fnOf "bound_fits" "bound_fits" (defArgs s_bound_fits) (defBody s_bound_fits) (defScope s_bound_fits) .none kV_bound_fits dc_bound_fits pm_bound_fits an_bound_fits cd_bound_fits ct_bound_fits), sl_bound_fits⟩)
    (c_bound_fits : PySem.W.codeIn K cd_bound_fits "bound_fits" = true)
    (k_bound_fits : PySem.W.keepIn K (.ref f_bound_fits) = true)
    (a_least_fits : PySem.W.nsIn K mainGlobals "least_fits" = some (some (.ref f_least_fits)))
    (l_least_fits : K.lookup f_least_fits = some ⟨oc_least_fits, od_least_fits, .func (PySem.W.fnOf "least_fits" "least_fits" (defArgs s_least_fits) (defBody s_least_fits) (defScope s_least_fits) .none kV_least_fits dc_least_fits pm_least_fits an_least_fits cd_least_fits ct_least_fits), sl_least_fits⟩)
    (c_least_fits : PySem.W.codeIn K cd_least_fits "least_fits" = true)
    (k_least_fits : PySem.W.keepIn K (.ref f_least_fits) = true)
    (a_signal_fits : PySem.W.nsIn K mainGlobals "signal_fits" = some (some (.ref f_signal_fits)))
    (l_signal_fits : K.lookup f_signal_fits = some ⟨oc_signal_fits, od_signal_fits, .func (PySem.W.fnOf "signal_fits" "signal_fits" (defArgs s_signal_fits) (defBody s_signal_fits) (defScope s_signal_fits) .none kV_signal_fits dc_signal_fits pm_signal_fits an_signal_fits cd_signal_fits ct_signal_fits), sl_signal_fits⟩)
    (c_signal_fits : PySem.W.codeIn K cd_signal_fits "signal_fits" = true)
    (k_signal_fits : PySem.W.keepIn K (.ref f_signal_fits) = true)
    (a_with_signal : PySem.W.nsIn K mainGlobals "with_signal" = some (some (.ref f_with_signal)))
    (l_with_signal : K.lookup f_with_signal = some ⟨oc_with_signal, od_with_signal, .func (PySem.W.fnOf "with_signal" "with_signal" (defArgs s_with_signal) (defBody s_with_signal) (defScope s_with_signal) .none kV_with_signal dc_with_signal pm_with_signal an_with_signal cd_with_signal ct_with_signal), sl_with_signal⟩)
    (c_with_signal : PySem.W.codeIn K cd_with_signal "with_signal" = true)
    (k_with_signal : PySem.W.keepIn K (.ref f_with_signal) = true)
    (a_bounds_at : PySem.W.nsIn K mainGlobals "bounds_at" = some (some (.ref f_bounds_at)))
    (l_bounds_at : K.lookup f_bounds_at = some ⟨oc_bounds_at, od_bounds_at, .func (PySem.W.fnOf "bounds_at" "bounds_at" (defArgs s_bounds_at) (defBody s_bounds_at) (defScope s_bounds_at) .none kV_bounds_at dc_bounds_at pm_bounds_at an_bounds_at cd_bounds_at ct_bounds_at), sl_bounds_at⟩)
    (c_bounds_at : PySem.W.codeIn K cd_bounds_at "bounds_at" = true)
    (k_bounds_at : PySem.W.keepIn K (.ref f_bounds_at) = true)
    (a_bounds_fit : PySem.W.nsIn K mainGlobals "bounds_fit" = some (some (.ref f_bounds_fit)))
    (l_bounds_fit : K.lookup f_bounds_fit = some ⟨oc_bounds_fit, od_bounds_fit, .func (PySem.W.fnOf "bounds_fit" "bounds_fit" (defArgs s_bounds_fit) (defBody s_bounds_fit) (defScope s_bounds_fit) .none kV_bounds_fit dc_bounds_fit pm_bounds_fit an_bounds_fit cd_bounds_fit ct_bounds_fit), sl_bounds_fit⟩)
    (c_bounds_fit : PySem.W.codeIn K cd_bounds_fit "bounds_fit" = true)
    (k_bounds_fit : PySem.W.keepIn K (.ref f_bounds_fit) = true)
    (a_own_bounds : PySem.W.nsIn K mainGlobals "own_bounds" = some (some (.ref f_own_bounds)))
    (l_own_bounds : K.lookup f_own_bounds = some ⟨oc_own_bounds, od_own_bounds, .func (PySem.W.fnOf "own_bounds" "own_bounds" (defArgs s_own_bounds) (defBody s_own_bounds) (defScope s_own_bounds) .none kV_own_bounds dc_own_bounds pm_own_bounds an_own_bounds cd_own_bounds ct_own_bounds), sl_own_bounds⟩)
    (c_own_bounds : PySem.W.codeIn K cd_own_bounds "own_bounds" = true)
    (k_own_bounds : PySem.W.keepIn K (.ref f_own_bounds) = true)
    (a_leads_on : PySem.W.nsIn K mainGlobals "leads_on" = some (some (.ref f_leads_on)))
    (l_leads_on : K.lookup f_leads_on = some ⟨oc_leads_on, od_leads_on, .func (PySem.W.fnOf "leads_on" "leads_on" (defArgs s_leads_on) (defBody s_leads_on) (defScope s_leads_on) .none kV_leads_on dc_leads_on pm_leads_on an_leads_on cd_leads_on ct_leads_on), sl_leads_on⟩)
    (c_leads_on : PySem.W.codeIn K cd_leads_on "leads_on" = true)
    (k_leads_on : PySem.W.keepIn K (.ref f_leads_on) = true)
    (a_bound_row : PySem.W.nsIn K mainGlobals "bound_row" = some (some (.ref f_bound_row)))
    (l_bound_row : K.lookup f_bound_row = some ⟨oc_bound_row, od_bound_row, .func (PySem.W.fnOf "bound_row" "bound_row" (defArgs s_bound_row) (defBody s_bound_row) (defScope s_bound_row) .none kV_bound_row dc_bound_row pm_bound_row an_bound_row cd_bound_row ct_bound_row), sl_bound_row⟩)
    (c_bound_row : PySem.W.codeIn K cd_bound_row "bound_row" = true)
    (k_bound_row : PySem.W.keepIn K (.ref f_bound_row) = true)
    (a_Event_init : PySem.W.findIn K (.ref C_Event) "__init__" = some (some (.ref f_Event_init)))
    (i_Event_init : PySem.W.isFn K (.ref f_Event_init) = true)
    (l_Event_init : K.lookup f_Event_init = some ⟨oc_Event_init, od_Event_init, .func (PySem.W.fnOf "__init__" "Event.__init__" (defArgs s_Event_init) (defBody s_Event_init) (defScope s_Event_init) .none kV_Event_init dc_Event_init pm_Event_init an_Event_init cd_Event_init ct_Event_init), sl_Event_init⟩)
    (c_Event_init : PySem.W.codeIn K cd_Event_init "Event.__init__" = true)
    (k_Event_init : PySem.W.keepIn K (.ref f_Event_init) = true)
    (a_Signal_init : PySem.W.findIn K (.ref C_Signal) "__init__" = some (some (.ref f_Signal_init)))
    (i_Signal_init : PySem.W.isFn K (.ref f_Signal_init) = true)
    (l_Signal_init : K.lookup f_Signal_init = some ⟨oc_Signal_init, od_Signal_init, .func (PySem.W.fnOf "__init__" "Signal.__init__" (defArgs s_Signal_init) (defBody s_Signal_init) (defScope s_Signal_init) .none kV_Signal_init dc_Signal_init pm_Signal_init an_Signal_init cd_Signal_init ct_Signal_init), sl_Signal_init⟩)
    (c_Signal_init : PySem.W.codeIn K cd_Signal_init "Signal.__init__" = true)
    (k_Signal_init : PySem.W.keepIn K (.ref f_Signal_init) = true)
    (a_Room_init : PySem.W.findIn K (.ref C_Room) "__init__" = some (some (.ref f_Room_init)))
    (i_Room_init : PySem.W.isFn K (.ref f_Room_init) = true)
    (l_Room_init : K.lookup f_Room_init = some ⟨oc_Room_init, od_Room_init, .func (PySem.W.fnOf "__init__" "Room.__init__" (defArgs s_Room_init) (defBody s_Room_init) (defScope s_Room_init) .none kV_Room_init dc_Room_init pm_Room_init an_Room_init cd_Room_init ct_Room_init), sl_Room_init⟩)
    (c_Room_init : PySem.W.codeIn K cd_Room_init "Room.__init__" = true)
    (k_Room_init : PySem.W.keepIn K (.ref f_Room_init) = true)
    (a_Room_renew : PySem.W.findIn K (.ref C_Room) "renew" = some (some (.ref f_Room_renew)))
    (i_Room_renew : PySem.W.isFn K (.ref f_Room_renew) = true)
    (l_Room_renew : K.lookup f_Room_renew = some ⟨oc_Room_renew, od_Room_renew, .func (PySem.W.fnOf "renew" "Room.renew" (defArgs s_Room_renew) (defBody s_Room_renew) (defScope s_Room_renew) .none kV_Room_renew dc_Room_renew pm_Room_renew an_Room_renew cd_Room_renew ct_Room_renew), sl_Room_renew⟩)
    (c_Room_renew : PySem.W.codeIn K cd_Room_renew "Room.renew" = true)
    (k_Room_renew : PySem.W.keepIn K (.ref f_Room_renew) = true)
    (a_Room_note : PySem.W.findIn K (.ref C_Room) "note" = some (some (.ref f_Room_note)))
    (i_Room_note : PySem.W.isFn K (.ref f_Room_note) = true)
    (l_Room_note : K.lookup f_Room_note = some ⟨oc_Room_note, od_Room_note, .func (PySem.W.fnOf "note" "Room.note" (defArgs s_Room_note) (defBody s_Room_note) (defScope s_Room_note) .none kV_Room_note dc_Room_note pm_Room_note an_Room_note cd_Room_note ct_Room_note), sl_Room_note⟩)
    (c_Room_note : PySem.W.codeIn K cd_Room_note "Room.note" = true)
    (k_Room_note : PySem.W.keepIn K (.ref f_Room_note) = true)
    (a_Room_has_clock : PySem.W.findIn K (.ref C_Room) "has_clock" = some (some (.ref f_Room_has_clock)))
    (i_Room_has_clock : PySem.W.isFn K (.ref f_Room_has_clock) = true)
    (l_Room_has_clock : K.lookup f_Room_has_clock = some ⟨oc_Room_has_clock, od_Room_has_clock, .func (PySem.W.fnOf "has_clock" "Room.has_clock" (defArgs s_Room_has_clock) (defBody s_Room_has_clock) (defScope s_Room_has_clock) .none kV_Room_has_clock dc_Room_has_clock pm_Room_has_clock an_Room_has_clock cd_Room_has_clock ct_Room_has_clock), sl_Room_has_clock⟩)
    (c_Room_has_clock : PySem.W.codeIn K cd_Room_has_clock "Room.has_clock" = true)
    (k_Room_has_clock : PySem.W.keepIn K (.ref f_Room_has_clock) = true)
    (a_Room_has_event : PySem.W.findIn K (.ref C_Room) "has_event" = some (some (.ref f_Room_has_event)))
    (i_Room_has_event : PySem.W.isFn K (.ref f_Room_has_event) = true)
    (l_Room_has_event : K.lookup f_Room_has_event = some ⟨oc_Room_has_event, od_Room_has_event, .func (PySem.W.fnOf "has_event" "Room.has_event" (defArgs s_Room_has_event) (defBody s_Room_has_event) (defScope s_Room_has_event) .none kV_Room_has_event dc_Room_has_event pm_Room_has_event an_Room_has_event cd_Room_has_event ct_Room_has_event), sl_Room_has_event⟩)
    (c_Room_has_event : PySem.W.codeIn K cd_Room_has_event "Room.has_event" = true)
    (k_Room_has_event : PySem.W.keepIn K (.ref f_Room_has_event) = true)
    (a_Room_has_both : PySem.W.findIn K (.ref C_Room) "has_both" = some (some (.ref f_Room_has_both)))
    (i_Room_has_both : PySem.W.isFn K (.ref f_Room_has_both) = true)
    (l_Room_has_both : K.lookup f_Room_has_both = some ⟨oc_Room_has_both, od_Room_has_both, .func (PySem.W.fnOf "has_both" "Room.has_both" (defArgs s_Room_has_both) (defBody s_Room_has_both) (defScope s_Room_has_both) .none kV_Room_has_both dc_Room_has_both pm_Room_has_both an_Room_has_both cd_Room_has_both ct_Room_has_both), sl_Room_has_both⟩)
    (c_Room_has_both : PySem.W.codeIn K cd_Room_has_both "Room.has_both" = true)
    (k_Room_has_both : PySem.W.keepIn K (.ref f_Room_has_both) = true)
    (a_Belief_init : PySem.W.findIn K (.ref C_Belief) "__init__" = some (some (.ref f_Belief_init)))
    (i_Belief_init : PySem.W.isFn K (.ref f_Belief_init) = true)
    (l_Belief_init : K.lookup f_Belief_init = some ⟨oc_Belief_init, od_Belief_init, .func (PySem.W.fnOf "__init__" "Belief.__init__" (defArgs s_Belief_init) (defBody s_Belief_init) (defScope s_Belief_init) .none kV_Belief_init dc_Belief_init pm_Belief_init an_Belief_init cd_Belief_init ct_Belief_init), sl_Belief_init⟩)
    (c_Belief_init : PySem.W.codeIn K cd_Belief_init "Belief.__init__" = true)
    (k_Belief_init : PySem.W.keepIn K (.ref f_Belief_init) = true)
    (a_belief_before : PySem.W.nsIn K mainGlobals "belief_before" = some (some (.ref f_belief_before)))
    (l_belief_before : K.lookup f_belief_before = some ⟨oc_belief_before, od_belief_before, .func (PySem.W.fnOf "belief_before" "belief_before" (defArgs s_belief_before) (defBody s_belief_before) (defScope s_belief_before) .none kV_belief_before dc_belief_before pm_belief_before an_belief_before cd_belief_before ct_belief_before), sl_belief_before⟩)
    (c_belief_before : PySem.W.codeIn K cd_belief_before "belief_before" = true)
    (k_belief_before : PySem.W.keepIn K (.ref f_belief_before) = true)
    (a_belief_of : PySem.W.nsIn K mainGlobals "belief_of" = some (some (.ref f_belief_of)))
    (l_belief_of : K.lookup f_belief_of = some ⟨oc_belief_of, od_belief_of, .func (PySem.W.fnOf "belief_of" "belief_of" (defArgs s_belief_of) (defBody s_belief_of) (defScope s_belief_of) .none kV_belief_of dc_belief_of pm_belief_of an_belief_of cd_belief_of ct_belief_of), sl_belief_of⟩)
    (c_belief_of : PySem.W.codeIn K cd_belief_of "belief_of" = true)
    (k_belief_of : PySem.W.keepIn K (.ref f_belief_of) = true)
    (a_row_by : PySem.W.nsIn K mainGlobals "row_by" = some (some (.ref f_row_by)))
    (l_row_by : K.lookup f_row_by = some ⟨oc_row_by, od_row_by, .func (PySem.W.fnOf "row_by" "row_by" (defArgs s_row_by) (defBody s_row_by) (defScope s_row_by) .none kV_row_by dc_row_by pm_row_by an_row_by cd_row_by ct_row_by), sl_row_by⟩)
    (c_row_by : PySem.W.codeIn K cd_row_by "row_by" = true)
    (k_row_by : PySem.W.keepIn K (.ref f_row_by) = true)
    (a_begin : PySem.W.nsIn K mainGlobals "begin" = some (some (.ref f_begin)))
    (l_begin : K.lookup f_begin = some ⟨oc_begin, od_begin, .func (PySem.W.fnOf "begin" "begin" (defArgs s_begin) (defBody s_begin) (defScope s_begin) .none kV_begin dc_begin pm_begin an_begin cd_begin ct_begin), sl_begin⟩)
    (c_begin : PySem.W.codeIn K cd_begin "begin" = true)
    (k_begin : PySem.W.keepIn K (.ref f_begin) = true)
    (a_tell_event : PySem.W.nsIn K mainGlobals "tell_event" = some (some (.ref f_tell_event)))
    (l_tell_event : K.lookup f_tell_event = some ⟨oc_tell_event, od_tell_event, .func (PySem.W.fnOf "tell_event" "tell_event" (defArgs s_tell_event) (defBody s_tell_event) (defScope s_tell_event) .none kV_tell_event dc_tell_event pm_tell_event an_tell_event cd_tell_event ct_tell_event), sl_tell_event⟩)
    (c_tell_event : PySem.W.codeIn K cd_tell_event "tell_event" = true)
    (k_tell_event : PySem.W.keepIn K (.ref f_tell_event) = true)
    (a_era_reached : PySem.W.nsIn K mainGlobals "era_reached" = some (some (.ref f_era_reached)))
    (l_era_reached : K.lookup f_era_reached = some ⟨oc_era_reached, od_era_reached, .func (PySem.W.fnOf "era_reached" "era_reached" (defArgs s_era_reached) (defBody s_era_reached) (defScope s_era_reached) .none kV_era_reached dc_era_reached pm_era_reached an_era_reached cd_era_reached ct_era_reached), sl_era_reached⟩)
    (c_era_reached : PySem.W.codeIn K cd_era_reached "era_reached" = true)
    (k_era_reached : PySem.W.keepIn K (.ref f_era_reached) = true)
    (a_set_clock : PySem.W.nsIn K mainGlobals "set_clock" = some (some (.ref f_set_clock)))
    (l_set_clock : K.lookup f_set_clock = some ⟨oc_set_clock, od_set_clock, .func (PySem.W.fnOf "set_clock" "set_clock" (defArgs s_set_clock) (defBody s_set_clock) (defScope s_set_clock) .none kV_set_clock dc_set_clock pm_set_clock an_set_clock cd_set_clock ct_set_clock), sl_set_clock⟩)
    (c_set_clock : PySem.W.codeIn K cd_set_clock "set_clock" = true)
    (k_set_clock : PySem.W.keepIn K (.ref f_set_clock) = true)
    (a_tell_signal : PySem.W.nsIn K mainGlobals "tell_signal" = some (some (.ref f_tell_signal)))
    (l_tell_signal : K.lookup f_tell_signal = some ⟨oc_tell_signal, od_tell_signal, .func (PySem.W.fnOf "tell_signal" "tell_signal" (defArgs s_tell_signal) (defBody s_tell_signal) (defScope s_tell_signal) .none kV_tell_signal dc_tell_signal pm_tell_signal an_tell_signal cd_tell_signal ct_tell_signal), sl_tell_signal⟩)
    (c_tell_signal : PySem.W.codeIn K cd_tell_signal "tell_signal" = true)
    (k_tell_signal : PySem.W.keepIn K (.ref f_tell_signal) = true)
    (a_signal_refusal : PySem.W.nsIn K mainGlobals "signal_refusal" = some (some (.ref f_signal_refusal)))
    (l_signal_refusal : K.lookup f_signal_refusal = some ⟨oc_signal_refusal, od_signal_refusal, .func (PySem.W.fnOf "signal_refusal" "signal_refusal" (defArgs s_signal_refusal) (defBody s_signal_refusal) (defScope s_signal_refusal) .none kV_signal_refusal dc_signal_refusal pm_signal_refusal an_signal_refusal cd_signal_refusal ct_signal_refusal), sl_signal_refusal⟩)
    (c_signal_refusal : PySem.W.codeIn K cd_signal_refusal "signal_refusal" = true)
    (k_signal_refusal : PySem.W.keepIn K (.ref f_signal_refusal) = true)
    (a_strike : PySem.W.nsIn K mainGlobals "strike" = some (some (.ref f_strike)))
    (l_strike : K.lookup f_strike = some ⟨oc_strike, od_strike, .func (PySem.W.fnOf "strike" "strike" (defArgs s_strike) (defBody s_strike) (defScope s_strike) .none kV_strike dc_strike pm_strike an_strike cd_strike ct_strike), sl_strike⟩)
    (c_strike : PySem.W.codeIn K cd_strike "strike" = true)
    (k_strike : PySem.W.keepIn K (.ref f_strike) = true)
    (a_with_length : PySem.W.nsIn K mainGlobals "with_length" = some (some (.ref f_with_length)))
    (l_with_length : K.lookup f_with_length = some ⟨oc_with_length, od_with_length, .func (PySem.W.fnOf "with_length" "with_length" (defArgs s_with_length) (defBody s_with_length) (defScope s_with_length) .none kV_with_length dc_with_length pm_with_length an_with_length cd_with_length ct_with_length), sl_with_length⟩)
    (c_with_length : PySem.W.codeIn K cd_with_length "with_length" = true)
    (k_with_length : PySem.W.keepIn K (.ref f_with_length) = true)
    (a_bound_list : PySem.W.nsIn K mainGlobals "bound_list" = some (some (.ref f_bound_list)))
    (l_bound_list : K.lookup f_bound_list = some ⟨oc_bound_list, od_bound_list, .func (PySem.W.fnOf "bound_list" "bound_list" (defArgs s_bound_list) (defBody s_bound_list) (defScope s_bound_list) .none kV_bound_list dc_bound_list pm_bound_list an_bound_list cd_bound_list ct_bound_list), sl_bound_list⟩)
    (c_bound_list : PySem.W.codeIn K cd_bound_list "bound_list" = true)
    (k_bound_list : PySem.W.keepIn K (.ref f_bound_list) = true)
    (a_counted : PySem.W.nsIn K mainGlobals "counted" = some (some (.ref f_counted)))
    (l_counted : K.lookup f_counted = some ⟨oc_counted, od_counted, .func (PySem.W.fnOf "counted" "counted" (defArgs s_counted) (defBody s_counted) (defScope s_counted) .none kV_counted dc_counted pm_counted an_counted cd_counted ct_counted), sl_counted⟩)
    (c_counted : PySem.W.codeIn K cd_counted "counted" = true)
    (k_counted : PySem.W.keepIn K (.ref f_counted) = true)
    (a_tell_believed : PySem.W.nsIn K mainGlobals "tell_believed" = some (some (.ref f_tell_believed)))
    (l_tell_believed : K.lookup f_tell_believed = some ⟨oc_tell_believed, od_tell_believed, .func (PySem.W.fnOf "tell_believed" "tell_believed" (defArgs s_tell_believed) (defBody s_tell_believed) (defScope s_tell_believed) .none kV_tell_believed dc_tell_believed pm_tell_believed an_tell_believed cd_tell_believed ct_tell_believed), sl_tell_believed⟩)
    (c_tell_believed : PySem.W.codeIn K cd_tell_believed "tell_believed" = true)
    (k_tell_believed : PySem.W.keepIn K (.ref f_tell_believed) = true)
    (a_tell_between : PySem.W.nsIn K mainGlobals "tell_between" = some (some (.ref f_tell_between)))
    (l_tell_between : K.lookup f_tell_between = some ⟨oc_tell_between, od_tell_between, .func (PySem.W.fnOf "tell_between" "tell_between" (defArgs s_tell_between) (defBody s_tell_between) (defScope s_tell_between) .none kV_tell_between dc_tell_between pm_tell_between an_tell_between cd_tell_between ct_tell_between), sl_tell_between⟩)
    (c_tell_between : PySem.W.codeIn K cd_tell_between "tell_between" = true)
    (k_tell_between : PySem.W.keepIn K (.ref f_tell_between) = true)
    (a_tell_order : PySem.W.nsIn K mainGlobals "tell_order" = some (some (.ref f_tell_order)))
    (l_tell_order : K.lookup f_tell_order = some ⟨oc_tell_order, od_tell_order, .func (PySem.W.fnOf "tell_order" "tell_order" (defArgs s_tell_order) (defBody s_tell_order) (defScope s_tell_order) .none kV_tell_order dc_tell_order pm_tell_order an_tell_order cd_tell_order ct_tell_order), sl_tell_order⟩)
    (c_tell_order : PySem.W.codeIn K cd_tell_order "tell_order" = true)
    (k_tell_order : PySem.W.keepIn K (.ref f_tell_order) = true)
    (a_tell_reason : PySem.W.nsIn K mainGlobals "tell_reason" = some (some (.ref f_tell_reason)))
    (l_tell_reason : K.lookup f_tell_reason = some ⟨oc_tell_reason, od_tell_reason, .func (PySem.W.fnOf "tell_reason" "tell_reason" (defArgs s_tell_reason) (defBody s_tell_reason) (defScope s_tell_reason) .none kV_tell_reason dc_tell_reason pm_tell_reason an_tell_reason cd_tell_reason ct_tell_reason), sl_tell_reason⟩)
    (c_tell_reason : PySem.W.codeIn K cd_tell_reason "tell_reason" = true)
    (k_tell_reason : PySem.W.keepIn K (.ref f_tell_reason) = true)
    (a_tell_against : PySem.W.nsIn K mainGlobals "tell_against" = some (some (.ref f_tell_against)))
    (l_tell_against : K.lookup f_tell_against = some ⟨oc_tell_against, od_tell_against, .func (PySem.W.fnOf "tell_against" "tell_against" (defArgs s_tell_against) (defBody s_tell_against) (defScope s_tell_against) .none kV_tell_against dc_tell_against pm_tell_against an_tell_against cd_tell_against ct_tell_against), sl_tell_against⟩)
    (c_tell_against : PySem.W.codeIn K cd_tell_against "tell_against" = true)
    (k_tell_against : PySem.W.keepIn K (.ref f_tell_against) = true)
    (a_tell_could : PySem.W.nsIn K mainGlobals "tell_could" = some (some (.ref f_tell_could)))
    (l_tell_could : K.lookup f_tell_could = some ⟨oc_tell_could, od_tell_could, .func (PySem.W.fnOf "tell_could" "tell_could" (defArgs s_tell_could) (defBody s_tell_could) (defScope s_tell_could) .none kV_tell_could dc_tell_could pm_tell_could an_tell_could cd_tell_could ct_tell_could), sl_tell_could⟩)
    (c_tell_could : PySem.W.codeIn K cd_tell_could "tell_could" = true)
    (k_tell_could : PySem.W.keepIn K (.ref f_tell_could) = true)
    (a_tell_of : PySem.W.nsIn K mainGlobals "tell_of" = some (some (.ref f_tell_of)))
    (l_tell_of : K.lookup f_tell_of = some ⟨oc_tell_of, od_tell_of, .func (PySem.W.fnOf "tell_of" "tell_of" (defArgs s_tell_of) (defBody s_tell_of) (defScope s_tell_of) .none kV_tell_of dc_tell_of pm_tell_of an_tell_of cd_tell_of ct_tell_of), sl_tell_of⟩)
    (c_tell_of : PySem.W.codeIn K cd_tell_of "tell_of" = true)
    (k_tell_of : PySem.W.keepIn K (.ref f_tell_of) = true)
    (a_tell_once : PySem.W.nsIn K mainGlobals "tell_once" = some (some (.ref f_tell_once)))
    (l_tell_once : K.lookup f_tell_once = some ⟨oc_tell_once, od_tell_once, .func (PySem.W.fnOf "tell_once" "tell_once" (defArgs s_tell_once) (defBody s_tell_once) (defScope s_tell_once) .none kV_tell_once dc_tell_once pm_tell_once an_tell_once cd_tell_once ct_tell_once), sl_tell_once⟩)
    (c_tell_once : PySem.W.codeIn K cd_tell_once "tell_once" = true)
    (k_tell_once : PySem.W.keepIn K (.ref f_tell_once) = true)
    (a_answer_to : PySem.W.nsIn K mainGlobals "answer_to" = some (some (.ref f_answer_to)))
    (l_answer_to : K.lookup f_answer_to = some ⟨oc_answer_to, od_answer_to, .func (PySem.W.fnOf "answer_to" "answer_to" (defArgs s_answer_to) (defBody s_answer_to) (defScope s_answer_to) .none kV_answer_to dc_answer_to pm_answer_to an_answer_to cd_answer_to ct_answer_to), sl_answer_to⟩)
    (c_answer_to : PySem.W.codeIn K cd_answer_to "answer_to" = true)
    (k_answer_to : PySem.W.keepIn K (.ref f_answer_to) = true)
    (a_call_length : PySem.W.nsIn K mainGlobals "call_length" = some (some (.ref f_call_length)))
    (l_call_length : K.lookup f_call_length = some ⟨oc_call_length, od_call_length, .func (PySem.W.fnOf "call_length" "call_length" (defArgs s_call_length) (defBody s_call_length) (defScope s_call_length) .none kV_call_length dc_call_length pm_call_length an_call_length cd_call_length ct_call_length), sl_call_length⟩)
    (c_call_length : PySem.W.codeIn K cd_call_length "call_length" = true)
    (k_call_length : PySem.W.keepIn K (.ref f_call_length) = true)
    (a_answers : PySem.W.nsIn K mainGlobals "answers" = some (some (.ref f_answers)))
    (l_answers : K.lookup f_answers = some ⟨oc_answers, od_answers, .func (PySem.W.fnOf "answers" "answers" (defArgs s_answers) (defBody s_answers) (defScope s_answers) .none kV_answers dc_answers pm_answers an_answers cd_answers ct_answers), sl_answers⟩)
    (c_answers : PySem.W.codeIn K cd_answers "answers" = true)
    (k_answers : PySem.W.keepIn K (.ref f_answers) = true)
    (pg_Event : PySem.W.plainGet K C_Event Str.empty = true)
    (hd_Event : PySem.W.hasDictIn K C_Event = true)
    (po_Event : PySem.W.plainOver K C_Event = true)
    (sa_Event : PySem.W.findIn K (.ref C_Event) "__setattr__" = some (some (.builtin "object.__setattr__")))
    (mk_Event : PySem.W.makesIn K C_Event = true)
    (kc_Event : PySem.W.keepIn K (.ref C_Event) = true)
    (n_Event_clock : PySem.W.findIn K (.ref C_Event) "clock" = some none)
    (n_Event_era : PySem.W.findIn K (.ref C_Event) "era" = some none)
    (n_Event_reading : PySem.W.findIn K (.ref C_Event) "reading" = some none)
    (n_Event_instant : PySem.W.findIn K (.ref C_Event) "instant" = some none)
    (pg_Signal : PySem.W.plainGet K C_Signal Str.empty = true)
    (hd_Signal : PySem.W.hasDictIn K C_Signal = true)
    (po_Signal : PySem.W.plainOver K C_Signal = true)
    (sa_Signal : PySem.W.findIn K (.ref C_Signal) "__setattr__" = some (some (.builtin "object.__setattr__")))
    (mk_Signal : PySem.W.makesIn K C_Signal = true)
    (kc_Signal : PySem.W.keepIn K (.ref C_Signal) = true)
    (n_Signal_first : PySem.W.findIn K (.ref C_Signal) "first" = some none)
    (n_Signal_second : PySem.W.findIn K (.ref C_Signal) "second" = some none)
    (n_Signal_least : PySem.W.findIn K (.ref C_Signal) "least" = some none)
    (n_Signal_most : PySem.W.findIn K (.ref C_Signal) "most" = some none)
    (n_Signal_struck : PySem.W.findIn K (.ref C_Signal) "struck" = some none)
    (pg_Room : PySem.W.plainGet K C_Room Str.empty = true)
    (hd_Room : PySem.W.hasDictIn K C_Room = true)
    (po_Room : PySem.W.plainOver K C_Room = true)
    (sa_Room : PySem.W.findIn K (.ref C_Room) "__setattr__" = some (some (.builtin "object.__setattr__")))
    (mk_Room : PySem.W.makesIn K C_Room = true)
    (kc_Room : PySem.W.keepIn K (.ref C_Room) = true)
    (n_Room_rates : PySem.W.findIn K (.ref C_Room) "rates" = some none)
    (n_Room_eras : PySem.W.findIn K (.ref C_Room) "eras" = some none)
    (n_Room_begun : PySem.W.findIn K (.ref C_Room) "begun" = some none)
    (n_Room_events : PySem.W.findIn K (.ref C_Room) "events" = some none)
    (n_Room_signals : PySem.W.findIn K (.ref C_Room) "signals" = some none)
    (pg_Belief : PySem.W.plainGet K C_Belief Str.empty = true)
    (hd_Belief : PySem.W.hasDictIn K C_Belief = true)
    (po_Belief : PySem.W.plainOver K C_Belief = true)
    (sa_Belief : PySem.W.findIn K (.ref C_Belief) "__setattr__" = some (some (.builtin "object.__setattr__")))
    (mk_Belief : PySem.W.makesIn K C_Belief = true)
    (kc_Belief : PySem.W.keepIn K (.ref C_Belief) = true)
    (n_Belief_numbers : PySem.W.findIn K (.ref C_Belief) "numbers" = some none)
    (n_Belief_table : PySem.W.findIn K (.ref C_Belief) "table" = some none)
    (g_MILLION : PySem.W.nsIn K mainGlobals "MILLION" = some (some (.int 1000000 u_MILLION)))
    (g_MOST_CLOCKS : PySem.W.nsIn K mainGlobals "MOST_CLOCKS" = some (some (.int 6 u_MOST_CLOCKS)))
    (g_MOST_RATE : PySem.W.nsIn K mainGlobals "MOST_RATE" = some (some (.int 999999 u_MOST_RATE)))
    (g_MOST_READING : PySem.W.nsIn K mainGlobals "MOST_READING" = some (some (.int 1000000 u_MOST_READING)))
    (g_MOST_EVENTS : PySem.W.nsIn K mainGlobals "MOST_EVENTS" = some (some (.int 24 u_MOST_EVENTS)))
    (g_MOST_SIGNALS : PySem.W.nsIn K mainGlobals "MOST_SIGNALS" = some (some (.int 30 u_MOST_SIGNALS)))
    (g_MOST_ON_WAY : PySem.W.nsIn K mainGlobals "MOST_ON_WAY" = some (some (.int 1000000000000 u_MOST_ON_WAY)))
    (g_BEGINS : PySem.W.nsIn K mainGlobals "BEGINS" = some (some (.int 0 u_BEGINS)))
    (g_EVENT : PySem.W.nsIn K mainGlobals "EVENT" = some (some (.int 1 u_EVENT)))
    (g_SET : PySem.W.nsIn K mainGlobals "SET" = some (some (.int 2 u_SET)))
    (g_SIGNAL : PySem.W.nsIn K mainGlobals "SIGNAL" = some (some (.int 3 u_SIGNAL)))
    (g_STRIKE : PySem.W.nsIn K mainGlobals "STRIKE" = some (some (.int 4 u_STRIKE)))
    (g_BELIEVED : PySem.W.nsIn K mainGlobals "BELIEVED" = some (some (.int 5 u_BELIEVED)))
    (g_BETWEEN : PySem.W.nsIn K mainGlobals "BETWEEN" = some (some (.int 6 u_BETWEEN)))
    (g_ORDER : PySem.W.nsIn K mainGlobals "ORDER" = some (some (.int 7 u_ORDER)))
    (g_REASON : PySem.W.nsIn K mainGlobals "REASON" = some (some (.int 8 u_REASON)))
    (g_AGAINST : PySem.W.nsIn K mainGlobals "AGAINST" = some (some (.int 9 u_AGAINST)))
    (g_COULD : PySem.W.nsIn K mainGlobals "COULD" = some (some (.int 10 u_COULD)))
    (g_OF : PySem.W.nsIn K mainGlobals "OF" = some (some (.int 11 u_OF)))
    (g_WIDTHS : PySem.W.nsIn K mainGlobals "WIDTHS" = some (some (.ref A_WIDTHS)))
    (w_WIDTHS : K.lookup A_WIDTHS = some ⟨.type "tuple", ow_WIDTHS, .seq #[.int 1 t_WIDTHS_0, .int 2 t_WIDTHS_1, .int 3 t_WIDTHS_2, .int 4 t_WIDTHS_3, .int 1 t_WIDTHS_4, .int 0 t_WIDTHS_5, .int 2 t_WIDTHS_6, .int 2 t_WIDTHS_7, .int 2 t_WIDTHS_8, .int 1 t_WIDTHS_9, .int 4 t_WIDTHS_10, .int 1 t_WIDTHS_11, .int 1 t_WIDTHS_12] nn_WIDTHS, sw_WIDTHS⟩)
    (z_min : PySem.W.nsIn K mainGlobals "min" = some none)
    (z_range : PySem.W.nsIn K mainGlobals "range" = some none)
    (z_enumerate : PySem.W.nsIn K mainGlobals "enumerate" = some none)
    (z_len : PySem.W.nsIn K mainGlobals "len" = some none)
    (z_list : PySem.W.nsIn K mainGlobals "list" = some none)
    (z_max : PySem.W.nsIn K mainGlobals "max" = some none) :
    ∃ fd : FuncData, (∀ (s : Shared) (us : List Value), us.length = (["calls"] : List Str).length → BindsTo s fd ⟨us, []⟩ ((["calls"] : List Str).zip us)) ∧ ∀ base : Heap, K.In base → base.Ns mainGlobals mg → FnOk P w K mg base CX0 10 fa fd ["calls"] (Ck.spAnswers K) := by
  have T := txt_mk X G aC_Event aC_Signal aC_Room aC_Belief a_era_bound l_era_bound c_era_bound k_era_bound a_clock_bound l_clock_bound c_clock_bound k_clock_bound a_bound_sum l_bound_sum c_bound_sum k_bound_sum a_bound_least l_bound_least c_bound_least k_bound_least a_row_by_way l_row_by_way c_row_by_way k_row_by_way a_with_bound l_with_bound c_with_bound k_with_bound a_clock_row l_clock_row c_clock_row k_clock_row a_own_clock_bounds l_own_clock_bounds c_own_clock_bounds k_own_clock_bounds a_clock_table l_clock_table c_clock_table k_clock_table a_least_later l_least_later c_least_later k_least_later a_surely_before l_surely_before c_surely_before k_surely_before a_surely_at_once l_surely_at_once c_surely_at_once k_surely_at_once a_bound_fits l_bound_fits c_bound_fits k_bound_fits a_least_fits l_least_fits c_least_fits k_least_fits a_signal_fits l_signal_fits c_signal_fits k_signal_fits a_with_signal l_with_signal c_with_signal k_with_signal a_bounds_at l_bounds_at c_bounds_at k_bounds_at a_bounds_fit l_bounds_fit c_bounds_fit k_bounds_fit a_own_bounds l_own_bounds c_own_bounds k_own_bounds a_leads_on l_leads_on c_leads_on k_leads_on a_bound_row l_bound_row c_bound_row k_bound_row a_Event_init i_Event_init l_Event_init c_Event_init k_Event_init a_Signal_init i_Signal_init l_Signal_init c_Signal_init k_Signal_init a_Room_init i_Room_init l_Room_init c_Room_init k_Room_init a_Room_renew i_Room_renew l_Room_renew c_Room_renew k_Room_renew a_Room_note i_Room_note l_Room_note c_Room_note k_Room_note a_Room_has_clock i_Room_has_clock l_Room_has_clock c_Room_has_clock k_Room_has_clock a_Room_has_event i_Room_has_event l_Room_has_event c_Room_has_event k_Room_has_event a_Room_has_both i_Room_has_both l_Room_has_both c_Room_has_both k_Room_has_both a_Belief_init i_Belief_init l_Belief_init c_Belief_init k_Belief_init a_belief_before l_belief_before c_belief_before k_belief_before a_belief_of l_belief_of c_belief_of k_belief_of a_row_by l_row_by c_row_by k_row_by a_begin l_begin c_begin k_begin a_tell_event l_tell_event c_tell_event k_tell_event a_era_reached l_era_reached c_era_reached k_era_reached a_set_clock l_set_clock c_set_clock k_set_clock a_tell_signal l_tell_signal c_tell_signal k_tell_signal a_signal_refusal l_signal_refusal c_signal_refusal k_signal_refusal a_strike l_strike c_strike k_strike a_with_length l_with_length c_with_length k_with_length a_bound_list l_bound_list c_bound_list k_bound_list a_counted l_counted c_counted k_counted a_tell_believed l_tell_believed c_tell_believed k_tell_believed a_tell_between l_tell_between c_tell_between k_tell_between a_tell_order l_tell_order c_tell_order k_tell_order a_tell_reason l_tell_reason c_tell_reason k_tell_reason a_tell_against l_tell_against c_tell_against k_tell_against a_tell_could l_tell_could c_tell_could k_tell_could a_tell_of l_tell_of c_tell_of k_tell_of a_tell_once l_tell_once c_tell_once k_tell_once a_answer_to l_answer_to c_answer_to k_answer_to a_call_length l_call_length c_call_length k_call_length a_answers l_answers c_answers k_answers pg_Event hd_Event po_Event sa_Event mk_Event kc_Event n_Event_clock n_Event_era n_Event_reading n_Event_instant pg_Signal hd_Signal po_Signal sa_Signal mk_Signal kc_Signal n_Signal_first n_Signal_second n_Signal_least n_Signal_most n_Signal_struck pg_Room hd_Room po_Room sa_Room mk_Room kc_Room n_Room_rates n_Room_eras n_Room_begun n_Room_events n_Room_signals pg_Belief hd_Belief po_Belief sa_Belief mk_Belief kc_Belief n_Belief_numbers n_Belief_table g_MILLION g_MOST_CLOCKS g_MOST_RATE g_MOST_READING g_MOST_EVENTS g_MOST_SIGNALS g_MOST_ON_WAY g_BEGINS g_EVENT g_SET g_SIGNAL g_STRIKE g_BELIEVED g_BETWEEN g_ORDER g_REASON g_AGAINST g_COULD g_OF g_WIDTHS w_WIDTHS z_min z_range z_enumerate z_len z_list z_max
  have e := hfa.symm.trans (PySem.W.mg_of X G a_answers)
  cases e
  exact ⟨_, fun s us hu => match us, hu with | [_], _ => .of_eq rfl, fun base _ _ => ok_answers T⟩
end Ck
open PySem PySem.W PyProof.Rows
def Ck.vw : Program := { PySem.Challenge.pw_clocksroom_s01_answers with main := { PySem.Challenge.pw_clocksroom_s01_answers.main with body := [Ck.top 71] } }
def Ck.ls : List Str := (["MILLION", "era_bound", "clock_bound", "bound_sum", "bound_least", "row_by_way", "with_bound", "clock_row", "own_clock_bounds", "clock_table", "least_later", "surely_before", "surely_at_once", "bound_fits", "least_fits", "signal_fits", "with_signal", "bounds_at", "bounds_fit", "own_bounds", "leads_on", "bound_row", "MOST_CLOCKS", "MOST_RATE", "MOST_READING", "MOST_EVENTS", "MOST_SIGNALS", "MOST_ON_WAY", "BEGINS", "EVENT", "SET", "SIGNAL", "STRIKE", "BELIEVED", "BETWEEN", "ORDER", "REASON", "AGAINST", "COULD", "OF", "WIDTHS", "Event", "Signal", "Room", "Belief", "belief_before", "belief_of", "row_by", "begin", "tell_event", "era_reached", "set_clock", "tell_signal", "signal_refusal", "strike", "with_length", "bound_list", "counted", "tell_believed", "tell_between", "tell_order", "tell_reason", "tell_against", "tell_could", "tell_of", "tell_once", "answer_to", "call_length"] : List String).map Str.ofString
theorem Ck.seen_ok (w : World) : (openEnds treeTable PySem.Challenge.pw_clocksroom_s01_answers w 5456).map (fun s => openSeen Ck.vw Ck.ls (importedModules PySem.Challenge.pw_clocksroom_s01_answers.main.body) (fun s => xlAt Ck.vw [] s && recOk [] s) true s) = some (openGood Ck.vw Ck.ls) := by
  unfold openEnds fencedOpening topFrom
  rw [PySem.W.Fast.te14082659384304107361, PySem.W.Fast.te10274390034422433532, PySem.W.Fast.te14364793385576792824, PySem.W.Fast.te1435165496053646825, PySem.W.Fast.te14289696077712309145, PySem.W.Fast.te4187177175401517315]
  kernel_rfl
theorem Ck.left_two {E : Option Shared} {A B : Type} {f : Shared → A} {g : Shared → B} {a : A} {b : B} (h1 : E.map f = some a) (h2 : E.map g = some b) : E.map (fun s => (f s, g s)) = some (a, b) := by
  cases E with
  | none => cases h1
  | some s => rw [Option.some.inj h1.symm, Option.some.inj h2.symm]; rfl
local macro_rules
  | `(tactic| o_headS $H) => `(tactic|
      refine holds_os (q := Ck.vw) (loose := Ck.ls)
        (Xt := fun s => xlAt Ck.vw [] s && recOk [] s)
        (XP := XL Ck.vw []) (Yf := Hook.obs $H)
        (Ya := Hook.val $H) (YP := Hook.says $H)
        (N := 5456) ?hl (Hook.of $H) (Hook.keeps $H)
        (fun s e => xl_of s (Bool.and_eq_true_iff.mp e).1) XL.keeps
        (by rfl) (by rfl) (by rfl)
        (fun s e => recFacts_of (Bool.and_eq_true_iff.mp e).2)
        os_shapes (by first | assumption | decide +kernel)
        (by decide +kernel) ⟨rfl, rfl, rfl, rfl, rfl, by decide +kernel⟩ ?hw ?hc)
set_option maxRecDepth 100000 in
set_option maxHeartbeats 0 in
theorem PySem.Challenge.cw_clocksroom_s01_answers_holds : PySem.Challenge.rw_clocksroom_s01_answers.Holds := by
  w_on; k_headS
  · intro w
    refine Ck.left_two (Ck.seen_ok w) ?_
    unfold openEnds fencedOpening topFrom
    rw [PySem.W.Fast.te14082659384304107361, PySem.W.Fast.te10274390034422433532, PySem.W.Fast.te14364793385576792824, PySem.W.Fast.te1435165496053646825, PySem.W.Fast.te14289696077712309145]
    kernel_rfl
  · exact ⟨[.list [.int 5]], by decide +kernel, by decide +kernel⟩
  k_fillS
  refine L2.walk_specK (r := PySem.Challenge.rw_clocksroom_s01_answers) (k := 10) (CX := L2.CX0) (ps := ["calls"]) (sp := Ck.spAnswers) (by decide +kernel) rfl rfl ⟨rfl, by decide, by decide⟩ (fun w h Y => PySem.W.kIn_of Y) ?F ?S (fun _ _ _ _ z => z)
  case F =>
    intro w mg fa h Y KX G hmg
    refine' Ck.fin_mk KX G hmg ?aC_Event ?aC_Signal ?aC_Room ?aC_Belief ?a_era_bound ?l_era_bound ?c_era_bound ?k_era_bound ?a_clock_bound ?l_clock_bound ?c_clock_bound ?k_clock_bound ?a_bound_sum ?l_bound_sum ?c_bound_sum ?k_bound_sum ?a_bound_least ?l_bound_least ?c_bound_least ?k_bound_least ?a_row_by_way ?l_row_by_way ?c_row_by_way ?k_row_by_way ?a_with_bound ?l_with_bound ?c_with_bound ?k_with_bound ?a_clock_row ?l_clock_row ?c_clock_row ?k_clock_row ?a_own_clock_bounds ?l_own_clock_bounds ?c_own_clock_bounds ?k_own_clock_bounds ?a_clock_table ?l_clock_table ?c_clock_table ?k_clock_table ?a_least_later ?l_least_later ?c_least_later ?k_least_later ?a_surely_before ?l_surely_before ?c_surely_before ?k_surely_before ?a_surely_at_once ?l_surely_at_once ?c_surely_at_once ?k_surely_at_once ?a_bound_fits ?l_bound_fits ?c_bound_fits ?k_bound_fits ?a_least_fits ?l_least_fits ?c_least_fits ?k_least_fits ?a_signal_fits ?l_signal_fits ?c_signal_fits ?k_signal_fits ?a_with_signal ?l_with_signal ?c_with_signal ?k_with_signal ?a_bounds_at ?l_bounds_at ?c_bounds_at ?k_bounds_at ?a_bounds_fit ?l_bounds_fit ?c_bounds_fit ?k_bounds_fit ?a_own_bounds ?l_own_bounds ?c_own_bounds ?k_own_bounds ?a_leads_on ?l_leads_on ?c_leads_on ?k_leads_on ?a_bound_row ?l_bound_row ?c_bound_row ?k_bound_row ?a_Event_init ?i_Event_init ?l_Event_init ?c_Event_init ?k_Event_init ?a_Signal_init ?i_Signal_init ?l_Signal_init ?c_Signal_init ?k_Signal_init ?a_Room_init ?i_Room_init ?l_Room_init ?c_Room_init ?k_Room_init ?a_Room_renew ?i_Room_renew ?l_Room_renew ?c_Room_renew ?k_Room_renew ?a_Room_note ?i_Room_note ?l_Room_note ?c_Room_note ?k_Room_note ?a_Room_has_clock ?i_Room_has_clock ?l_Room_has_clock ?c_Room_has_clock ?k_Room_has_clock ?a_Room_has_event ?i_Room_has_event ?l_Room_has_event ?c_Room_has_event ?k_Room_has_event ?a_Room_has_both ?i_Room_has_both ?l_Room_has_both ?c_Room_has_both ?k_Room_has_both ?a_Belief_init ?i_Belief_init ?l_Belief_init ?c_Belief_init ?k_Belief_init ?a_belief_before ?l_belief_before ?c_belief_before ?k_belief_before ?a_belief_of ?l_belief_of ?c_belief_of ?k_belief_of ?a_row_by ?l_row_by ?c_row_by ?k_row_by ?a_begin ?l_begin ?c_begin ?k_begin ?a_tell_event ?l_tell_event ?c_tell_event ?k_tell_event ?a_era_reached ?l_era_reached ?c_era_reached ?k_era_reached ?a_set_clock ?l_set_clock ?c_set_clock ?k_set_clock ?a_tell_signal ?l_tell_signal ?c_tell_signal ?k_tell_signal ?a_signal_refusal ?l_signal_refusal ?c_signal_refusal ?k_signal_refusal ?a_strike ?l_strike ?c_strike ?k_strike ?a_with_length ?l_with_length ?c_with_length ?k_with_length ?a_bound_list ?l_bound_list ?c_bound_list ?k_bound_list ?a_counted ?l_counted ?c_counted ?k_counted ?a_tell_believed ?l_tell_believed ?c_tell_believed ?k_tell_believed ?a_tell_between ?l_tell_between ?c_tell_between ?k_tell_between ?a_tell_order ?l_tell_order ?c_tell_order ?k_tell_order ?a_tell_reason ?l_tell_reason ?c_tell_reason ?k_tell_reason ?a_tell_against ?l_tell_against ?c_tell_against ?k_tell_against ?a_tell_could ?l_tell_could ?c_tell_could ?k_tell_could ?a_tell_of ?l_tell_of ?c_tell_of ?k_tell_of ?a_tell_once ?l_tell_once ?c_tell_once ?k_tell_once ?a_answer_to ?l_answer_to ?c_answer_to ?k_answer_to ?a_call_length ?l_call_length ?c_call_length ?k_call_length ?a_answers ?l_answers ?c_answers ?k_answers ?pg_Event ?hd_Event ?po_Event ?sa_Event ?mk_Event ?kc_Event ?n_Event_clock ?n_Event_era ?n_Event_reading ?n_Event_instant ?pg_Signal ?hd_Signal ?po_Signal ?sa_Signal ?mk_Signal ?kc_Signal ?n_Signal_first ?n_Signal_second ?n_Signal_least ?n_Signal_most ?n_Signal_struck ?pg_Room ?hd_Room ?po_Room ?sa_Room ?mk_Room ?kc_Room ?n_Room_rates ?n_Room_eras ?n_Room_begun ?n_Room_events ?n_Room_signals ?pg_Belief ?hd_Belief ?po_Belief ?sa_Belief ?mk_Belief ?kc_Belief ?n_Belief_numbers ?n_Belief_table ?g_MILLION ?g_MOST_CLOCKS ?g_MOST_RATE ?g_MOST_READING ?g_MOST_EVENTS ?g_MOST_SIGNALS ?g_MOST_ON_WAY ?g_BEGINS ?g_EVENT ?g_SET ?g_SIGNAL ?g_STRIKE ?g_BELIEVED ?g_BETWEEN ?g_ORDER ?g_REASON ?g_AGAINST ?g_COULD ?g_OF ?g_WIDTHS ?w_WIDTHS ?z_min ?z_range ?z_enumerate ?z_len ?z_list ?z_max
    (case aC_Event => k_is)
    (case aC_Signal => k_is)
    (case aC_Room => k_is)
    (case aC_Belief => k_is)
    (case a_era_bound => k_is)
    (case l_era_bound => k_is)
    (case c_era_bound => k_is)
    (case k_era_bound => k_is)
    (case a_clock_bound => k_is)
    (case l_clock_bound => k_is)
    (case c_clock_bound => k_is)
    (case k_clock_bound => k_is)
    (case a_bound_sum => k_is)
    (case l_bound_sum => k_is)
    (case c_bound_sum => k_is)
    (case k_bound_sum => k_is)
    (case a_bound_least => k_is)
    (case l_bound_least => k_is)
    (case c_bound_least => k_is)
    (case k_bound_least => k_is)
    (case a_row_by_way => k_is)
    (case l_row_by_way => k_is)
    (case c_row_by_way => k_is)
    (case k_row_by_way => k_is)
    (case a_with_bound => k_is)
    (case l_with_bound => k_is)
    (case c_with_bound => k_is)
    (case k_with_bound => k_is)
    (case a_clock_row => k_is)
    (case l_clock_row => k_is)
    (case c_clock_row => k_is)
    (case k_clock_row => k_is)
    (case a_own_clock_bounds => k_is)
    (case l_own_clock_bounds => k_is)
    (case c_own_clock_bounds => k_is)
    (case k_own_clock_bounds => k_is)
    (case a_clock_table => k_is)
    (case l_clock_table => k_is)
    (case c_clock_table => k_is)
    (case k_clock_table => k_is)
    (case a_least_later => k_is)
    (case l_least_later => k_is)
    (case c_least_later => k_is)
    (case k_least_later => k_is)
    (case a_surely_before => k_is)
    (case l_surely_before => k_is)
    (case c_surely_before => k_is)
    (case k_surely_before => k_is)
    (case a_surely_at_once => k_is)
    (case l_surely_at_once => k_is)
    (case c_surely_at_once => k_is)
    (case k_surely_at_once => k_is)
    (case a_bound_fits => k_is)
    (case l_bound_fits => k_is)
    (case c_bound_fits => k_is)
    (case k_bound_fits => k_is)
    (case a_least_fits => k_is)
    (case l_least_fits => k_is)
    (case c_least_fits => k_is)
    (case k_least_fits => k_is)
    (case a_signal_fits => k_is)
    (case l_signal_fits => k_is)
    (case c_signal_fits => k_is)
    (case k_signal_fits => k_is)
    (case a_with_signal => k_is)
    (case l_with_signal => k_is)
    (case c_with_signal => k_is)
    (case k_with_signal => k_is)
    (case a_bounds_at => k_is)
    (case l_bounds_at => k_is)
    (case c_bounds_at => k_is)
    (case k_bounds_at => k_is)
    (case a_bounds_fit => k_is)
    (case l_bounds_fit => k_is)
    (case c_bounds_fit => k_is)
    (case k_bounds_fit => k_is)
    (case a_own_bounds => k_is)
    (case l_own_bounds => k_is)
    (case c_own_bounds => k_is)
    (case k_own_bounds => k_is)
    (case a_leads_on => k_is)
    (case l_leads_on => k_is)
    (case c_leads_on => k_is)
    (case k_leads_on => k_is)
    (case a_bound_row => k_is)
    (case l_bound_row => k_is)
    (case c_bound_row => k_is)
    (case k_bound_row => k_is)
    (case a_Event_init => k_is)
    (case i_Event_init => k_is)
    (case l_Event_init => k_is)
    (case c_Event_init => k_is)
    (case k_Event_init => k_is)
    (case a_Signal_init => k_is)
    (case i_Signal_init => k_is)
    (case l_Signal_init => k_is)
    (case c_Signal_init => k_is)
    (case k_Signal_init => k_is)
    (case a_Room_init => k_is)
    (case i_Room_init => k_is)
    (case l_Room_init => k_is)
    (case c_Room_init => k_is)
    (case k_Room_init => k_is)
    (case a_Room_renew => k_is)
    (case i_Room_renew => k_is)
    (case l_Room_renew => k_is)
    (case c_Room_renew => k_is)
    (case k_Room_renew => k_is)
    (case a_Room_note => k_is)
    (case i_Room_note => k_is)
    (case l_Room_note => k_is)
    (case c_Room_note => k_is)
    (case k_Room_note => k_is)
    (case a_Room_has_clock => k_is)
    (case i_Room_has_clock => k_is)
    (case l_Room_has_clock => k_is)
    (case c_Room_has_clock => k_is)
    (case k_Room_has_clock => k_is)
    (case a_Room_has_event => k_is)
    (case i_Room_has_event => k_is)
    (case l_Room_has_event => k_is)
    (case c_Room_has_event => k_is)
    (case k_Room_has_event => k_is)
    (case a_Room_has_both => k_is)
    (case i_Room_has_both => k_is)
    (case l_Room_has_both => k_is)
    (case c_Room_has_both => k_is)
    (case k_Room_has_both => k_is)
    (case a_Belief_init => k_is)
    (case i_Belief_init => k_is)
    (case l_Belief_init => k_is)
    (case c_Belief_init => k_is)
    (case k_Belief_init => k_is)
    (case a_belief_before => k_is)
    (case l_belief_before => k_is)
    (case c_belief_before => k_is)
    (case k_belief_before => k_is)
    (case a_belief_of => k_is)
    (case l_belief_of => k_is)
    (case c_belief_of => k_is)
    (case k_belief_of => k_is)
    (case a_row_by => k_is)
    (case l_row_by => k_is)
    (case c_row_by => k_is)
    (case k_row_by => k_is)
    (case a_begin => k_is)
    (case l_begin => k_is)
    (case c_begin => k_is)
    (case k_begin => k_is)
    (case a_tell_event => k_is)
    (case l_tell_event => k_is)
    (case c_tell_event => k_is)
    (case k_tell_event => k_is)
    (case a_era_reached => k_is)
    (case l_era_reached => k_is)
    (case c_era_reached => k_is)
    (case k_era_reached => k_is)
    (case a_set_clock => k_is)
    (case l_set_clock => k_is)
    (case c_set_clock => k_is)
    (case k_set_clock => k_is)
    (case a_tell_signal => k_is)
    (case l_tell_signal => k_is)
    (case c_tell_signal => k_is)
    (case k_tell_signal => k_is)
    (case a_signal_refusal => k_is)
    (case l_signal_refusal => k_is)
    (case c_signal_refusal => k_is)
    (case k_signal_refusal => k_is)
    (case a_strike => k_is)
    (case l_strike => k_is)
    (case c_strike => k_is)
    (case k_strike => k_is)
    (case a_with_length => k_is)
    (case l_with_length => k_is)
    (case c_with_length => k_is)
    (case k_with_length => k_is)
    (case a_bound_list => k_is)
    (case l_bound_list => k_is)
    (case c_bound_list => k_is)
    (case k_bound_list => k_is)
    (case a_counted => k_is)
    (case l_counted => k_is)
    (case c_counted => k_is)
    (case k_counted => k_is)
    (case a_tell_believed => k_is)
    (case l_tell_believed => k_is)
    (case c_tell_believed => k_is)
    (case k_tell_believed => k_is)
    (case a_tell_between => k_is)
    (case l_tell_between => k_is)
    (case c_tell_between => k_is)
    (case k_tell_between => k_is)
    (case a_tell_order => k_is)
    (case l_tell_order => k_is)
    (case c_tell_order => k_is)
    (case k_tell_order => k_is)
    (case a_tell_reason => k_is)
    (case l_tell_reason => k_is)
    (case c_tell_reason => k_is)
    (case k_tell_reason => k_is)
    (case a_tell_against => k_is)
    (case l_tell_against => k_is)
    (case c_tell_against => k_is)
    (case k_tell_against => k_is)
    (case a_tell_could => k_is)
    (case l_tell_could => k_is)
    (case c_tell_could => k_is)
    (case k_tell_could => k_is)
    (case a_tell_of => k_is)
    (case l_tell_of => k_is)
    (case c_tell_of => k_is)
    (case k_tell_of => k_is)
    (case a_tell_once => k_is)
    (case l_tell_once => k_is)
    (case c_tell_once => k_is)
    (case k_tell_once => k_is)
    (case a_answer_to => k_is)
    (case l_answer_to => k_is)
    (case c_answer_to => k_is)
    (case k_answer_to => k_is)
    (case a_call_length => k_is)
    (case l_call_length => k_is)
    (case c_call_length => k_is)
    (case k_call_length => k_is)
    (case a_answers => k_is)
    (case l_answers => k_is)
    (case c_answers => k_is)
    (case k_answers => k_is)
    (case pg_Event => k_is)
    (case hd_Event => k_is)
    (case po_Event => k_is)
    (case sa_Event => k_is)
    (case mk_Event => k_is)
    (case kc_Event => k_is)
    (case n_Event_clock => k_is)
    (case n_Event_era => k_is)
    (case n_Event_reading => k_is)
    (case n_Event_instant => k_is)
    (case pg_Signal => k_is)
    (case hd_Signal => k_is)
    (case po_Signal => k_is)
    (case sa_Signal => k_is)
    (case mk_Signal => k_is)
    (case kc_Signal => k_is)
    (case n_Signal_first => k_is)
    (case n_Signal_second => k_is)
    (case n_Signal_least => k_is)
    (case n_Signal_most => k_is)
    (case n_Signal_struck => k_is)
    (case pg_Room => k_is)
    (case hd_Room => k_is)
    (case po_Room => k_is)
    (case sa_Room => k_is)
    (case mk_Room => k_is)
    (case kc_Room => k_is)
    (case n_Room_rates => k_is)
    (case n_Room_eras => k_is)
    (case n_Room_begun => k_is)
    (case n_Room_events => k_is)
    (case n_Room_signals => k_is)
    (case pg_Belief => k_is)
    (case hd_Belief => k_is)
    (case po_Belief => k_is)
    (case sa_Belief => k_is)
    (case mk_Belief => k_is)
    (case kc_Belief => k_is)
    (case n_Belief_numbers => k_is)
    (case n_Belief_table => k_is)
    (case g_MILLION => k_is)
    (case g_MOST_CLOCKS => k_is)
    (case g_MOST_RATE => k_is)
    (case g_MOST_READING => k_is)
    (case g_MOST_EVENTS => k_is)
    (case g_MOST_SIGNALS => k_is)
    (case g_MOST_ON_WAY => k_is)
    (case g_BEGINS => k_is)
    (case g_EVENT => k_is)
    (case g_SET => k_is)
    (case g_SIGNAL => k_is)
    (case g_STRIKE => k_is)
    (case g_BELIEVED => k_is)
    (case g_BETWEEN => k_is)
    (case g_ORDER => k_is)
    (case g_REASON => k_is)
    (case g_AGAINST => k_is)
    (case g_COULD => k_is)
    (case g_OF => k_is)
    (case g_WIDTHS => k_is)
    (case w_WIDTHS => k_is)
    (case z_min => k_is)
    (case z_range => k_is)
    (case z_enumerate => k_is)
    (case z_len => k_is)
    (case z_list => k_is)
    (case z_max => k_is)
  case S =>
    intro K H xs a hO hwi hask hx
    cases hx with
    | cons h1 h2 =>
      cases h2
      cases h1 with
      | lst hs ha =>
        have e := L2.ints_dw a.1 _ ha
        subst e
        exact ⟨_, a.1, rfl, hs, hask, fun H' p hp => .lst (L2.SqL.of hp) (L2.dw_ints _)⟩
