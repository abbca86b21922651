import PyProof.Rows.All
import Wide.All
import OpenK.AllK
import Wide.FinOn
import PyProof.EqAt
import PyProof.EqKinds
import PyProof.TupleCall
import KE.BitLaws
import Open.SpecLaws
import KE.OsHead
import KE.OsGo
import PySem.Challenge.RW_tiedwall_s01_answers
set_option Elab.async false
set_option linter.all false
set_option maxRecDepth 100000

section
set_option Elab.async false
set_option linter.all false
set_option maxRecDepth 100000
namespace L2
open PySem PySem.Spec PyProof.Rows
abbrev Key := Sum Int Str
def keyIs : Key → Value → Bool
  | .inl k, v => Value.isInt k v
  | .inr x, v => Value.isStrOf x v
def keyH (w : World) : Key → Int
  | .inl k => hashInt k
  | .inr x => hashStr w x
theorem keyIs_shape : ∀ {k : Key} {v : Value}, keyIs k v = true → (∃ i t, k = Sum.inl i ∧ v = Value.int i t) ∨ (∃ x t, k = Sum.inr x ∧ v = Value.str x t)
  | .inl i, v, h => by
    obtain ⟨t, e⟩ := Value.isInt_shape (k := i) (v := v) h
    exact .inl ⟨i, t, rfl, e⟩
  | .inr x, v, h => by
    obtain ⟨t, e⟩ := Value.isStrOf_shape (x := x) (v := v) h
    exact .inr ⟨x, t, rfl, e⟩
theorem keyIs_int (i : Int) (t : Tok) : keyIs (.inl i) (.int i t) = true := by simp [keyIs, Value.isInt]
theorem keyIs_str (x : Str) (t : Tok) : keyIs (.inr x) (.str x t) = true := by simp [keyIs, Value.isStrOf]
theorem key_ll (a b : Int) : decide ((Sum.inl a : Key) = Sum.inl b) = (a == b) := by
  by_cases e : a = b
  · subst e; simp
  · have h : ¬ (Sum.inl a : Key) = Sum.inl b := fun q => e (Sum.inl.inj q)
    rw [decide_eq_false h]
    exact (beq_eq_false_iff_ne.mpr e).symm
theorem key_rr (a b : Str) : decide ((Sum.inr a : Key) = Sum.inr b) = decide (a = b) := by
  by_cases e : a = b
  · subst e; simp
  · have h : ¬ (Sum.inr a : Key) = Sum.inr b := fun q => e (Sum.inr.inj q)
    rw [decide_eq_false h, decide_eq_false e]
theorem key_lr (a : Int) (b : Str) : decide ((Sum.inl a : Key) = Sum.inr b) = false := decide_eq_false (fun q => nomatch q)
theorem key_rl (a : Str) (b : Int) : decide ((Sum.inr a : Key) = Sum.inl b) = false := decide_eq_false (fun q => nomatch q)
def mixKind (prog : Program) (w : World) : PySem.KeyKind prog w Key where
  is := keyIs
  hash := keyH w
  inj := fun v a b ha hb => by
    rcases keyIs_shape ha with ⟨i, t, rfl, rfl⟩ | ⟨x, t, rfl, rfl⟩
    · rcases keyIs_shape hb with ⟨j, u, rfl, e⟩ | ⟨y, u, rfl, e⟩
      · injection e with e1 _; rw [e1]
      · exact nomatch e
    · rcases keyIs_shape hb with ⟨j, u, rfl, e⟩ | ⟨y, u, rfl, e⟩
      · exact nomatch e
      · injection e with e1 _; rw [e1]
  byValue := fun k v h => by
    rcases keyIs_shape h with ⟨i, t, rfl, rfl⟩ | ⟨x, t, rfl, rfl⟩ <;> rfl
  pyHash := fun hv h => by
    rcases keyIs_shape hv with ⟨i, t, rfl, rfl⟩ | ⟨x, t, rfl, rfl⟩
    · exact wpAny_pyHash_int h
    · exact wpAny_pyHash_str h
  eqBool := fun hu hv h => by
    rcases keyIs_shape hu with ⟨i, t, rfl, rfl⟩ | ⟨x, t, rfl, rfl⟩
    · rcases keyIs_shape hv with ⟨j, u, rfl, rfl⟩ | ⟨y, u, rfl, rfl⟩
      · rw [key_ll] at h; exact wpAny_eqBool_int h
      · rw [key_lr] at h; exact SeqAt.EqAt.int_str i t y u _ _ _ _ h
    · rcases keyIs_shape hv with ⟨j, u, rfl, rfl⟩ | ⟨y, u, rfl, rfl⟩
      · rw [key_rl] at h; exact SeqAt.EqAt.str_int x t j u _ _ _ _ h
      · rw [key_rr] at h; exact wpAny_eqBool_str h
  «strs» := fun k x t v h => by
    rcases keyIs_shape h with ⟨i, u, rfl, e⟩ | ⟨y, u, rfl, e⟩
    · exact nomatch e
    · injection e with e1 _
      subst e1
      cases v <;> rfl
theorem mixKind_int (prog : Program) (w : World) (i : Int) (t : Tok) : (mixKind prog w).is (.inl i) (.int i t) = true := keyIs_int i t
theorem mixKind_str (prog : Program) (w : World) (x : Str) (t : Tok) : (mixKind prog w).is (.inr x) (.str x t) = true := keyIs_str x t
end L2
namespace L2
open PySem PySem.Spec PyProof.Rows
inductive V where
  | non | bl (b : Bool) | int (i : Int) | str (x : Str) | byt (b : Array UInt8) | flt (b : UInt64) | ref (a : Addr) | ty (n : String)
  deriving DecidableEq
def RelV : V → Value → Prop
  | .non, u => u = Value.none
  | .bl b, u => u = Value.bool b
  | .int i, u => ∃ t, u = Value.int i t
  | .str x, u => ∃ t, u = Value.str x t
  | .byt b, u => ∃ t, u = Value.bytes b t
  | .flt b, u => ∃ t, u = Value.float b t
  | .ref a, u => u = Value.ref a
  | .ty n, u => u = Value.type n
abbrev Vals : List V → List Value → Prop := Paired RelV
theorem Vals.length {xs : List V} {us : List Value} (r : Vals xs us) : xs.length = us.length := Paired.length r
theorem Vals.get : ∀ {xs : List V} {us : List Value} {i : Nat} {x : V}, Vals xs us → xs[i]? = some x → ∃ u, us[i]? = some u ∧ RelV x u
  | _, _, _, _, .nil, e => by simp at e
  | _, _, 0, _, .cons r _, e => by simp at e; subst e; exact ⟨_, rfl, r⟩
  | _, _, i + 1, x, .cons _ t, e => by
    obtain ⟨u, h1, h2⟩ := Vals.get (i := i) (x := x) t (by simpa using e)
    exact ⟨u, by simpa using h1, h2⟩
theorem Vals.set {x : V} {u : Value} (r : RelV x u) : ∀ {xs : List V} {us : List Value} (i : Nat), Vals xs us → Vals (xs.set i x) (us.set i u)
  | _, _, _, .nil => .nil
  | _, _, 0, .cons _ t => .cons r t
  | _, _, i + 1, .cons q t => .cons q (Vals.set r i t)
theorem Vals.append : ∀ {xs ys : List V} {us ws : List Value}, Vals xs us → Vals ys ws → Vals (xs ++ ys) (us ++ ws)
  | _, _, _, _, .nil, s => s
  | _, _, _, _, .cons r t, s => .cons r (Vals.append t s)
theorem Vals.take : ∀ {xs : List V} {us : List Value} (n : Nat), Vals xs us → Vals (xs.take n) (us.take n)
  | _, _, 0, _ => .nil
  | _, _, _ + 1, .nil => .nil
  | _, _, n + 1, .cons r t => .cons r (Vals.take n t)
theorem Vals.drop : ∀ {xs : List V} {us : List Value} (n : Nat), Vals xs us → Vals (xs.drop n) (us.drop n)
  | _, _, 0, r => r
  | _, _, _ + 1, .nil => .nil
  | _, _, n + 1, .cons _ t => Vals.drop n t
theorem Vals.none_of : ∀ {xs : List V} {us : List Value} {i : Nat}, Vals xs us → xs[i]? = none → us[i]? = none := fun {xs us i} r e => by
  have h1 := r.length
  have h2 : xs.length ≤ i := List.getElem?_eq_none_iff.mp e
  exact List.getElem?_eq_none_iff.mpr (by omega)
def RelO : Option V → Option Value → Prop
  | some v, some u => RelV v u
  | none, none => True
  | _, _ => False
def KV {κ : Type} : List (κ × V) → List (κ × Value) → Prop := Paired fun (p : κ × V) (q : κ × Value) => p.1 = q.1 ∧ RelV p.2 q.2
def kV : Key → V
  | .inl i => .int i
  | .inr x => .str x
inductive HO where
  | lst (xs : List V)
  | tup (xs : List V)
  | dK (kvs : List (Key × V)) | dT (kvs : List (List Key × V))
  | set (S : Int → Bool) (n : Nat)
  | ins (C dx : Addr) (fs : List (Str × V))
  | own (x : Addr)
  | xd (fs : List (Str × V))
  | met (f x : Addr)
  | rng (lo hi : Int)
  | frz (o : Obj) (u : HO)
  | tbl (ps : Array Value)
  | ext (φ : Heap → Prop)
abbrev Hp := Addr → Option HO
def upd (H : Hp) (a : Addr) (o : HO) : Hp := fun b => if b = a then some o else H b
theorem upd_same {H : Hp} {a : Addr} {o : HO} : upd H a o a = some o := by unfold upd; rw [if_pos rfl]
theorem upd_ne {H : Hp} {a b : Addr} {o : HO} (h : b ≠ a) : upd H a o b = H b := by unfold upd; rw [if_neg h]
theorem upd_upd {H : Hp} {a : Addr} {o u : HO} : upd (upd H a o) a u = upd H a u := by
  funext b; unfold upd; split <;> rfl
theorem ne_of {H : Hp} {a b : Addr} {o u : HO} (h : H a = some o) (h' : H b = some u) (d : o ≠ u) : a ≠ b := by
  intro e; subst e; rw [h] at h'; exact d (Option.some.inj h')
theorem ne_of_none {H : Hp} {a b : Addr} {o : HO} (h : H a = some o) (h' : H b = none) : a ≠ b := by
  intro e; subst e; rw [h] at h'; cases h'
section
variable (P : Program) (w : World)
def ObjOk (H : Hp) (h : Heap) (a : Addr) : HO → Prop
  | .lst xs => xs.length ≤ sizeLine ∧ ∃ (its : List Value) (n : Nat), Vals xs its ∧ h.get? a = some { cls := .type "list", data := .seq its.toArray n }
  | .tup xs => xs.length ≤ sizeLine ∧ ∃ its : List Value, Vals xs its ∧ IsTup h a its.toArray
  | .dK kvs => kvs.length ≤ sizeLine ∧ (a == sysModules) = false ∧ ∃ vs, KV kvs vs ∧ h.DictOf (mixKind P w) a vs
  | .dT kvs => kvs.length ≤ sizeLine ∧ (a == sysModules) = false ∧ ∃ xs : List (List Key × Addr × Value),
      Paired (fun (p : List Key × V) (q : List Key × Addr × Value) => p.1 = q.1 ∧ H q.2.1 = some (.tup (p.1.map kV)) ∧ RelV p.2 q.2.2) kvs xs ∧
      ∃ o es ep, h.get? a = some o ∧ o.ExactDict ∧ o.data = .dict es ep ∧ es.toList = xs.map (entryOfKey (tupleKind (mixKind P w))) ∧ (xs.map (·.1)).Nodup
  | .set S n => h.SetOf (intKind P w) a S n
  | .ins C dx fs => H dx = some (.own a) ∧ fs.length ≤ 1000 ∧ dx ≠ a ∧ h.get? a = some (PySem.W.instObj C dx) ∧
      ∃ mA, h.Ns1 dx mA ∧ (∀ f, RelO (fs.lookup f) (mA f)) ∧ PySem.Within mA (fs.map (·.1))
  | .own _ => ∃ o, h.get? a = some o
  | .xd fs => ∃ mA, h.Ns1 a mA ∧ ∀ f, RelO (fs.lookup f) (mA f)
  | .rng lo hi => ∃ t u v, h.get? a = some { cls := .type "range", data := .fields #[.int lo t, .int hi u, .int 1 v] }
  | .frz o u => h.get? a = some o ∧ ObjOk H h a u
  | .tbl ps => h.get? a = some { cls := .none, data := .fields ps }
  | .met f x => h.get? a = some (PySem.W.methodObj (.ref f) (.ref x))
  | .ext φ => φ h ∧ (∃ o, h.get? a = some o) ∧ ∀ h1 h2 : Heap, φ h1 → (∀ o, h1.get? a = some o → h2.get? a = some o) → φ h2
def HOk (H : Hp) (h : Heap) : Prop := ∀ a o, H a = some o → ObjOk P w H h a o
end
section
variable {P : Program} {w : World} {H H' : Hp} {h h' : Heap} {a : Addr} {o : HO}
theorem ObjOk.lt (x : ObjOk P w H h a o) : a < h.objs.size := by
  cases o with
  | lst xs => obtain ⟨_, _, _, _, e⟩ := x; exact Heap.lt_size e
  | tup xs => obtain ⟨_, _, _, p⟩ := x; exact p.lt
  | dK kvs => obtain ⟨_, _, _, _, o, _, _, e, _⟩ := x; exact Heap.lt_size e
  | dT kvs => obtain ⟨_, _, _, _, o, _, _, e, _⟩ := x; exact Heap.lt_size e
  | set S n => obtain ⟨o, _, _, _, e, _⟩ := x; exact Heap.lt_size e
  | ins C dx fs => obtain ⟨_, _, _, e, _⟩ := x; exact Heap.lt_size e
  | own y => obtain ⟨_, e⟩ := x; exact Heap.lt_size e
  | xd fs => obtain ⟨_, ⟨_, _, _, e, _⟩, _⟩ := x; exact Heap.lt_size e
  | rng lo hi => obtain ⟨_, _, _, e⟩ := x; exact Heap.lt_size e
  | frz ob u => obtain ⟨e, _⟩ := x; exact Heap.lt_size e
  | tbl ps => exact Heap.lt_size (show h.get? a = some _ from x)
  | met f y => exact Heap.lt_size (show h.get? a = some _ from x)
  | ext φ => obtain ⟨_, ⟨_, e⟩, _⟩ := x; exact Heap.lt_size e
theorem Paired.mapP {α β : Type} {F G : α → β → Prop} : ∀ {l₁ : List α} {l₂ : List β}, Paired F l₁ l₂ → (∀ a b, F a b → G a b) → Paired G l₁ l₂
  | _, _, .nil, _ => .nil
  | _, _, .cons r t, f => .cons (f _ _ r) (Paired.mapP t f)
theorem ObjOk.stay (x : ObjOk P w H h a o) (k : ∀ b u, (b = a ∨ H b = some (.own a)) → h.get? b = some u → h'.get? b = some u)
    (ho : ∀ b, H b = some (.own a) → H' b = some (.own a)) (ht : ∀ b xs, H b = some (.tup xs) → H' b = some (.tup xs)) : ObjOk P w H' h' a o := by
  induction o with
  | lst xs => obtain ⟨z, its, n, r, e⟩ := x; exact ⟨z, its, n, r, k _ _ (.inl rfl) e⟩
  | tup xs => obtain ⟨z, its, r, ob, e, c⟩ := x; exact ⟨z, its, r, ob, k _ _ (.inl rfl) e, c⟩
  | dK kvs => obtain ⟨z, y, vs, r, ob, es, ep, e, c⟩ := x; exact ⟨z, y, vs, r, ob, es, ep, k _ _ (.inl rfl) e, c⟩
  | dT kvs =>
    obtain ⟨z, y, xs, r, ob, es, ep, e, c⟩ := x
    exact ⟨z, y, xs, Paired.mapP r fun p q z => ⟨z.1, ht _ _ z.2.1, z.2.2⟩, ob, es, ep, k _ _ (.inl rfl) e, c⟩
  | set S n => obtain ⟨ob, es, ep, t, e, c⟩ := x; exact ⟨ob, es, ep, t, k _ _ (.inl rfl) e, c⟩
  | ins C dx fs =>
    obtain ⟨d, z, ne, e, mA, ⟨od, es, ep, e2, c⟩, r⟩ := x
    exact ⟨ho _ d, z, ne, k _ _ (.inl rfl) e, mA, ⟨od, es, ep, k _ _ (.inr d) e2, c⟩, r⟩
  | own y => obtain ⟨ob, e⟩ := x; exact ⟨ob, k _ _ (.inl rfl) e⟩
  | xd fs => obtain ⟨mA, ⟨od, es, ep, e, c⟩, r⟩ := x; exact ⟨mA, ⟨od, es, ep, k _ _ (.inl rfl) e, c⟩, r⟩
  | rng lo hi => obtain ⟨t, u, v, e⟩ := x; exact ⟨t, u, v, k _ _ (.inl rfl) e⟩
  | frz ob u ih => obtain ⟨e, q⟩ := x; exact ⟨k _ _ (.inl rfl) e, ih q⟩
  | tbl ps =>
    have e : h.get? a = some { cls := .none, data := .fields ps } := x
    show h'.get? a = some { cls := .none, data := .fields ps }
    exact k a _ (.inl rfl) e
  | met f y =>
    have e : h.get? a = some (PySem.W.methodObj (.ref f) (.ref y)) := x
    show h'.get? a = some (PySem.W.methodObj (.ref f) (.ref y))
    exact k a _ (.inl rfl) e
  | ext φ => obtain ⟨p, ⟨o, e⟩, st⟩ := x; exact ⟨st _ _ p fun o q => k _ _ (.inl rfl) q, ⟨o, k _ _ (.inl rfl) e⟩, st⟩
theorem HOk.lt (x : HOk P w H h) (e : H a = some o) : a < h.objs.size := (x a o e).lt
theorem HOk.fresh (x : HOk P w H h) (e : h.objs.size ≤ a) : H a = none := by
  cases q : H a with
  | none => rfl
  | some u => exact absurd (Nat.lt_of_lt_of_le (x.lt q) e) (Nat.lt_irrefl _)
theorem HOk.kept (x : HOk P w H h) (k : ∀ b u, h.get? b = some u → h'.get? b = some u) : HOk P w H h' := fun a o e =>
  (x a o e).stay (fun b u _ q => k b u q) (fun _ q => q) fun _ _ q => q
theorem HOk.laid (x : HOk P w H h) (k : ∀ b u, h.get? b = some u → h'.get? b = some u) (hp : h.objs.size ≤ a) (new : ObjOk P w (upd H a o) h' a o) : HOk P w (upd H a o) h' := fun b u e => by
  have hn := x.fresh hp
  by_cases hb : b = a
  · subst hb; rw [upd_same] at e; cases e; exact new
  · rw [upd_ne hb] at e
    exact (x b u e).stay (fun c v _ q => k c v q) (fun c q => by rw [upd_ne (ne_of_none q hn)]; exact q) fun c xs q => by rw [upd_ne (ne_of_none q hn)]; exact q
end
def Rd (H : Hp) (a : Addr) (u : HO) : Prop := H a = some u ∨ ∃ o, H a = some (.frz o u)
theorem Rd.of {H : Hp} {a : Addr} {u : HO} (h : H a = some u) : Rd H a u := .inl h
theorem Rd.ok {P : Program} {w : World} {H : Hp} {h : Heap} {a : Addr} {u : HO} (r : Rd H a u) (x : HOk P w H h) : ObjOk P w H h a u := by
  rcases r with r | ⟨o, r⟩
  · exact x a u r
  · obtain ⟨_, q⟩ := x a _ r
    exact q
def Mut : Option HO → Prop
  | some (.lst _) => True
  | some (.dK _) => True
  | some (.dT _) => True
  | some (.set _ _) => True
  | some (.ins _ _ _) => True
  | some (.ext _) => True
  | _ => False
section
variable {P : Program} {w : World} {H : Hp} {h h' : Heap} {x e : Addr} {o' : HO}
theorem HOk.write (ok : HOk P w H h) (mu : Mut (H x)) (he : e = x ∨ H e = some (.own x)) (k : ∀ b u, b ≠ e → h.get? b = some u → h'.get? b = some u) (heo : ∃ u, h'.get? e = some u)
    (new : ObjOk P w (upd H x o') h' x o') : HOk P w (upd H x o') h' := fun b u q => by
  have nown : ∀ c y, H c = some (.own y) → c ≠ x := fun c y r z => by subst z; rw [r] at mu; exact mu
  have ntup : ∀ c xs, H c = some (.tup xs) → c ≠ x := fun c xs r z => by subst z; rw [r] at mu; exact mu
  by_cases hb : b = x
  · subst hb; rw [upd_same] at q; cases q; exact new
  · rw [upd_ne hb] at q
    by_cases hbe : b = e
    · have q' : H b = some (.own x) := by
        rcases he with z | z
        · exact absurd (hbe.trans z) hb
        · rw [hbe]; exact z
      rw [q] at q'; cases q'
      obtain ⟨v, hv⟩ := heo
      exact ⟨v, by rw [hbe]; exact hv⟩
    · refine (ok b u q).stay (fun c v hc r => k c v ?_ r) (fun c r => by rw [upd_ne (nown c b r)]; exact r) fun c xs r => by rw [upd_ne (ntup c xs r)]; exact r
      rcases hc with rfl | hc
      · exact hbe
      · rintro rfl
        rcases he with z | z
        · exact nown c b hc z
        · rw [hc] at z; cases z; exact hb rfl
end
structure Un (fs ex : List Addr) (H H' : Hp) (h h' : Heap) : Prop where
  keep : ∀ b o, h.get? b = some o → H b = none → b ∉ fs → b ∉ ex → h'.get? b = some o
  slot : ∀ b o, h.get? b = some o → H b = none → b ∈ fs → b ∉ ex → ∃ sl, h'.get? b = some { o with slots := sl }
  free : ∀ b o, h.get? b = some o → H b = none → b ∉ ex → H' b = none
  there : ∀ b o, h.get? b = some o → b ∉ ex → ∃ o', h'.get? b = some o'
  tups : ∀ b xs, H b = some (.tup xs) → H' b = some (.tup xs)
  frzs : ∀ b o u, H b = some (.frz o u) → H' b = some (.frz o u)
  tbls : ∀ b ps, H b = some (.tbl ps) → ∃ more, H' b = some (.tbl (ps ++ more))
section
variable {fs fs' ex ex' : List Addr} {H H1 H2 : Hp} {h h1 h2 h' : Heap} {a x e : Addr} {o : HO}
theorem Un.any (u : Un fs ex H H1 h h1) {b : Addr} {ob : Obj} (q : h.get? b = some ob) (n : H b = none) (hx : b ∉ ex) : ∃ sl, h1.get? b = some { ob with slots := sl } := by
  by_cases hb : b ∈ fs
  · exact u.slot b ob q n hb hx
  · exact ⟨ob.slots, u.keep b ob q n hb hx⟩
theorem Un.trans (a : Un fs ex H H1 h h1) (b : Un fs ex H1 H2 h1 h2) : Un fs ex H H2 h h2 where
  keep := fun c ob q n hc hx => b.keep c ob (a.keep c ob q n hc hx) (a.free c ob q n hx) hc hx
  slot := fun c ob q n hc hx => by
    obtain ⟨sl, e1⟩ := a.slot c ob q n hc hx
    obtain ⟨sl', e2⟩ := b.slot c _ e1 (a.free c ob q n hx) hc hx
    exact ⟨sl', e2⟩
  free := fun c ob q n hx => by
    obtain ⟨o', e1⟩ := a.there c ob q hx
    exact b.free c o' e1 (a.free c ob q n hx) hx
  there := fun c ob q hx => by
    obtain ⟨o', e1⟩ := a.there c ob q hx
    exact b.there c o' e1 hx
  tups := fun c xs q => b.tups c xs (a.tups c xs q)
  frzs := fun c ob xs q => b.frzs c ob xs (a.frzs c ob xs q)
  tbls := fun c ps q => by
    obtain ⟨m1, e1⟩ := a.tbls c ps q
    obtain ⟨m2, e2⟩ := b.tbls c _ e1
    exact ⟨m1 ++ m2, by rw [e2, Array.append_assoc]⟩
theorem Un.kept (k : ∀ b u, h.get? b = some u → h'.get? b = some u) : Un fs ex H H h h' :=
  ⟨fun b ob q _ _ _ => k b ob q, fun b ob q _ _ _ => ⟨ob.slots, k b ob q⟩, fun _ _ _ n _ => n, fun b ob q _ => ⟨ob, k b ob q⟩, fun _ _ q => q, fun _ _ _ q => q, fun _ ps q => ⟨#[], by rw [q]; simp⟩⟩
theorem Un.refl : Un fs ex H H h h := Un.kept fun _ _ q => q
theorem Un.laid (k : ∀ b u, h.get? b = some u → h'.get? b = some u) (hp : h.objs.size ≤ a) (hn : H a = none) : Un fs ex H (upd H a o) h h' where
  keep := fun b u q _ _ _ => k b u q
  slot := fun b u q _ _ _ => ⟨u.slots, k b u q⟩
  free := fun b u q n _ => by rw [upd_ne (Nat.ne_of_lt (Nat.lt_of_lt_of_le (Heap.lt_size q) hp))]; exact n
  there := fun b u q _ => ⟨u, k b u q⟩
  tups := fun b xs q => by rw [upd_ne (ne_of_none q hn)]; exact q
  frzs := fun b u xs q => by rw [upd_ne (ne_of_none q hn)]; exact q
  tbls := fun b ps q => ⟨#[], by rw [upd_ne (ne_of_none q hn), q]; simp⟩
theorem Un.write (mu : Mut (H x)) (he : e = x ∨ H e = some (.own x)) (k : ∀ b u, b ≠ e → h.get? b = some u → h'.get? b = some u) (heo : ∃ u, h'.get? e = some u) : Un fs ex H (upd H x o) h h' := by
  have hx : ∀ b, H b = none → b ≠ x := fun b n z => by subst z; rw [n] at mu; exact mu
  have hb : ∀ b, H b = none → b ≠ e := fun b n z => by
    subst z
    rcases he with r | r
    · exact hx b n r
    · rw [n] at r; cases r
  have hm : ∀ b u, H b = some u → ¬ Mut (some u) → b ≠ x := fun b u q nm z => by subst z; rw [q] at mu; exact nm mu
  refine ⟨fun b u q n _ _ => k b u (hb b n) q, fun b u q n _ _ => ⟨u.slots, k b u (hb b n) q⟩, fun b u q n _ => by rw [upd_ne (hx b n)]; exact n, fun b u q _ => ?_,
    fun b xs q => by rw [upd_ne (hm b _ q fun z => z)]; exact q, fun b u xs q => by rw [upd_ne (hm b _ q fun z => z)]; exact q, fun b ps q => ⟨#[], by rw [upd_ne (hm b _ q fun z => z), q]; simp⟩⟩
  by_cases hbe : b = e
  · subst hbe; exact heo
  · exact ⟨u, k b u hbe q⟩
theorem Un.mono (u : Un fs ex H H1 h h1) (hs : ∀ b ∈ fs, b ∈ fs') (hx : ∀ b ∈ ex, b ∈ ex') : Un fs' ex' H H1 h h1 :=
  ⟨fun b ob q n hb he => u.keep b ob q n (fun z => hb (hs b z)) fun z => he (hx b z), fun _ _ q n _ he => u.any q n fun z => he (hx _ z), fun b ob q n he => u.free b ob q n fun z => he (hx b z), fun b ob q he => u.there b ob q fun z => he (hx b z), u.tups, u.frzs, u.tbls⟩
end
def trk (h : Heap) (H : Hp) : List Addr := (List.range h.objs.size).filter fun a => (H a).isSome
def hidT (h : Heap) (H : Hp) : Heap := PySem.W.hideAll h (trk h H)
theorem hidT_size (h : Heap) (H : Hp) : (hidT h H).objs.size = h.objs.size := PySem.W.hideAll_size _ _
theorem hidT_get {h : Heap} {H : Hp} {b : Addr} {o : Obj} (e : h.get? b = some o) (n : H b = none) : (hidT h H).get? b = some o :=
  PySem.W.hideAll_get _ e fun hm => by
    have q : (H b).isSome = true := (List.mem_filter.mp hm).2
    rw [n] at q; simp at q
theorem of_hidT {h : Heap} {H : Hp} {b : Addr} {o : Obj} (e : (hidT h H).get? b = some o) : h.get? b = some o ∧ H b = none := by
  have e' : h.get? b = some o := PySem.W.of_hideAll (trk h H) e
  refine ⟨e', ?_⟩
  cases q : H b with
  | none => rfl
  | some x =>
    have hm : b ∈ trk h H := List.mem_filter.mpr ⟨List.mem_range.mpr (Heap.lt_size e'), by simp [q]⟩
    have z : (hidT h H).get? b = none := PySem.W.hideAll_none (trk h H) hm
    rw [z] at e; cases e
def allNews (g h : Heap) (L : Addr) : List (Addr × Obj) := (List.range h.objs.size).filterMap fun a => if a = L ∨ (g.get? a).isSome = true then none else (h.get? a).map fun o => (a, o)
def rest (g h : Heap) (L d : Addr) : List (Addr × Obj) := (allNews g h L).filter fun p => decide (p.1 ≠ d)
end L2
namespace L2
open PySem PySem.Spec PyProof.Rows
structure Mod (K : PySem.W.Frag) (mg : Str → Option Value) (base : Heap) : Prop where
  kin : K.In base
  glob : base.Ns mainGlobals mg
  blt : ∃ mb, base.Ns builtinsNs mb ∧ ∀ x : Str, x ≠ "__name__" → mb x = bootBuiltins x
  nolimit : base.NoLimit
structure Cx where
  prog : Program
  w : World
  K : PySem.W.Frag
  mg : Str → Option Value
  base : Heap
  A : Around
  N : List Str
  s_0 : Shared
  H_0 : Hp
  env : Env
  outer : List Env
  stack : List Env
  ex : List Addr
  fn : Str → Bool
  calm : Bool
  pn : List (Addr × Obj)
  xe : Value → Shared → Prop
def frs (l : List Env) : List Addr := l.filterMap (·.frame)
abbrev Cx.fs (X : Cx) : List Addr := frs X.outer
def Vis (sc : Scope) (x : Str) : Prop := sc.names.lookup x = some .local ∨ sc.names.lookup x = some .cell ∨ sc.names.lookup x = some .free
def Loc (sc : Scope) (x : Str) : Prop := sc.names.lookup x = some .local ∨ sc.names.lookup x = some .cell
def Look (env : Env) (h : Heap) (m : Str → Option Value) (x : Str) (u : Value) : Prop :=
  (env.kindOf x = some .local ∧ m x = some u) ∨ ((env.kindOf x = some .cell ∨ env.kindOf x = some .free) ∧ ∃ c, env.cells.lookup x = some c ∧ h.IsCell c (some u))
structure Cx.Ok (X : Cx) : Prop where
  mod : Mod X.K X.mg X.base
  kind : X.env.scope.kind = .function
  glob : X.env.globals = mainGlobals
  blt : X.env.builtins = builtinsNs
  above : X.s_0.heap.objs.size ≤ X.env.locals
  inj : ∀ x y c, X.env.cells.lookup x = some c → X.env.cells.lookup y = some c → x = y
  has : ∀ x, (X.env.kindOf x = some .cell ∨ X.env.kindOf x = some .free) → ∃ c, X.env.cells.lookup x = some c
  cab : ∀ x c, X.fn x = true → X.env.cells.lookup x = some c → X.s_0.heap.objs.size ≤ c
  hd : X.calm = true → X.A.handled = none
  frames : X.A.frames = some X.stack
  stk : X.stack = X.outer ∨ (X.stack = X.env :: X.outer ∧ X.env.frame = some X.env.locals)
  exf : ∀ b ∈ X.ex, b ≠ X.env.locals ∧ ∀ x c, X.env.cells.lookup x = some c → c ≠ b
  bs : ∀ b o, X.base.get? b = some o → X.s_0.heap.get? b = some o ∧ X.H_0 b = none
  bsz : X.base.objs.size ≤ X.s_0.heap.objs.size
  noex : ∀ b o, X.base.get? b = some o → b ∉ X.ex
  exfs : ∀ b ∈ X.ex, b ∉ X.fs
  funs : X.s_0.heap.FunFrames X.base X.outer
  frf : ∀ b ∈ X.fs, X.H_0 b = none
structure Inv (X : Cx) (pins : List (Addr × Obj)) (σ : List (Option V)) (H : Hp) (s : Shared) : Prop where
  ok : X.Ok
  os : s.os = X.s_0.os
  bare : AllBare s.gens
  base : Un X.fs X.ex X.H_0 H X.s_0.heap s.heap
  loc : ∃ m, s.heap.Ns X.env.locals m ∧ ∀ (i : Nat) (x : Str) (v : V), X.N[i]? = some x → σ[i]? = some (some v) → Vis X.env.scope x → ∃ u, RelV v u ∧ Look X.env s.heap m x u
  cell : ∀ x c, X.env.cells.lookup x = some c → ∃ v, s.heap.IsCell c v
  free : H X.env.locals = none
  freeC : ∀ x c, X.env.cells.lookup x = some c → H c = none
  pin : ∀ p ∈ X.pn ++ pins, s.heap.get? p.1 = some p.2 ∧ H p.1 = none ∧ p.1 ≠ X.env.locals ∧ p.1 ∉ X.fs ∧ ∀ v, p.2.data ≠ .cell v
  hok : HOk X.prog X.w H s.heap
  len : σ.length = X.N.length
section
variable {X : Cx} {pins : List (Addr × Obj)} {σ : List (Option V)} {H H' : Hp} {s : Shared} {h' : Heap}
theorem Cx.Ok.nofr (ok : X.Ok) {b : Addr} {o : Obj} (e : X.base.get? b = some o) : b ∉ X.fs := fun hb => by
  have := (ok.funs.mem hb).1
  rw [e] at this; cases this
theorem Inv.bs (I : Inv X pins σ H s) : ∀ b o, X.base.get? b = some o → s.heap.get? b = some o ∧ H b = none := fun b o e =>
  ⟨I.base.keep b o (I.ok.bs b o e).1 (I.ok.bs b o e).2 (I.ok.nofr e) (I.ok.noex b o e), I.base.free b o (I.ok.bs b o e).1 (I.ok.bs b o e).2 (I.ok.noex b o e)⟩
theorem Inv.bk (I : Inv X pins σ H s) : ∀ b o, X.base.get? b = some o → s.heap.get? b = some o := fun b o e => (I.bs b o e).1
theorem Inv.mod (I : Inv X pins σ H s) : Mod X.K X.mg X.base := I.ok.mod
theorem Inv.kIn (I : Inv X pins σ H s) : X.K.In s.heap := I.ok.mod.kin.keeps I.bk
theorem Inv.nolimit (I : Inv X pins σ H s) : s.heap.NoLimit := I.ok.mod.nolimit.keeps I.bk
theorem Inv.lt (I : Inv X pins σ H s) : X.env.locals < s.heap.objs.size := let ⟨_, hn, _⟩ := I.loc; hn.lt
theorem Inv.sz (I : Inv X pins σ H s) : X.s_0.heap.objs.size ≤ s.heap.objs.size := Nat.le_trans I.ok.above (Nat.le_of_lt I.lt)
theorem Inv.nofs (I : Inv X pins σ H s) {a : Addr} (h : s.heap.objs.size ≤ a) : a ∉ X.fs := fun hb => by
  obtain ⟨_, o, ho, _⟩ := I.ok.funs.mem hb
  exact absurd (Nat.lt_of_lt_of_le (Heap.lt_size ho) (Nat.le_trans I.sz h)) (Nat.lt_irrefl _)
theorem Inv.cne (I : Inv X pins σ H s) : ∀ x c, X.env.cells.lookup x = some c → c ≠ X.env.locals := fun x c e z => by
  obtain ⟨v, o, ho, hd⟩ := I.cell x c e
  obtain ⟨m, ⟨o', es, ep, ho', hd', _⟩, _⟩ := I.loc
  rw [z, ho'] at ho; cases ho; rw [hd'] at hd; cases hd
theorem Inv.funs (I : Inv X pins σ H s) : s.heap.FunFrames X.base X.outer := by
  have all : ∀ (l : List Env), (∀ b ∈ frs l, b ∈ X.fs) → X.s_0.heap.FunFrames X.base l → s.heap.FunFrames X.base l := by
    intro l
    induction l with
    | nil => intro _ _; trivial
    | cons env r ih =>
      intro hs hl
      obtain ⟨hk, ⟨L, o, hf, hn, ho, hd⟩, hr⟩ := hl
      have hL : L ∈ X.fs := hs L (by unfold frs; rw [List.filterMap_cons, hf]; exact List.mem_cons_self)
      obtain ⟨sl, e⟩ := I.base.slot L o ho (I.ok.frf L hL) hL fun z => I.ok.exfs L z hL
      exact ⟨hk, ⟨L, _, hf, hn, e, hd⟩, ih (fun b hb => hs b (by unfold frs; rw [List.filterMap_cons, hf]; exact List.mem_cons_of_mem _ hb)) hr⟩
  exact all X.outer (fun _ hb => hb) I.ok.funs
theorem Inv.stack (I : Inv X pins σ H s) : s.heap.FunFrames X.base X.stack := by
  rcases I.ok.stk with e | ⟨e, hf⟩
  · rw [e]; exact I.funs
  · rw [e]
    obtain ⟨m, hn, _⟩ := I.loc
    refine .cons (by rw [I.ok.kind]; decide) hf hn ?_ I.funs
    exact Heap.get?_none_of_le (Nat.le_trans I.ok.bsz I.ok.above)
theorem Inv.stkSub (I : Inv X pins σ H s) : ∀ b ∈ frs X.stack, b ∈ X.env.locals :: X.fs := fun b hb => by
  rcases I.ok.stk with e | ⟨e, hf⟩
  · rw [e] at hb; exact List.mem_cons_of_mem _ hb
  · rw [e] at hb
    unfold frs at hb
    rw [List.filterMap_cons, hf] at hb
    exact hb
theorem Inv.stkFree (I : Inv X pins σ H s) : ∀ b ∈ frs X.stack, H b = none := fun b hb => by
  rcases List.mem_cons.mp (I.stkSub b hb) with e | hb
  · rw [e]; exact I.free
  · obtain ⟨_, o, ho, _⟩ := I.ok.funs.mem hb
    exact I.base.free b o ho (I.ok.frf b hb) fun z => I.ok.exfs b z hb
theorem Inv.step {g' : Array GenState} {t' : Nat} {d' : Drawn} {ch : List Addr} (I : Inv X pins σ H s)
    (hch : ∀ b ∈ ch, (b ∈ X.ex ∨ X.s_0.heap.objs.size ≤ b) ∧ b ≠ X.env.locals ∧ (∀ x c, X.env.cells.lookup x = some c → c ≠ b) ∧ ∀ p ∈ X.pn ++ pins, p.1 ≠ b)
    (keep : ∀ b o, b ≠ X.env.locals → b ∉ X.fs → b ∉ ch → s.heap.get? b = some o → H b = none → h'.get? b = some o)
    (slot : ∀ b o, b ≠ X.env.locals → b ∈ X.fs → b ∉ ch → s.heap.get? b = some o → H b = none → ∃ sl, h'.get? b = some { o with slots := sl }) (free : ∀ b o, b ∉ ch → s.heap.get? b = some o → H b = none → H' b = none)
    (there : ∀ b o, b ∉ ch → s.heap.get? b = some o → ∃ o', h'.get? b = some o')
    (tups : ∀ b xs, H b = some (.tup xs) → H' b = some (.tup xs)) (frzs : ∀ b o u, H b = some (.frz o u) → H' b = some (.frz o u)) (tbls : ∀ b ps, H b = some (.tbl ps) → ∃ more, H' b = some (.tbl (ps ++ more)))
    (ns : ∀ m, s.heap.Ns X.env.locals m → h'.Ns X.env.locals m) (hok : HOk X.prog X.w H' h') (hg : AllBare g') :
    Inv X pins σ H' { s with heap := h', gens := g', drawn := d', toks := t' } := by
  have neL : ∀ b o, X.s_0.heap.get? b = some o → b ≠ X.env.locals := fun b o e => Nat.ne_of_lt (Nat.lt_of_lt_of_le (Heap.lt_size e) I.ok.above)
  have neC : ∀ b o, X.s_0.heap.get? b = some o → b ∉ X.ex → b ∉ ch := fun b o e hx hb => by
    rcases (hch b hb).1 with z | z
    · exact hx z
    · exact absurd (Nat.lt_of_lt_of_le (Heap.lt_size e) z) (Nat.lt_irrefl _)
  have cellK : ∀ x c, X.env.cells.lookup x = some c → ∀ v, s.heap.IsCell c v → h'.IsCell c v := fun x c e v ⟨o, ho, hd⟩ => by
    have nch : c ∉ ch := fun z => (hch c z).2.2.1 x c e rfl
    by_cases hc : c ∈ X.fs
    · obtain ⟨sl, q⟩ := slot c o (I.cne x c e) hc nch ho (I.freeC x c e)
      exact ⟨_, q, hd⟩
    · exact ⟨o, keep c o (I.cne x c e) hc nch ho (I.freeC x c e), hd⟩
  refine ⟨I.ok, I.os, hg, ⟨fun b o e n hb hx => ?_, fun b o e n hb hx => ?_, fun b o e n hx => ?_, fun b o e hx => ?_, fun b xs e => tups b xs (I.base.tups b xs e), fun b o xs e => frzs b o xs (I.base.frzs b o xs e), fun b ps e => ?_⟩, ?_, fun x c e => ?_, ?_, fun x c e => ?_, fun p hp => ?_, hok, I.len⟩
  · exact keep b o (neL b o e) hb (neC b o e hx) (I.base.keep b o e n hb hx) (I.base.free b o e n hx)
  · obtain ⟨sl, e1⟩ := I.base.slot b o e n hb hx
    obtain ⟨sl', e2⟩ := slot b _ (neL b o e) hb (neC b o e hx) e1 (I.base.free b o e n hx)
    exact ⟨sl', e2⟩
  · obtain ⟨o', e1⟩ := I.base.there b o e hx
    exact free b o' (neC b o e hx) e1 (I.base.free b o e n hx)
  · obtain ⟨o', e1⟩ := I.base.there b o e hx
    exact there b o' (neC b o e hx) e1
  · obtain ⟨m1, e1⟩ := I.base.tbls b ps e
    obtain ⟨m2, e2⟩ := tbls b _ e1
    exact ⟨m1 ++ m2, by rw [e2, Array.append_assoc]⟩
  · obtain ⟨m, hn, hl⟩ := I.loc
    refine ⟨m, ns m hn, fun i x v e1 e2 e3 => ?_⟩
    obtain ⟨u, r, l⟩ := hl i x v e1 e2 e3
    refine ⟨u, r, ?_⟩
    rcases l with l | ⟨k, c, e, z⟩
    · exact .inl l
    · exact .inr ⟨k, c, e, cellK x c e _ z⟩
  · obtain ⟨v, z⟩ := I.cell x c e
    exact ⟨v, cellK x c e v z⟩
  · obtain ⟨m, ⟨o, _, _, ho, _⟩, _⟩ := I.loc
    exact free _ o (fun z => (hch _ z).2.1 rfl) ho I.free
  · obtain ⟨v, o, ho, hd⟩ := I.cell x c e
    exact free c o (fun z => (hch c z).2.2.1 x c e rfl) ho (I.freeC x c e)
  · obtain ⟨e, n, ne, nf, d⟩ := I.pin p hp
    have nch : p.1 ∉ ch := fun z => (hch p.1 z).2.2.2 p hp rfl
    exact ⟨keep p.1 p.2 ne nf nch e n, free p.1 p.2 nch e n, ne, nf, d⟩
theorem Inv.un {t' : Nat} (I : Inv X pins σ H s) (u : Un X.fs [] H H' s.heap h') (hok : HOk X.prog X.w H' h') : Inv X pins σ H' { s with heap := h', toks := t' } := by
  obtain ⟨m, ⟨o, es, ep, ho, r⟩, _⟩ := id I.loc
  obtain ⟨sl, hL⟩ := u.any ho I.free (by simp)
  exact I.step (g' := s.gens) (d' := s.drawn) (ch := []) (fun _ z => nomatch z) (fun b o _ hb _ e n => u.keep b o e n hb (by simp)) (fun b o _ hb _ e n => u.slot b o e n hb (by simp)) (fun b o _ e n => u.free b o e n (by simp)) (fun b o _ e => u.there b o e (by simp)) u.tups u.frzs u.tbls (fun m' hm => by
    obtain ⟨o', es', ep', ho', r'⟩ := hm
    rw [ho] at ho'; cases ho'
    exact ⟨_, es', ep', hL, r'⟩) hok I.bare
theorem Inv.call {g' : Array GenState} {t' : Nat} {d' : Drawn} {ch : List Addr} (I : Inv X pins σ H s) (u : Un (frs X.stack) ch H H' s.heap h') (hok : HOk X.prog X.w H' h') (hg : AllBare g')
    (hch : ∀ b ∈ ch, (b ∈ X.ex ∨ X.s_0.heap.objs.size ≤ b) ∧ b ≠ X.env.locals ∧ (∀ x c, X.env.cells.lookup x = some c → c ≠ b) ∧ ∀ p ∈ X.pn ++ pins, p.1 ≠ b) :
    Inv X pins σ H' { s with heap := h', gens := g', drawn := d', toks := t' } := by
  obtain ⟨m, ⟨o, es, ep, ho, r⟩, _⟩ := id I.loc
  obtain ⟨sl, hL⟩ := u.any ho I.free fun z => (hch _ z).2.1 rfl
  exact I.step (ch := ch) hch (fun b o hL hb hc e n => u.keep b o e n (fun z => (List.mem_cons.mp (I.stkSub b z)).elim hL hb) hc) (fun b o _ _ hc e n => u.any e n hc) (fun b o hc e n => u.free b o e n hc) (fun b o hc e => u.there b o e hc) u.tups u.frzs u.tbls (fun m' hm => by
    obtain ⟨o', es', ep', ho', r'⟩ := hm
    rw [ho] at ho'; cases ho'
    exact ⟨_, es', ep', hL, r'⟩) hok hg
theorem Inv.turned {t' : Nat} {it : Addr} (I : Inv X pins σ H s) (k : ∀ b o, b ≠ it → s.heap.get? b = some o → h'.get? b = some o) (hn : H it = none) (hL : it ≠ X.env.locals)
    (h1 : it ∈ X.ex ∨ X.s_0.heap.objs.size ≤ it) (h2 : ∀ x c, X.env.cells.lookup x = some c → c ≠ it) (h3 : ∀ p ∈ X.pn ++ pins, p.1 ≠ it) : Inv X pins σ H { s with heap := h', toks := t' } := by
  have nit : ∀ b u, H b = some u → b ≠ it := fun b u e z => by rw [z, hn] at e; cases e
  refine I.step (g' := s.gens) (d' := s.drawn) (ch := [it]) (fun b hb => ?_) (fun b o _ _ hc e _ => k b o (fun z => hc (by simp [z])) e) (fun b o _ _ hc e _ => ⟨o.slots, k b o (fun z => hc (by simp [z])) e⟩) (fun _ _ _ _ n => n)
    (fun b o hc e => ⟨o, k b o (fun z => hc (by simp [z])) e⟩) (fun _ _ e => e) (fun _ _ _ e => e) (fun b ps e => ⟨#[], by rw [e]; simp⟩) (fun m hm => ?_) (fun b u e => ?_) I.bare
  · have e : b = it := by simpa using hb
    subst e
    exact ⟨h1, hL, h2, h3⟩
  · obtain ⟨o, es, ep, ho, r⟩ := hm
    exact ⟨o, es, ep, k _ o (Ne.symm hL) ho, r⟩
  · refine (I.hok b u e).stay (fun c v hc q => k c v ?_ q) (fun _ q => q) fun _ _ q => q
    rcases hc with z | z
    · rw [z]; exact nit b u e
    · exact nit c _ z
theorem Inv.tok (I : Inv X pins σ H s) (t : Nat) : Inv X pins σ H { s with toks := t } := I.un (h' := s.heap) (t' := t) Un.refl I.hok
theorem Inv.kept {t' : Nat} (I : Inv X pins σ H s) (k : ∀ b u, s.heap.get? b = some u → h'.get? b = some u) : Inv X pins σ H { s with heap := h', toks := t' } := I.un (Un.kept k) (I.hok.kept k)
theorem Inv.laid {a : Addr} {o : HO} {t' : Nat} (I : Inv X pins σ H s) (k : ∀ b u, s.heap.get? b = some u → h'.get? b = some u) (hp : s.heap.objs.size ≤ a) (new : ObjOk X.prog X.w (upd H a o) h' a o) :
    Inv X pins σ (upd H a o) { s with heap := h', toks := t' } := I.un (Un.laid k hp (I.hok.fresh hp)) (I.hok.laid k hp new)
theorem Inv.write {x e : Addr} {o : HO} {t' : Nat} (I : Inv X pins σ H s) (mu : Mut (H x)) (he : e = x ∨ H e = some (.own x)) (k : ∀ b u, b ≠ e → s.heap.get? b = some u → h'.get? b = some u) (heo : ∃ u, h'.get? e = some u)
    (new : ObjOk X.prog X.w (upd H x o) h' x o) : Inv X pins σ (upd H x o) { s with heap := h', toks := t' } := I.un (Un.write mu he k heo) (I.hok.write mu he k heo new)
theorem Inv.weak {σ' : List (Option V)} (I : Inv X pins σ H s) (hl : σ'.length = σ.length) (w : ∀ (i : Nat) v, σ'[i]? = some (some v) → σ[i]? = some (some v)) : Inv X pins σ' H s :=
  ⟨I.ok, I.os, I.bare, I.base, let ⟨m, hn, hl'⟩ := I.loc; ⟨m, hn, fun i x v e1 e2 e3 => hl' i x v e1 (w i v e2) e3⟩, I.cell, I.free, I.freeC, I.pin, I.hok, hl.trans I.len⟩
theorem Inv.pins_of {pins' : List (Addr × Obj)} (I : Inv X pins σ H s) (h : ∀ p ∈ pins', s.heap.get? p.1 = some p.2 ∧ H p.1 = none ∧ p.1 ≠ X.env.locals ∧ p.1 ∉ X.fs ∧ ∀ v, p.2.data ≠ .cell v) : Inv X pins' σ H s :=
  ⟨I.ok, I.os, I.bare, I.base, I.loc, I.cell, I.free, I.freeC, fun p hp => (List.mem_append.mp hp).elim (fun z => I.pin p (List.mem_append_left _ z)) (h p), I.hok, I.len⟩
theorem nodup_ix {N : List Str} (hN : N.Nodup) {i j : Nat} {x : Str} (a : N[i]? = some x) (b : N[j]? = some x) : i = j := by
  obtain ⟨h1, e1⟩ := List.getElem?_eq_some_iff.mp a
  obtain ⟨h2, e2⟩ := List.getElem?_eq_some_iff.mp b
  exact (List.getElem_inj hN).mp (e1.trans e2.symm)
theorem store_ok2 {M : Model} {A : Around} {E : Value → Shared → Prop} {i : Nat} {x : Str} {v : V} {u : Value} {Q : Unit → Shared → Prop} (I : Inv X pins σ H s) (hN : X.N.Nodup) (hi : X.N[i]? = some x) (hx : Loc X.env.scope x) (r : RelV v u)
    (h : ∀ s', Inv X pins (σ.set i (some v)) H s' → (∃ a, Heap.SameBut a s.heap s'.heap ∧ (a = X.env.locals ∨ X.env.cells.lookup x = some a)) → Q () s') (hf : X.fn x = true ∨ X.env.scope.names.lookup x = some .local := by first | exact .inl rfl | exact .inr rfl | assumption) : wpAny M A (storeName X.env x u) Q E s := by
  obtain ⟨m, hn, hl⟩ := id I.loc
  have hcls : (X.env.scope.kind == .class || (X.env.scope.kind == .module && X.env.locals != X.env.globals)) = false := by rw [I.ok.kind]; rfl
  have hiσ : i < σ.length := by rw [I.len]; exact (List.getElem?_eq_some_iff.mp hi).1
  have cne := I.cne
  have tracked : ∀ {a : Addr} {h' : Heap}, (∃ o, s.heap.get? a = some o ∧ H a = none) → Heap.SameBut a s.heap h' → HOk X.prog X.w H h' := fun {a h'} ha hs b ob e => by
    obtain ⟨_, _, hfree⟩ := ha
    refine (I.hok b ob e).stay (fun c w' hc q => (hs.2 c ?_).trans q) (fun _ q => q) fun _ _ q => q
    rintro rfl
    rcases hc with rfl | hc
    · rw [hfree] at e; cases e
    · rw [hfree] at hc; cases hc
  rcases hx with hk | hk
  · refine wpAny_storeName_local hk hn (fun h' hn' hs => ?_) hcls
    obtain ⟨oL, _, _, hoL, _⟩ := id hn
    refine h _ ⟨I.ok, I.os, I.bare, ⟨fun b o e n hb hx => ?_, fun b o e n hb hx => ?_, I.base.free, fun b o e hx => ?_, I.base.tups, I.base.frzs, I.base.tbls⟩, ⟨_, hn', fun j y v' e1 e2 e3 => ?_⟩, fun y c e => ?_, I.free, I.freeC, fun p hp => ?_, tracked ⟨oL, hoL, I.free⟩ hs, by simpa using I.len⟩ ⟨_, hs, .inl rfl⟩
    · exact (hs.2 b (Nat.ne_of_lt (Nat.lt_of_lt_of_le (Heap.lt_size e) I.ok.above))).trans (I.base.keep b o e n hb hx)
    · obtain ⟨sl, e1⟩ := I.base.slot b o e n hb hx
      exact ⟨sl, (hs.2 b (Nat.ne_of_lt (Nat.lt_of_lt_of_le (Heap.lt_size e) I.ok.above))).trans e1⟩
    · obtain ⟨o', e1⟩ := I.base.there b o e hx
      exact ⟨o', (hs.2 b (Nat.ne_of_lt (Nat.lt_of_lt_of_le (Heap.lt_size e) I.ok.above))).trans e1⟩
    · by_cases hj : j = i
      · subst hj
        rw [hi] at e1; cases e1
        rw [List.getElem?_set_self hiσ] at e2
        cases e2
        exact ⟨u, r, .inl ⟨hk, by simp⟩⟩
      · rw [List.getElem?_set_ne (Ne.symm hj)] at e2
        obtain ⟨u', r', q⟩ := hl j y v' e1 e2 e3
        refine ⟨u', r', ?_⟩
        rcases q with ⟨k, e⟩ | ⟨k, c, e, z⟩
        · refine .inl ⟨k, ?_⟩
          have : y ≠ x := fun e => hj (nodup_ix hN e1 (e ▸ hi))
          simp [this, e]
        · exact .inr ⟨k, c, e, z.sameBut hs (cne y c e)⟩
    · obtain ⟨w', z⟩ := I.cell y c e
      exact ⟨w', z.sameBut hs (cne y c e)⟩
    · obtain ⟨e, n, ne, nf, d⟩ := I.pin p hp
      exact ⟨(hs.2 p.1 ne).trans e, n, ne, nf, d⟩
  · have hfn : X.fn x = true := by
      rcases hf with z | z
      · exact z
      · rw [z] at hk; cases hk
    obtain ⟨c, hc⟩ := I.ok.has x (.inl hk)
    obtain ⟨w', z⟩ := I.cell x c hc
    refine wpAny_storeName_cell I.ok.kind hk hc z (fun h' hc' hs => ?_)
    obtain ⟨oc, hoc, hocd⟩ := id z
    refine h { s with heap := h' } ⟨I.ok, I.os, I.bare, ⟨fun b o e n hb hx => ?_, fun b o e n hb hx => ?_, I.base.free, fun b o e hx => ?_, I.base.tups, I.base.frzs, I.base.tbls⟩, ⟨m, hn.sameBut hs (Ne.symm (cne x c hc)), fun j y v' e1 e2 e3 => ?_⟩, fun y c' e => ?_, I.free, I.freeC, fun p hp => ?_, tracked ⟨oc, hoc, I.freeC x c hc⟩ hs, by simpa using I.len⟩ ⟨c, hs, .inr hc⟩
    · exact (hs.2 b (Nat.ne_of_lt (Nat.lt_of_lt_of_le (Heap.lt_size e) (I.ok.cab x c hfn hc)))).trans (I.base.keep b o e n hb hx)
    · obtain ⟨sl, e1⟩ := I.base.slot b o e n hb hx
      exact ⟨sl, (hs.2 b (Nat.ne_of_lt (Nat.lt_of_lt_of_le (Heap.lt_size e) (I.ok.cab x c hfn hc)))).trans e1⟩
    · obtain ⟨o', e1⟩ := I.base.there b o e hx
      exact ⟨o', (hs.2 b (Nat.ne_of_lt (Nat.lt_of_lt_of_le (Heap.lt_size e) (I.ok.cab x c hfn hc)))).trans e1⟩
    · by_cases hj : j = i
      · subst hj
        rw [hi] at e1; cases e1
        rw [List.getElem?_set_self hiσ] at e2
        cases e2
        exact ⟨u, r, .inr ⟨.inl hk, c, hc, hc'⟩⟩
      · rw [List.getElem?_set_ne (Ne.symm hj)] at e2
        obtain ⟨u', r', q⟩ := hl j y v' e1 e2 e3
        refine ⟨u', r', ?_⟩
        rcases q with q | ⟨k, c', e, z'⟩
        · exact .inl q
        · refine .inr ⟨k, c', e, z'.sameBut hs ?_⟩
          rintro rfl
          exact hj (nodup_ix hN e1 (I.ok.inj _ _ _ e hc ▸ hi))
    · by_cases hcc : c' = c
      · subst hcc; exact ⟨_, hc'⟩
      · obtain ⟨w2, z2⟩ := I.cell y c' e
        exact ⟨w2, z2.sameBut hs hcc⟩
    · obtain ⟨e, n, ne, nf, d⟩ := I.pin p hp
      refine ⟨(hs.2 p.1 ?_).trans e, n, ne, nf, d⟩
      intro q
      rw [q, hoc] at e
      have q' : oc = p.2 := Option.some.inj e
      exact d w' (by rw [← q']; exact hocd)
theorem store_ok {M : Model} {A : Around} {E : Value → Shared → Prop} {i : Nat} {x : Str} {v : V} {u : Value} {Q : Unit → Shared → Prop} (I : Inv X pins σ H s) (hN : X.N.Nodup) (hi : X.N[i]? = some x) (hx : Loc X.env.scope x) (r : RelV v u)
    (h : ∀ s', Inv X pins (σ.set i (some v)) H s' → Q () s') (hf : X.fn x = true ∨ X.env.scope.names.lookup x = some .local := by first | exact .inl rfl | exact .inr rfl | assumption) : wpAny M A (storeName X.env x u) Q E s :=
  store_ok2 I hN hi hx r (fun s' I' _ => h s' I') hf
theorem Inv.call' {s' : Shared} {ch : List Addr} (I : Inv X pins σ H s) (ho : s'.os = s.os) (u : Un (frs X.stack) ch H H' s.heap s'.heap) (hok : HOk X.prog X.w H' s'.heap) (hg : AllBare s'.gens)
    (hch : ∀ b ∈ ch, (b ∈ X.ex ∨ X.s_0.heap.objs.size ≤ b) ∧ b ≠ X.env.locals ∧ (∀ x c, X.env.cells.lookup x = some c → c ≠ b) ∧ ∀ p ∈ X.pn ++ pins, p.1 ≠ b) : Inv X pins σ H' s' := by
  obtain ⟨h', g', d', t', o'⟩ := s'
  have e : o' = s.os := ho
  subst e
  exact I.call (g' := g') (t' := t') (d' := d') u hok hg hch
end
abbrev XK := Value → Option Addr → Hp → Prop
abbrev St := List (Option V)
abbrev VK := V → Hp → Prop
abbrev TE := St → Hp → VK → Prop
abbrev TT := St → Hp → (Bool → Hp → Prop) → Prop
abbrev TA := St → Hp → (List V → Hp → Prop) → Prop
structure Ends where
  nx : St → Hp → Prop
  rt : VK
  bk : St → Hp → Prop := fun _ _ => False
  ct : St → Hp → Prop := fun _ _ => False
abbrev TS := Ends → St → Hp → Prop
def EP (X : Cx) (pins : List (Addr × Obj)) (σ : St) (Q : VK) (u : Value) (s' : Shared) : Prop := ∃ v H', Inv X pins σ H' s' ∧ RelV v u ∧ Q v H'
def TP (X : Cx) (pins : List (Addr × Obj)) (σ : St) (Q : Bool → Hp → Prop) (b : Bool) (s' : Shared) : Prop := ∃ H', Inv X pins σ H' s' ∧ Q b H'
def AP (X : Cx) (pins : List (Addr × Obj)) (σ : St) (Q : List V → Hp → Prop) (us : List Value) (s' : Shared) : Prop := ∃ vs H', Inv X pins σ H' s' ∧ Vals vs us ∧ Q vs H'
def SP (X : Cx) (pins : List (Addr × Obj)) (D : Ends) (f : Flow) (s' : Shared) : Prop :=
  match f with
  | .next => ∃ σ' H', Inv X pins σ' H' s' ∧ D.nx σ' H'
  | .brk => ∃ σ' H', Inv X pins σ' H' s' ∧ D.bk σ' H'
  | .cont => ∃ σ' H', Inv X pins σ' H' s' ∧ D.ct σ' H'
  | .ret u => ∃ v σ' H', Inv X pins σ' H' s' ∧ RelV v u ∧ D.rt v H'
def PE (X : Cx) (e : Expr) (t : TE) : Prop :=
  ∀ (pins : List (Addr × Obj)) (s : Shared) (σ : St) (H : Hp) (Q : VK), Inv X pins σ H s → t σ H Q → wpAny (model X.prog X.w) X.A (eval e X.env) (EP X pins σ Q) X.xe s
def PT (X : Cx) (e : Expr) (t : TT) : Prop :=
  ∀ (pins : List (Addr × Obj)) (s : Shared) (σ : St) (H : Hp) (Q : Bool → Hp → Prop), Inv X pins σ H s → t σ H Q → wpAny (model X.prog X.w) X.A (isTrue e X.env (eval e X.env)) (TP X pins σ Q) X.xe s
def PW (X : Cx) (e : Expr) (t : TT) : Prop :=
  ∀ (whole : Sem Value) (pins : List (Addr × Obj)) (s : Shared) (σ : St) (H : Hp) (Q : Bool → Hp → Prop), Inv X pins σ H s → t σ H Q → wpAny (model X.prog X.w) X.A (isTrue e X.env whole) (TP X pins σ Q) X.xe s
theorem PW.pt {X : Cx} {e : Expr} {t : TT} (h : PW X e t) : PT X e t := h _
def PA (X : Cx) (es : List Expr) (t : TA) : Prop :=
  ∀ (pos : Pos) (pins : List (Addr × Obj)) (s : Shared) (σ : St) (H : Hp) (Q : List V → Hp → Prop), Inv X pins σ H s → t σ H Q → wpAny (model X.prog X.w) X.A (spliced (backTo pos (starEach es X.env))) (AP X pins σ Q) X.xe s
def PS (X : Cx) (st : Stmt) (t : TS) : Prop :=
  ∀ (pins : List (Addr × Obj)) (s : Shared) (σ : St) (H : Hp) (D : Ends), Inv X pins σ H s → t D σ H → wpAny (model X.prog X.w) X.A (exec st X.env) (SP X pins D) X.xe s
def PSs (X : Cx) (st : List Stmt) (t : TS) : Prop :=
  ∀ (pins : List (Addr × Obj)) (s : Shared) (σ : St) (H : Hp) (D : Ends), Inv X pins σ H s → t D σ H → wpAny (model X.prog X.w) X.A (execs st X.env) (SP X pins D) X.xe s
theorem thn {α : Type} {t : Sem α} {Q Q' : α → Shared → Prop} {M : Model} {A : Around} {E : Value → Shared → Prop} {s : Shared} (h : wpAny M A t Q E s) (hQ : ∀ a s, Q a s → Q' a s) : wpAny M A t Q' E s := wpAny_mono h hQ fun _ _ x => x
end L2
namespace L2
open PySem PySem.Spec PyProof.Rows
section
variable {X : Cx}
def tVar (i : Nat) : TE := fun σ H Q => ∃ v, σ[i]? = some (some v) ∧ Q v H
def tC (v : V) : TE := fun _ H Q => Q v H
theorem pe_var {i : Nat} {x : Str} {pos : Pos} (hN : X.N[i]? = some x) (hv : Vis X.env.scope x) (hd : (x == ("__debug__" : Str)) = false := by decide) (hcd : (x == ("__classdict__" : Str)) = false := by decide) : PE X (.Name x pos) (tVar i) := by
  intro pins s σ H Q I h
  obtain ⟨v, e, h⟩ := h
  obtain ⟨m, hn, hl⟩ := I.loc
  obtain ⟨u, r, l⟩ := hl i x v hN e hv
  have fin : EP X pins σ Q u s := ⟨v, H, I, r, h⟩
  rcases l with ⟨hk, hm⟩ | ⟨hk, c, hc, hcell⟩
  · exact wpAny_Name (wpAny_loadName_local I.ok.kind hk hn hm fin) hd
  · rcases hk with hk | hk
    · exact wpAny_Name (wpAny_loadName_cell I.ok.kind hk hc hcell fin) hd
    · exact wpAny_Name (wpAny_loadName_free I.ok.kind hk hc hcell fin hcd) hd
theorem pe_int {i j pos} : PE X (.Constant (.int i) j pos) (tC (.int i)) := fun _ _ _ H _ I h => wpAny_Constant_int ⟨.int i, H, I.tok _, ⟨_, rfl⟩, h⟩
theorem pe_bl {b j pos} : PE X (.Constant (.bool b) j pos) (tC (.bl b)) := fun _ _ _ H _ I h => Constant_bool ⟨.bl b, H, I, rfl, h⟩
theorem pe_non {j pos} : PE X (.Constant .none j pos) (tC .non) := fun _ _ _ H _ I h => Constant_none ⟨.non, H, I, rfl, h⟩
def Gl (X : Cx) (x : Str) : Prop := X.env.kindOf x = some .globalImplicit
theorem ld_glob {E : Value → Shared → Prop} {pins : List (Addr × Obj)} {s : Shared} {σ : St} {H : Hp} {x : Str} {u : Value} {pos : Pos} {Q : Value → Shared → Prop} (I : Inv X pins σ H s) (hg : Gl X x) (hm : X.mg x = some u) (h : Q u s)
    (hd : (x == ("__debug__" : Str)) = false := by decide) : wpAny (model X.prog X.w) X.A (eval (.Name x pos) X.env) Q E s :=
  Calls.Name_function_global I.ok.kind hg (Calls.loadGlobal_global (by rw [I.ok.glob]; exact I.mod.glob.keeps I.bk) hm h) hd
theorem ld_blt {E : Value → Shared → Prop} {pins : List (Addr × Obj)} {s : Shared} {σ : St} {H : Hp} {x : Str} {u : Value} {pos : Pos} {Q : Value → Shared → Prop} (I : Inv X pins σ H s) (hg : Gl X x) (hm : X.mg x = none) (hv : bootBuiltins x = some u) (h : Q u s)
    (hn : x ≠ "__name__" := by decide) (hd : (x == ("__debug__" : Str)) = false := by decide) : wpAny (model X.prog X.w) X.A (eval (.Name x pos) X.env) Q E s := by
  obtain ⟨mb, h1, h2⟩ := I.mod.blt
  exact Calls.Name_function_global I.ok.kind hg (Calls.loadGlobal_builtin (by rw [I.ok.glob]; exact I.mod.glob.keeps I.bk) hm (by rw [I.ok.blt]; exact h1.keeps I.bk) ((h2 x hn).trans hv) h) hd
theorem pe_glob {x : Str} {v : V} {u : Value} {pos : Pos} (hg : Gl X x) (hm : X.mg x = some u) (r : RelV v u) (hd : (x == ("__debug__" : Str)) = false := by decide) : PE X (.Name x pos) (tC v) :=
  fun _ _ _ H _ I h => ld_glob I hg hm ⟨v, H, I, r, h⟩ hd
variable {a b : Expr} {ta tb : TE} {pos : Pos}
def PC (X : Cx) (op : CmpOp) (a b : Expr) (t : TE) : Prop :=
  ∀ (pins : List (Addr × Obj)) (s : Shared) (σ : St) (H : Hp) (Q : VK), Inv X pins σ H s → t σ H Q →
    wpAny (model X.prog X.w) X.A (eval a X.env) (fun v s₁ => wpAny (model X.prog X.w) X.A (eval b X.env) (fun u s₂ => wpAny (model X.prog X.w) X.A (compareOp op v u) (EP X pins σ Q) X.xe s₂) X.xe s₁) X.xe s
theorem nobehind (b : Expr) {op : CmpOp} (h : op ≠ .In) (h2 : op ≠ .NotIn) : behindInMarks op b = false := by
  have e1 : (op == CmpOp.In) = false := by cases op <;> first | rfl | exact absurd rfl h
  have e2 : (op == CmpOp.NotIn) = false := by cases op <;> first | rfl | exact absurd rfl h2
  cases b <;> simp [behindInMarks, e1, e2]
def tIsN (ta : TE) : TE := fun σ H Q => ta σ H fun x H1 => Q (.bl (decide (x = .non))) H1
def tNotN (ta : TE) : TE := fun σ H Q => ta σ H fun x H1 => Q (.bl (!decide (x = .non))) H1
theorem RelV.none_iff {x : V} {v : Value} (r : RelV x v) : (v == Value.none) = decide (x = .non) := by
  cases x with
  | non => cases r; rfl
  | bl _ => cases r; rfl
  | int _ => obtain ⟨t, rfl⟩ := r; rfl
  | str _ => obtain ⟨t, rfl⟩ := r; rfl
  | byt _ => obtain ⟨t, rfl⟩ := r; rfl
  | flt _ => obtain ⟨t, rfl⟩ := r; rfl
  | ref _ => cases r; rfl
  | ty _ => cases r; rfl
theorem pc_isN {j pos'} (ha : PE X a ta) : PC X .Is a (.Constant .none j pos') (tIsN ta) := by
  intro pins s σ H Q I h
  refine thn (ha pins s σ H _ I h) fun v s1 ⟨x, H1, I1, r1, q1⟩ => ?_
  exact Constant_none (is_none_gen ⟨.bl _, H1, I1, by rw [r1.none_iff]; rfl, q1⟩)
theorem pc_notN {j pos'} (ha : PE X a ta) : PC X .IsNot a (.Constant .none j pos') (tNotN ta) := by
  intro pins s σ H Q I h
  refine thn (ha pins s σ H _ I h) fun v s1 ⟨x, H1, I1, r1, q1⟩ => ?_
  exact Constant_none (isnot_none_gen ⟨.bl _, H1, I1, by rw [r1.none_iff]; rfl, q1⟩)
def tB (t : TE) : TT := fun σ H Q => t σ H fun x H1 => ∃ c, x = .bl c ∧ Q c H1
theorem pt_cmp {op : CmpOp} {t : TE} (h : PC X op a b t) (h1 : behindInMarks op b = false := by first | exact nobehind _ (by decide) (by decide) | rfl) : PT X (.Compare a [op] [b] pos) (tB t) := by
  intro pins s σ H Q I hw
  refine wpAny_isTrue_Compare1 (thn (h pins s σ H _ I hw) fun v s1 h1 => thn h1 fun u s2 h2 => thn h2 fun c s3 ⟨x, H1, I1, r1, q1⟩ => ?_) h1
  obtain ⟨d, rfl, q⟩ := q1
  cases r1
  exact wpAny_truthy_bool ⟨H1, I1, q⟩
theorem pt_val {e : Expr} {t : TE} (h : PE X e t) (he : ∀ whole, isTrue e X.env whole = (do let v ← whole; standAt e.pos; holding [v] (truthy v)) := by intro _; rfl) : PT X e (tB t) := by
  intro pins s σ H Q I hw
  refine isTrue_plain (thn (h pins s σ H _ I hw) fun v s1 ⟨x, H1, I1, r1, q1⟩ => ?_) (he _)
  obtain ⟨d, rfl, q⟩ := q1
  cases r1
  exact wpAny_truthy_bool ⟨H1, I1, q⟩
variable {tA tB' : TT} {rest : List Expr}
def tAnd (t u : TT) : TT := fun σ H Q => t σ H fun c H1 => if c = true then u σ H1 Q else Q false H1
def tOr (t u : TT) : TT := fun σ H Q => t σ H fun c H1 => if c = true then Q true H1 else u σ H1 Q
def tNot (t : TT) : TT := fun σ H Q => t σ H fun c H1 => Q (!c) H1
theorem pw_and1 (ha : PT X a tA) : PW X (.BoolOp .And [a] pos) tA := by
  intro wh pins s σ H Q I h
  refine isTrue_and (thn (ha pins s σ H Q I h) fun c s1 e => ?_)
  cases c with
  | true => exact isTrue_and_nil e
  | false => exact e
theorem pw_or1 (ha : PT X a tA) : PW X (.BoolOp .Or [a] pos) tA := by
  intro wh pins s σ H Q I h
  refine isTrue_or (thn (ha pins s σ H Q I h) fun c s1 e => ?_)
  cases c with
  | false => exact isTrue_or_nil e
  | true => exact e
theorem pw_and (ha : PT X a tA) (hb : PW X (.BoolOp .And (b :: rest) pos) tB') : PW X (.BoolOp .And (a :: b :: rest) pos) (tAnd tA tB') := by
  intro wh pins s σ H Q I h
  refine isTrue_and (thn (ha pins s σ H _ I h) fun c s1 ⟨H1, I1, q1⟩ => ?_)
  cases c with
  | true => exact hb wh pins s1 σ H1 Q I1 q1
  | false => exact ⟨H1, I1, q1⟩
theorem pw_or (ha : PT X a tA) (hb : PW X (.BoolOp .Or (b :: rest) pos) tB') : PW X (.BoolOp .Or (a :: b :: rest) pos) (tOr tA tB') := by
  intro wh pins s σ H Q I h
  refine isTrue_or (thn (ha pins s σ H _ I h) fun c s1 ⟨H1, I1, q1⟩ => ?_)
  cases c with
  | true => exact ⟨H1, I1, q1⟩
  | false => exact hb wh pins s1 σ H1 Q I1 q1
theorem pt_not (ha : PT X a tA) : PT X (.UnaryOp .Not a pos) (tNot tA) := by
  intro pins s σ H Q I h
  exact isTrue_not (ha pins s σ H (fun c H1 => Q (!c) H1) I h)
def tAndV (ta tb : TE) : TE := fun σ H Q => ta σ H fun x H1 => ∃ c, x = .bl c ∧ if c = true then tb σ H1 Q else Q (.bl false) H1
def tOrV (ta tb : TE) : TE := fun σ H Q => ta σ H fun x H1 => ∃ c, x = .bl c ∧ if c = true then Q (.bl true) H1 else tb σ H1 Q
def tNotV (ta : TE) : TE := fun σ H Q => ta σ H fun x H1 => ∃ c, x = .bl c ∧ Q (.bl (!c)) H1
theorem pe_one {op} {t : TE} (h : PE X a t) : PE X (.BoolOp op [a] pos) t := fun pins s σ H Q I hw => BoolOp_one (h pins s σ H Q I hw)
theorem pe_and (ha : PE X a ta) (hb : PE X (.BoolOp .And (b :: rest) pos) tb) : PE X (.BoolOp .And (a :: b :: rest) pos) (tAndV ta tb) := by
  intro pins s σ H Q I h
  refine BoolOp_and (thn (ha pins s σ H _ I h) fun v s1 ⟨x, H1, I1, r1, q1⟩ => ?_)
  obtain ⟨c, rfl, q1⟩ := q1
  cases r1
  refine wpAny_truthy_bool ?_
  cases c with
  | true => exact hb pins s1 σ H1 Q I1 q1
  | false => exact ⟨.bl false, H1, I1, rfl, q1⟩
theorem pe_or (ha : PE X a ta) (hb : PE X (.BoolOp .Or (b :: rest) pos) tb) : PE X (.BoolOp .Or (a :: b :: rest) pos) (tOrV ta tb) := by
  intro pins s σ H Q I h
  refine BoolOp_or (thn (ha pins s σ H _ I h) fun v s1 ⟨x, H1, I1, r1, q1⟩ => ?_)
  obtain ⟨c, rfl, q1⟩ := q1
  cases r1
  refine wpAny_truthy_bool ?_
  cases c with
  | false => exact hb pins s1 σ H1 Q I1 q1
  | true => exact ⟨.bl true, H1, I1, rfl, q1⟩
theorem pe_not (ha : PE X a ta) : PE X (.UnaryOp .Not a pos) (tNotV ta) := by
  intro pins s σ H Q I h
  refine UnaryOp_ (thn (ha pins s σ H _ I h) fun v s1 ⟨x, H1, I1, r1, q1⟩ => ?_)
  obtain ⟨c, rfl, q1⟩ := q1
  cases r1
  exact not_of (wpAny_truthy_bool ⟨.bl (!c), H1, I1, rfl, q1⟩)
def tIf (t : TT) (ta tb : TE) : TE := fun σ H Q => t σ H fun c H1 => if c = true then ta σ H1 Q else tb σ H1 Q
theorem pe_ifExp {c : Expr} (hc : PT X c tA) (ha : PE X a ta) (hb : PE X b tb) : PE X (.IfExp c a b pos) (tIf tA ta tb) := by
  intro pins s σ H Q I h
  refine wpAny_IfExp (thn (hc pins s σ H _ I h) fun d s1 ⟨H1, I1, q1⟩ => ?_)
  cases d with
  | true => exact ha pins s1 σ H1 Q I1 q1
  | false => exact hb pins s1 σ H1 Q I1 q1
end
end L2
namespace L2
open PySem PySem.Spec PyProof.Rows
def SqL (K : PySem.W.Frag) (H : Hp) (a : Addr) (xs : List V) : Prop :=
  Rd H a (.lst xs) ∨
    ∃ (o : Obj) (its : Array Value) (n : Nat), K.lookup a = some o ∧ o.cls = .type "list" ∧ o.dict = none ∧ o.data = .seq its n ∧ its.size ≤ sizeLine ∧ Vals xs its.toList
def SqT (K : PySem.W.Frag) (H : Hp) (a : Addr) (xs : List V) : Prop :=
  Rd H a (.tup xs) ∨
    ∃ (o : Obj) (its : Array Value) (n : Nat), K.lookup a = some o ∧ o.cls = .type "tuple" ∧ o.data = .seq its n ∧ its.size ≤ sizeLine ∧ Vals xs its.toList
def absV : Value → Option V
  | .none => some .non
  | .bool b => some (.bl b)
  | .int i _ => some (.int i)
  | .str x _ => some (.str x)
  | .bytes b _ => some (.byt b)
  | .float b _ => some (.flt b)
  | .ref a => some (.ref a)
  | .type n => some (.ty n)
  | _ => none
theorem RelV.abs {x : V} {u : Value} (r : RelV x u) : absV u = some x := by
  cases x with
  | non => cases r; rfl
  | bl _ => cases r; rfl
  | int _ => obtain ⟨t, rfl⟩ := r; rfl
  | str _ => obtain ⟨t, rfl⟩ := r; rfl
  | byt _ => obtain ⟨t, rfl⟩ := r; rfl
  | flt _ => obtain ⟨t, rfl⟩ := r; rfl
  | ref _ => cases r; rfl
  | ty _ => cases r; rfl
theorem RelV.inj {x y : V} {u : Value} (r : RelV x u) (q : RelV y u) : x = y := Option.some.inj (r.abs.symm.trans q.abs)
theorem Vals.inj : ∀ {xs ys : List V} {us : List Value}, Vals xs us → Vals ys us → xs = ys
  | _, _, _, .nil, .nil => rfl
  | _, _, _, .cons r t, .cons r' t' => by rw [r.inj r', Vals.inj t t']
section
variable {X : Cx} {pins : List (Addr × Obj)} {σ : St} {H : Hp} {s : Shared} {a : Addr} {xs ys : List V}
theorem SqL.of {K : PySem.W.Frag} (h : H a = some (.lst xs)) : SqL K H a xs := .inl (.inl h)
theorem SqT.of {K : PySem.W.Frag} (h : H a = some (.tup xs)) : SqT K H a xs := .inl (.inl h)
theorem Inv.list (I : Inv X pins σ H s) (h : SqL X.K H a xs) : ∃ its : List Value, Vals xs its ∧ PlainL s.heap a its.toArray ∧ xs.length ≤ sizeLine := by
  rcases h with h | ⟨o, its, n, hk, hc, hd, hs, hz, r⟩
  · obtain ⟨z, its, n, r, e⟩ := h.ok I.hok
    exact ⟨its, r, ⟨_, n, e, rfl, rfl, rfl⟩, z⟩
  · refine ⟨its.toList, r, ⟨o, n, I.kIn a o hk, hc, hd, by simpa using hs⟩, ?_⟩
    have e := r.length
    simp only [Array.length_toList] at e
    omega
theorem Inv.tuple (I : Inv X pins σ H s) (h : SqT X.K H a xs) : ∃ its : List Value, Vals xs its ∧ IsTup s.heap a its.toArray ∧ xs.length ≤ sizeLine := by
  rcases h with h | ⟨o, its, n, hk, hc, hs, hz, r⟩
  · obtain ⟨z, its, r, p⟩ := h.ok I.hok
    exact ⟨its, r, p, z⟩
  · refine ⟨its.toList, r, ⟨o, I.kIn a o hk, hc, n, by simpa using hs⟩, ?_⟩
    have e := r.length
    simp only [Array.length_toList] at e
    omega
theorem Inv.list_inj (I : Inv X pins σ H s) (h : SqL X.K H a xs) (h' : SqL X.K H a ys) : xs = ys := by
  obtain ⟨its, r, ⟨o, n, e, _, _, d⟩, _⟩ := I.list h
  obtain ⟨its', r', ⟨o', n', e', _, _, d'⟩, _⟩ := I.list h'
  rw [e] at e'; cases e'
  rw [d] at d'
  injection d' with d1 _
  have : its = its' := by simpa using congrArg Array.toList d1
  subst this
  exact r.inj r'
end
abbrev Cx.wish (X : Cx) (E : Value → Shared → Prop) : Cx := { X with xe := E }
abbrev Cx.nox (X : Cx) : Cx := X.wish fun _ _ => False
theorem Cx.Ok.wish {X : Cx} (ok : X.Ok) (E : Value → Shared → Prop) : (X.wish E).Ok :=
  ⟨ok.mod, ok.kind, ok.glob, ok.blt, ok.above, ok.inj, ok.has, ok.cab, ok.hd, ok.frames, ok.stk, ok.exf, ok.bs, ok.bsz, ok.noex, ok.exfs, ok.funs, ok.frf⟩
theorem Cx.Ok.unwish {X : Cx} {E : Value → Shared → Prop} (ok : (X.wish E).Ok) : X.Ok :=
  ⟨ok.mod, ok.kind, ok.glob, ok.blt, ok.above, ok.inj, ok.has, ok.cab, ok.hd, ok.frames, ok.stk, ok.exf, ok.bs, ok.bsz, ok.noex, ok.exfs, ok.funs, ok.frf⟩
section
variable {X : Cx} {pins : List (Addr × Obj)} {σ : St} {H : Hp} {s : Shared} {E : Value → Shared → Prop}
theorem Inv.wish (I : Inv X pins σ H s) (E : Value → Shared → Prop) : Inv (X.wish E) pins σ H s := ⟨I.ok.wish E, I.os, I.bare, I.base, I.loc, I.cell, I.free, I.freeC, I.pin, I.hok, I.len⟩
theorem Inv.unwish (I : Inv (X.wish E) pins σ H s) : Inv X pins σ H s := ⟨I.ok.unwish, I.os, I.bare, I.base, I.loc, I.cell, I.free, I.freeC, I.pin, I.hok, I.len⟩
theorem SP.unwish {D : Ends} {f : Flow} {s' : Shared} (h : SP (X.wish E) pins D f s') : SP X pins D f s' := by
  cases f with
  | next => obtain ⟨σ', H', I, q⟩ := h; exact ⟨σ', H', I.unwish, q⟩
  | brk => obtain ⟨σ', H', I, q⟩ := h; exact ⟨σ', H', I.unwish, q⟩
  | cont => obtain ⟨σ', H', I, q⟩ := h; exact ⟨σ', H', I.unwish, q⟩
  | ret u => obtain ⟨v, σ', H', I, r, q⟩ := h; exact ⟨v, σ', H', I.unwish, r, q⟩
theorem PE.nox {e : Expr} {t : TE} (h : PE X.nox e t) : PE X e t := fun pins s σ H Q I hw =>
  wpAny_mono (h pins s σ H Q (I.wish _) hw) (fun _ _ ⟨v, H', I', r, q⟩ => ⟨v, H', I'.unwish, r, q⟩) fun _ _ z => False.elim z
theorem PT.nox {e : Expr} {t : TT} (h : PT X.nox e t) : PT X e t := fun pins s σ H Q I hw =>
  wpAny_mono (h pins s σ H Q (I.wish _) hw) (fun _ _ ⟨H', I', q⟩ => ⟨H', I'.unwish, q⟩) fun _ _ z => False.elim z
theorem PSs.nox {st : List Stmt} {t : TS} (h : PSs X.nox st t) : PSs X st t := fun pins s σ H D I hw =>
  wpAny_mono (h pins s σ H D (I.wish _) hw) (fun _ _ q => q.unwish) fun _ _ z => False.elim z
end
section
variable {X : Cx} {st : Stmt} {rest : List Stmt} {t u : TS} {e : Expr} {te : TE} {pos : Pos}
def tNext : TS := fun D σ H => D.nx σ H
def tSeq (t u : TS) : TS := fun D σ H => t { D with nx := u D } σ H
theorem pss_nil : PSs X [] tNext := fun _ _ σ H _ I h => wpAny_execs_nil ⟨σ, H, I, h⟩
theorem pss_cons (h1 : PS X st t) (h2 : PSs X rest u) : PSs X (st :: rest) (tSeq t u) := by
  intro pins s σ H D I h
  refine wpAny_execs_cons (thn (h1 pins s σ H { D with nx := u D } I h) fun f s1 q => ?_)
  cases f with
  | next =>
    obtain ⟨σ', H', I', q⟩ := q
    exact h2 pins s1 σ' H' D I' q
  | ret v => exact q
  | brk => exact q
  | cont => exact q
theorem pss_one (h1 : PS X st t) : PSs X [st] t := by
  intro pins s σ H D I h
  refine wpAny_execs_cons (thn (h1 pins s σ H D I h) fun f s1 q => ?_)
  cases f with
  | next => exact wpAny_execs_nil q
  | ret v => exact q
  | brk => exact q
  | cont => exact q
theorem Inv.quiet {pins : List (Addr × Obj)} {σ : St} {H : Hp} {s : Shared} (I : Inv X pins σ H s) : interactive X.env = false := by simp [interactive, I.ok.kind]
def tDrop (te : TE) : TS := fun D σ H => te σ H fun _ H1 => D.nx σ H1
theorem ps_expr (he : PE X e te) (hs : swapsWith e none pos.line X.env = pure false := by rfl) : PS X (.Expr e pos) (tDrop te) := by
  intro pins s σ H D I h
  exact wpAny_Expr_any (thn (he pins s σ H _ I h) fun v s1 ⟨x, H1, I1, r1, q1⟩ => ⟨σ, H1, I1, q1⟩) I.quiet hs
def tRet (te : TE) : TS := fun D σ H => te σ H D.rt
theorem ps_ret (he : PE X e te) : PS X (.Return (some e) pos) (tRet te) := by
  intro pins s σ H D I h
  exact wpAny_Return_some (thn (he pins s σ H _ I h) fun v s1 ⟨x, H1, I1, r1, q1⟩ => ⟨x, σ, H1, I1, r1, q1⟩)
def tIfS (c : TT) (t u : TS) : TS := fun D σ H => c σ H fun b H1 => if b = true then t D σ H1 else u D σ H1
theorem ps_if {c : Expr} {a b : List Stmt} {tc : TT} (hc : PT X c tc) (ha : PSs X a t) (hb : PSs X b u) : PS X (.If c a b pos) (tIfS tc t u) := by
  intro pins s σ H D I h
  refine wpAny_If (thn (hc pins s σ H _ I h) fun d s1 ⟨H1, I1, q1⟩ => ?_)
  cases d with
  | true => exact ha pins s1 σ H1 D I1 q1
  | false => exact hb pins s1 σ H1 D I1 q1
end
abbrev TG := V → St → Hp → (St → Hp → Prop) → Prop
abbrev TGs := List V → St → Hp → (St → Hp → Prop) → Prop
def PG (X : Cx) (target : Expr) (t : TG) : Prop :=
  ∀ (pins : List (Addr × Obj)) (s : Shared) (σ : St) (H : Hp) (v : V) (u : Value) (Q : St → Hp → Prop), Inv X pins σ H s → RelV v u → t v σ H Q →
    wpAny (model X.prog X.w) X.A (assign target X.env u) (fun _ s' => ∃ σ' H', Inv X pins σ' H' s' ∧ Q σ' H') X.xe s
def PGs (X : Cx) (ts : List Expr) (t : TGs) : Prop :=
  ∀ (pins : List (Addr × Obj)) (s : Shared) (σ : St) (H : Hp) (vs : List V) (us : List Value) (Q : St → Hp → Prop), Inv X pins σ H s → Vals vs us → t vs σ H Q →
    wpAny (model X.prog X.w) X.A (assignInOrder ((assignEach ts X.env).map (·.2)) us) (fun _ s' => ∃ σ' H', Inv X pins σ' H' s' ∧ Q σ' H') X.xe s
abbrev TSet := V → V → V → Hp → (Hp → Prop) → Prop
def PSet (X : Cx) (t : TSet) : Prop :=
  ∀ (pins : List (Addr × Obj)) (s : Shared) (σ : St) (H : Hp) (o i v : V) (ov iv u : Value) (Q : Hp → Prop), Inv X pins σ H s → RelV o ov → RelV i iv → RelV v u → t o i v H Q →
    wpAny (model X.prog X.w) X.A (setItem ov iv u) (fun _ s' => ∃ H', Inv X pins σ H' s' ∧ Q H') X.xe s
section
variable {X : Cx} {pos : Pos}
def gName (i : Nat) : TG := fun v σ H Q => Q (σ.set i (some v)) H
theorem pg_name {i : Nat} {x : Str} (hN : X.N.Nodup) (hi : X.N[i]? = some x) (hx : Loc X.env.scope x) (hf : X.fn x = true ∨ X.env.scope.names.lookup x = some .local := by first | exact .inl rfl | exact .inr rfl | assumption) : PG X (.Name x pos) (gName i) := by
  intro pins s σ H v u Q I r h
  exact wpAny_assign_Name (store_ok I hN hi hx r (fun s' I' => ⟨_, H, I', h⟩) hf)
def gNil : TGs := fun vs σ H Q => vs = [] ∧ Q σ H
def gCons (t : TG) (u : TGs) : TGs := fun vs σ H Q => ∃ v r, vs = v :: r ∧ t v σ H fun σ' H' => u r σ' H' Q
theorem pgs_nil : PGs X [] gNil := by
  intro pins s σ H vs us Q I r h
  obtain ⟨e, h⟩ := h
  subst e
  cases r
  exact assignInOrder_nil ⟨σ, H, I, h⟩
theorem pgs_cons {e : Expr} {es : List Expr} {t : TG} {u : TGs} (h1 : PG X e t) (h2 : PGs X es u)
    (hs : (assignEach (e :: es) X.env).map (·.2) = assign e X.env :: (assignEach es X.env).map (·.2) := by rfl) : PGs X (e :: es) (gCons t u) := by
  intro pins s σ H vs us Q I r h
  obtain ⟨v, vr, e1, h⟩ := h
  subst e1
  cases r with
  | cons r rr =>
    rw [hs]
    refine assignInOrder_cons (thn (h1 pins s σ H _ _ _ I r h) fun _ s1 ⟨σ1, H1, I1, q1⟩ => ?_)
    exact h2 pins s1 σ1 H1 _ _ Q I1 rr q1
def gTup (K : PySem.W.Frag) (n : Nat) (t : TGs) : TG := fun v σ H Q => ∃ a xs, v = .ref a ∧ SqT K H a xs ∧ xs.length = n ∧ t xs σ H Q
theorem pg_tup {es : List Expr} {k : Nat} {t : TGs} {n : Nat} (hc : X.calm = true) (h : PGs X es t)
    (hn : (assignEach es X.env).length = n := by rfl) (hst : (assignEach es X.env).findIdx? (·.1) = none := by rfl) : PG X (.Tuple es k pos) (gTup X.K n t) := by
  intro pins s σ H v u Q I r hw
  obtain ⟨a, xs, e1, hq, hl, hw⟩ := hw
  subst e1
  cases r
  obtain ⟨its, rv, ht, hz⟩ := I.tuple hq
  refine assign_Tuple_tuple (I.ok.hd hc) ht (by simp [hn, ← hl, rv.length]) hst fun h' hx => ?_
  have I1 : Inv X pins σ H { s with heap := h' } := I.kept (t' := s.toks) fun b o e => hx b o (Nat.ne_of_lt (Heap.lt_size e)) e
  exact h pins _ σ H xs _ Q I1 (by simpa using rv) hw
def gSub (to ti : TE) (t : TSet) : TG := fun v σ H Q => to σ H fun o H1 => ti σ H1 fun i H2 => t o i v H2 fun H3 => Q σ H3
theorem pg_sub {o i : Expr} {to ti : TE} {t : TSet} (ho : PE X o to) (hi : PE X i ti) (hs : PSet X t)
    (ha : ∀ v, assign (.Subscript o i pos) X.env v = (do
      let ov ← holding [v] (eval o X.env)
      let iv ← holding [v, ov] (eval i X.env)
      standAt pos
      holding [v, ov, iv] (setItem ov iv v)
      release [v, ov, iv] []) := by intro _; rfl) : PG X (.Subscript o i pos) (gSub to ti t) := by
  intro pins s σ H v u Q I r h
  rw [ha]
  refine wpAny_bind (wpAny_holding (thn (ho pins s σ H _ I h) fun ov s1 ⟨x, H1, I1, r1, q1⟩ => ?_))
  refine wpAny_bind (wpAny_holding (thn (hi pins s1 σ H1 _ I1 q1) fun iv s2 ⟨y, H2, I2, r2, q2⟩ => ?_))
  refine wpAny_bind (wpAny_standAt (wpAny_bind (wpAny_holding (thn (hs pins s2 σ H2 x y v ov iv u _ I2 r1 r2 r q2) fun _ s3 ⟨H3, I3, q3⟩ => ?_))))
  exact wpAny_release ⟨σ, H3, I3, q3⟩
def tAsg (te : TE) (g : TG) : TS := fun D σ H => te σ H fun x H1 => g x σ H1 D.nx
theorem ps_asg {tg e : Expr} {te : TE} {g : TG} (he : PE X e te) (hg : PG X tg g) (hs : swapsWithSole [tg] e pos.line X.env = pure false := by rfl) (hw : swappedStores [tg] e X.env = pure none := by rfl)
    (h1 : (assignEach [tg] X.env).map (·.2) = [assign tg X.env] := by rfl) : PS X (.Assign [tg] e pos) (tAsg te g) := by
  intro pins s σ H D I h
  refine wpAny_Assign_stores (thn (he pins s σ H _ I h) fun v s1 ⟨x, H1, I1, r1, q1⟩ => ?_) hs hw
  rw [h1]
  exact thn (hg pins s1 σ H1 x v _ I1 r1 q1) fun _ s2 q => q
theorem ps_set {i : Nat} {x : Str} {e : Expr} {te : TE} {pos' : Pos} (hN : X.N.Nodup) (hi : X.N[i]? = some x) (hx : Loc X.env.scope x) (he : PE X e te) (hs : swapsWith e (some (.Name x pos')) pos.line X.env = pure false := by rfl) (hf : X.fn x = true ∨ X.env.scope.names.lookup x = some .local := by first | exact .inl rfl | exact .inr rfl | assumption) :
    PS X (.Assign [.Name x pos'] e pos) (tAsg te (gName i)) := by
  intro pins s σ H D I h
  refine wpAny_Assign_Name (thn (he pins s σ H _ I h) fun v s1 ⟨y, H1, I1, r1, q1⟩ => ?_) hs
  exact store_ok I1 hN hi hx r1 (fun s2 I2 => ⟨_, H1, I2, q1⟩) hf
end
section
variable {X : Cx} {pos : Pos}
def tWhile (c : TT) (tb : TS) : TS := fun D σ H => ∃ W : Nat → St → Hp → Prop, (∃ m, W m σ H) ∧ ∀ m σ H, W m σ H →
  c σ H fun b H1 => if b = true then ∃ N : St → Hp → Prop, (∀ σ' H', N σ' H' → ∃ m', m' < m ∧ W m' σ' H') ∧ tb { D with nx := N, ct := N, bk := D.nx } σ H1 else D.nx σ H1
theorem ps_while {c : Expr} {body : List Stmt} {tc : TT} {tb : TS} (hp : PassesOwn (model X.prog X.w) X.A X.env X.xe) (hc : PT X c tc) (hb : PSs X body tb) : PS X (.While c body [] pos) (tWhile tc tb) := by
  intro pins s σ H D I h
  obtain ⟨W, ⟨m0, w0⟩, turn⟩ := h
  refine wpAny_While (codeAny_whileLoop (fun n s' => ∃ σ' H', Inv X pins σ' H' s' ∧ W n σ' H') ?_ m0 ⟨σ, H, I, w0⟩)
  rintro n s1 ⟨σ1, H1, I1, w1⟩
  refine wpAny_passesOwn hp (thn (hc pins s1 σ1 H1 _ I1 (turn n σ1 H1 w1)) fun b s2 ⟨H2, I2, q2⟩ => ?_)
  cases b with
  | true =>
    obtain ⟨N, hN, q2⟩ := q2
    rw [if_pos rfl]
    refine wpAny_passesOwn hp (thn (hb pins s2 σ1 H2 _ I2 q2) fun f s3 q3 => ?_)
    cases f with
    | next =>
      obtain ⟨σ3, H3, I3, n3⟩ := q3
      obtain ⟨m', hm, w3⟩ := hN σ3 H3 n3
      exact ⟨m', hm, σ3, H3, I3, w3⟩
    | cont =>
      obtain ⟨σ3, H3, I3, n3⟩ := q3
      obtain ⟨m', hm, w3⟩ := hN σ3 H3 n3
      exact ⟨m', hm, σ3, H3, I3, w3⟩
    | brk => exact q3
    | ret v => exact q3
  | false =>
    rw [if_neg Bool.false_ne_true]
    exact wpAny_execs_nil ⟨σ1, H2, I2, q2⟩
end
structure It where
  go : Nat → Hp → Prop
  yld : Nat → Hp → V → Hp → Prop
  stop : Nat → Hp → Prop
def FpOk (X : Cx) (pins : List (Addr × Obj)) (H : Hp) (b : Addr) : Prop :=
  H b = none ∧ b ≠ X.env.locals ∧ b ∉ X.fs ∧ (b ∈ X.ex ∨ X.s_0.heap.objs.size ≤ b) ∧ (∀ x c, X.env.cells.lookup x = some c → c ≠ b) ∧ ∀ p ∈ X.pn ++ pins, p.1 ≠ b
theorem Inv.fpOk {X : Cx} {pins : List (Addr × Obj)} {σ : St} {H H' : Hp} {s : Shared} {b : Addr} (I : Inv X pins σ H s) (hb : s.heap.objs.size ≤ b) (hn : H' b = none) : FpOk X pins H' b := by
  refine ⟨hn, Nat.ne_of_gt (Nat.lt_of_lt_of_le I.lt hb), I.nofs hb, .inr (Nat.le_trans I.sz hb), fun x c e z => ?_, fun p hp z => ?_⟩
  · obtain ⟨v, q⟩ := I.cell x c e
    exact absurd (Nat.lt_of_lt_of_le q.lt (by rw [z]; exact hb)) (Nat.lt_irrefl _)
  · exact absurd (Nat.lt_of_lt_of_le (Heap.lt_size (I.pin p hp).1) (by rw [z]; exact hb)) (Nat.lt_irrefl _)
structure Turn (P : Program) (w : World) (K : PySem.W.Frag) (tg : Expr) (J : It) (fp : List Addr) (it : Addr) (tn : Nat → Heap → Prop) : Prop where
  mem : it ∈ fp
  obj : ∀ i h, tn i h → ∀ b ∈ fp, ∃ o, h.get? b = some o ∧ ∀ v, o.data ≠ .cell v
  keep : ∀ i h h', tn i h → (∀ b ∈ fp, ∀ o, h.get? b = some o → h'.get? b = some o) → tn i h'
  item : ∀ (X : Cx), X.prog = P → X.w = w → X.K = K → X.calm = true → ∀ (i : Nat) (pins : List (Addr × Obj)) (s : Shared) (σ : St) (H : Hp) (E : Value → Shared → Prop), Inv X pins σ H s → (∀ b ∈ fp, FpOk X pins H b) → tn i s.heap → J.go i H →
    wpAny (model P w) X.A (pyNext (.ref it)) (fun r s1 => ∃ u, r = some u ∧
      wpAny (model P w) X.A (letOwnedTupleGo tg (.ref it) u) (fun _ s2 => ∃ x H', Inv X pins σ H' s2 ∧ RelV x u ∧ J.yld i H x H' ∧ tn (i + 1) s2.heap ∧ ∀ b ∈ fp, H' b = none) E s1) E s
  done : ∀ (X : Cx), X.prog = P → X.w = w → X.K = K → X.calm = true → ∀ (i : Nat) (pins : List (Addr × Obj)) (s : Shared) (σ : St) (H : Hp) (E : Value → Shared → Prop), Inv X pins σ H s → (∀ b ∈ fp, FpOk X pins H b) → tn i s.heap → J.stop i H →
    wpAny (model P w) X.A (pyNext (.ref it)) (fun r s1 => r = none ∧ Inv X pins σ H s1) E s
  self : ∀ (A : Around) (i : Nat) (s : Shared) (Q : Value → Shared → Prop) (E : Value → Shared → Prop), tn i s.heap → Q (.ref it) s → wpAny (model P w) A (pyIter (.ref it)) Q E s
abbrev TI := St → Hp → (It → Hp → Prop) → Prop
def PIE (X : Cx) (pins : List (Addr × Obj)) (σ : St) (tg : Expr) (R : It → Hp → Prop) (itv : Value) (s2 : Shared) : Prop :=
  ∃ (it : Addr) (fp : List Addr) (tn : Nat → Heap → Prop) (J : It) (H' : Hp), itv = .ref it ∧ Inv X pins σ H' s2 ∧ Turn X.prog X.w X.K tg J fp it tn ∧ tn 0 s2.heap ∧ (∀ b ∈ fp, FpOk X pins H' b) ∧ R J H'
def PI (X : Cx) (tg iter : Expr) (wi : TI) : Prop :=
  ∀ (pins : List (Addr × Obj)) (s : Shared) (σ : St) (H : Hp) (R : It → Hp → Prop), Inv X pins σ H s → wi σ H R →
    wpAny (model X.prog X.w) X.A (eval iter X.env) (fun v s1 => wpAny (model X.prog X.w) X.A (pyIter v) (PIE X pins σ tg R) X.xe s1) X.xe s
theorem go_of {M : Model} {A : Around} {E : Value → Shared → Prop} {s : Shared} {tg : Expr} {it : Addr} {u : Value} {o : Obj} {n : String} {vs : Array Value} {Q : Unit → Shared → Prop} (ho : s.heap.get? it = some o) (hc : o.cls = .type n) (hd : o.data = .fields vs)
    (hn : ["enumerate", "zip", "dict_itemiterator", "dict_reverseitemiterator", "odict_iterator", "itertools.zip_longest", "itertools.pairwise"].contains n = false) (hQ : Q () s) : wpAny M A (letOwnedTupleGo tg (.ref it) u) Q E s := by
  unfold letOwnedTupleGo
  cases tg <;> first
    | exact wpAny_pure hQ
    | (cases u <;> first
        | exact wpAny_pure hQ
        | (refine wpAny_bind (wpAny_load ho ?_)
           rw [hc, hd]
           show wpAny M A (if (["enumerate", "zip", "dict_itemiterator", "dict_reverseitemiterator", "odict_iterator", "itertools.zip_longest", "itertools.pairwise"].contains n && vs[0]? == some (rawInt _)) = true then _ else _) Q E s
           rw [if_neg (by intro h; rw [hn, Bool.false_and] at h; cases h)]
           exact wpAny_pure hQ))
def Itl (K : PySem.W.Frag) (a : Addr) : It :=
  ⟨fun i H => ∃ xs x, SqL K H a xs ∧ xs[i]? = some x, fun i H x H' => H' = H ∧ ∀ xs, SqL K H a xs → xs[i]? = some x, fun i H => ∃ xs, SqL K H a xs ∧ xs.length ≤ i⟩
def Itr (lo : Int) (n : Nat) : It := ⟨fun i _ => i < n, fun i H x H' => H' = H ∧ x = .int (lo + i), fun i _ => n ≤ i⟩
theorem turn_list {P : Program} {w : World} {K : PySem.W.Frag} {tg : Expr} (a it : Addr) : Turn P w K tg (Itl K a) [it] it (fun i h => h.IsListIter it a i) where
  mem := by simp
  obj := fun i h st b hb => by
    have e : b = it := by simpa using hb
    subst e
    obtain ⟨o, e, c, d⟩ := st
    exact ⟨o, e, fun v z => by rw [d] at z; cases z⟩
  keep := fun i h h' st k => st.at fun o e => k it (by simp) o e
  item := by
    intro X hP hw hK hc i pins s σ H E I hf st hg
    subst hP hw hK
    obtain ⟨xs, x, hq, hx⟩ := hg
    obtain ⟨its, rv, p, hz⟩ := I.list hq
    obtain ⟨u, hu, ru⟩ := rv.get hx
    obtain ⟨f0, f1, f2, f3, f4, f5⟩ := hf it (by simp)
    refine wpAny_pyNext_list_item st p.isList (x := u) (by simpa using hu) fun h' st' sb => ?_
    have I1 : Inv X pins σ H { s with heap := h' } := I.turned (t' := s.toks) (fun b o hb e => (sb.2 b hb).trans e) f0 f1 f3 f4 f5
    obtain ⟨o, e, c, d⟩ := id st'
    exact ⟨u, rfl, go_of (s := { s with heap := h' }) e c d (by decide) ⟨x, H, I1, ru, ⟨rfl, fun ys hy => by rw [I.list_inj hy hq]; exact hx⟩, st', fun b hb => (hf b hb).1⟩⟩
  done := by
    intro X hP hw hK hc i pins s σ H E I hf st hg
    subst hP hw hK
    obtain ⟨xs, hq, hx⟩ := hg
    obtain ⟨its, rv, p, hz⟩ := I.list hq
    obtain ⟨f0, f1, f2, f3, f4, f5⟩ := hf it (by simp)
    have hl := rv.length
    exact wpAny_pyNext_list_end (I.ok.hd hc) st p.isList (by simp; omega) fun h' eb => ⟨rfl, I.turned (t' := s.toks) (fun b o hb e => eb b o hb e) f0 f1 f3 f4 f5⟩
  self := fun _ _ _ _ _ st h => wpAny_pyIter_listiter st h
theorem turn_range {P : Program} {w : World} {K : PySem.W.Frag} {tg : Expr} (it : Addr) (lo : Int) (n : Nat) : Turn P w K tg (Itr lo n) [it] it (fun i h => IsRangeIter h it (lo + (i : Nat) * 1) ((n : Int) - (i : Nat)) 1) where
  mem := by simp
  obj := fun i h st b hb => by
    have e : b = it := by simpa using hb
    subst e
    exact ⟨_, st, fun v z => by
      have z' : Data.fields _ = Data.cell v := z
      cases z'⟩
  keep := fun i h h' st k => k it (by simp) _ st
  item := by
    intro X hP hw hK hc i pins s σ H E I hf st hg
    subst hP hw hK
    obtain ⟨f0, f1, f2, f3, f4, f5⟩ := hf it (by simp)
    have W := Walks.range (prog := X.prog) (w := X.w) (I.ok.hd hc) it lo 1 n
    refine W.item i s _ _ hg st fun v h' tk hv st' kk => ?_
    obtain ⟨t, rfl⟩ := hv
    have I1 : Inv X pins σ H { s with heap := h', toks := tk } := I.turned (fun b o hb e => kk b o (by simpa using hb) e) f0 f1 f3 f4 f5
    refine ⟨_, rfl, go_of (s := { s with heap := h', toks := tk }) (n := "range_iterator") st' rfl rfl (by decide) ⟨.int (lo + i), H, I1, ⟨t, ?_⟩, ⟨rfl, rfl⟩, st', fun b hb => (hf b hb).1⟩⟩
    rw [Int.mul_one]
  done := by
    intro X hP hw hK hc i pins s σ H E I hf st hg
    subst hP hw hK
    obtain ⟨f0, f1, f2, f3, f4, f5⟩ := hf it (by simp)
    exact wpAny_pyNext_range_end (I.ok.hd hc) st (by have : n ≤ i := hg; omega) fun h' eb => ⟨rfl, I.turned (t' := s.toks) (fun b o hb e => eb b o hb e) f0 f1 f3 f4 f5⟩
  self := fun _ _ _ _ _ st h => wpAny_pyIter_rangeiter st h
end L2
namespace L2
open PySem PySem.Spec PyProof.Rows
section
variable {X : Cx} {tg : Expr}
def iList (K : PySem.W.Frag) (tl : TE) : TI := fun σ H R => tl σ H fun x H1 => ∃ a, x = .ref a ∧ (∃ xs, SqL K H1 a xs) ∧ R (Itl K a) H1
theorem pi_list {l : Expr} {tl : TE} (hl : PE X l tl) : PI X tg l (iList X.K tl) := by
  intro pins s σ H R I h
  refine thn (hl pins s σ H _ I h) fun v s1 ⟨x, H1, I1, r1, q1⟩ => ?_
  obtain ⟨a, e, ⟨xs, hq⟩, q⟩ := q1
  subst e
  cases r1
  obtain ⟨its, rv, p, hz⟩ := I1.list hq
  refine wpAny_pyIter_list p.isList ?_
  refine ⟨s1.heap.objs.size, [s1.heap.objs.size], _, _, H1, rfl, I1.kept (t' := s1.toks) fun b o e => Heap.get?_push_of_some _ e, turn_list a _, ⟨_, Heap.get?_push_size _ rfl, rfl, rfl⟩, fun b hb => ?_, q⟩
  have e : b = s1.heap.objs.size := by simpa using hb
  subst e
  exact I1.fpOk (Nat.le_refl _) (I1.hok.fresh (Nat.le_refl _))
theorem range_it {pins : List (Addr × Obj)} {σ : St} {H : Hp} {s : Shared} {R : It → Hp → Prop} {E : Value → Shared → Prop} {lo hi : Int} {t u v : Tok} {tk : Nat} (I : Inv X pins σ H s) (h1 : -(2 ^ 62) ≤ lo) (h2 : lo < 2 ^ 62) (h3 : -(2 ^ 62) ≤ hi) (h4 : hi < 2 ^ 62)
    (q : R (Itr lo (hi - lo).toNat) H) : wpAny (model X.prog X.w) X.A (pyIter (.ref s.heap.objs.size)) (PIE X pins σ tg R) E { s with heap := s.heap.push { cls := .type "range", data := .fields #[.int lo t, .int hi u, .int 1 v] }, toks := tk } := by
  refine wpAny_pyIter_range (IsRange.new ..) (small_one h1 h2 h3 h4) ?_
  have I1 : Inv X pins σ H { s with heap := s.heap.push { cls := .type "range", data := .fields #[.int lo t, .int hi u, .int 1 v] }, toks := tk } := I.kept fun b o e => Heap.get?_push_of_some _ e
  refine ⟨(s.heap.push { cls := .type "range", data := .fields #[.int lo t, .int hi u, .int 1 v] }).objs.size, [(s.heap.push { cls := .type "range", data := .fields #[.int lo t, .int hi u, .int 1 v] }).objs.size], _, _, H, rfl,
    I1.kept (t' := tk) fun b o e => Heap.get?_push_of_some _ e, turn_range _ lo (hi - lo).toNat, ?_, fun b hb => ?_, q⟩
  · have e1 : lo + ((0 : Nat) : Int) * 1 = lo := by simp
    have e2 : (((hi - lo).toNat : Nat) : Int) - ((0 : Nat) : Int) = Builtin.Range.rangeSize lo hi 1 := by rw [rangeSize_one]; split <;> omega
    show IsRangeIter _ _ (lo + ((0 : Nat) : Int) * 1) ((((hi - lo).toNat : Nat) : Int) - ((0 : Nat) : Int)) 1
    rw [e1, e2]
    exact Heap.get?_push_size _ rfl
  · have e : b = (s.heap.push { cls := .type "range", data := .fields #[.int lo t, .int hi u, .int 1 v] }).objs.size := by simpa using hb
    subst e
    exact I1.fpOk (Nat.le_refl _) (I1.hok.fresh (Nat.le_refl _))
def iRng1 (ta : TA) : TI := fun σ H R => ta σ H fun vs H1 => ∃ j : Int, vs = [.int j] ∧ -(2 ^ 62) ≤ j ∧ j < 2 ^ 62 ∧ R (Itr 0 j.toNat) H1
def iRng2 (ta : TA) : TI := fun σ H R => ta σ H fun vs H1 => ∃ i j : Int, vs = [.int i, .int j] ∧ (-(2 ^ 62) ≤ i ∧ i < 2 ^ 62 ∧ -(2 ^ 62) ≤ j ∧ j < 2 ^ 62) ∧ R (Itr i (j - i).toNat) H1
theorem pi_range1 {a : Expr} {ta : TA} {p pos : Pos} (hg : Gl X "range") (hm : X.mg "range" = none) (ha : PA X [a] ta) (hs : starEach [a] X.env = [(false, eval a X.env)] := by rfl) : PI X tg (.Call (.Name "range" p) [a] [] pos) (iRng1 ta) := by
  intro pins s σ H R I h
  refine Call_ (ld_blt I hg hm boot_range (PyProof.Rows.callWith_type1 (thn (ha pos pins s σ H _ I h) fun us s1 ⟨vs, H1, I1, r1, q1⟩ => ?_) hs rfl))
  obtain ⟨j, e, q1, q2, q⟩ := q1
  subst e
  cases r1 with
  | cons r rr =>
    cases rr
    obtain ⟨t, rfl⟩ := r
    exact call_range_1 (range_it I1 (by omega) (by omega) q1 q2 (by simpa using q))
theorem pi_range2 {a b : Expr} {ta : TA} {p pos : Pos} (hg : Gl X "range") (hm : X.mg "range" = none) (ha : PA X [a, b] ta) (hs : starEach [a, b] X.env = [(false, eval a X.env), (false, eval b X.env)] := by rfl) (hs2 : starEach [b] X.env = [(false, eval b X.env)] := by rfl) :
    PI X tg (.Call (.Name "range" p) [a, b] [] pos) (iRng2 ta) := by
  intro pins s σ H R I h
  refine Call_ (ld_blt I hg hm boot_range (PyProof.Rows.callWith_type1 (thn (ha pos pins s σ H _ I h) fun us s1 ⟨vs, H1, I1, r1, q1⟩ => ?_) (by rw [hs, hs2]) (by rw [hs2]; rfl)))
  obtain ⟨i, j, e, ⟨q1, q2, q3, q4⟩, q⟩ := q1
  subst e
  cases r1 with
  | cons r rr =>
    cases rr with
    | cons r' rr =>
      cases rr
      obtain ⟨t, rfl⟩ := r
      obtain ⟨t', rfl⟩ := r'
      exact call_range_2 (range_it I1 q1 q2 q3 q4 q)
def tFor (wi : TI) (g : TG) (tb : TS) : TS := fun D σ H => wi σ H fun J H1 => ∃ W : Nat → Nat → St → Hp → Prop, (∃ m, W 0 m σ H1) ∧ ∀ i m σ H, W i m σ H →
  (J.stop i H ∧ D.nx σ H) ∨ (J.go i H ∧ ∃ N : St → Hp → Prop, (∀ σ' H', N σ' H' → ∃ m', m' < m ∧ W (i + 1) m' σ' H') ∧ ∀ x H', J.yld i H x H' → g x σ H' fun σ2 H2 => tb { D with nx := N, ct := N, bk := D.nx } σ2 H2)
def pinsAt (fp : List Addr) (h : Heap) : List (Addr × Obj) := fp.filterMap fun b => (h.get? b).map fun o => (b, o)
theorem mem_pinsAt {fp : List Addr} {h : Heap} {b : Addr} {o : Obj} (hb : b ∈ fp) (e : h.get? b = some o) : (b, o) ∈ pinsAt fp h := List.mem_filterMap.mpr ⟨b, hb, by rw [e]; rfl⟩
theorem of_pinsAt {fp : List Addr} {h : Heap} {p : Addr × Obj} (hp : p ∈ pinsAt fp h) : p.1 ∈ fp ∧ h.get? p.1 = some p.2 := by
  obtain ⟨b, hb, e⟩ := List.mem_filterMap.mp hp
  cases q : h.get? b with
  | none => rw [q] at e; cases e
  | some o =>
    rw [q] at e
    have e' : (b, o) = p := Option.some.inj e
    subst e'
    exact ⟨hb, q⟩
theorem Inv.pinned {pins : List (Addr × Obj)} {σ : St} {H : Hp} {s : Shared} {fp : List Addr} (I : Inv X pins σ H s) (hf : ∀ b ∈ fp, FpOk X pins H b) (ho : ∀ b ∈ fp, ∃ o, s.heap.get? b = some o ∧ ∀ v, o.data ≠ .cell v) : Inv X (pins ++ pinsAt fp s.heap) σ H s :=
  I.pins_of fun p hp => (List.mem_append.mp hp).elim (fun z => I.pin p (List.mem_append_right _ z)) fun z => by
    obtain ⟨hb, e⟩ := of_pinsAt z
    obtain ⟨f0, f1, f2, _⟩ := hf p.1 hb
    obtain ⟨o, e', d⟩ := ho p.1 hb
    rw [e] at e'; cases e'
    exact ⟨e, f0, f1, f2, d⟩
theorem Inv.unpinned {pins pl : List (Addr × Obj)} {σ : St} {H : Hp} {s : Shared} (I : Inv X (pins ++ pl) σ H s) : Inv X pins σ H s := I.pins_of fun p hp => I.pin p (List.mem_append_right _ (List.mem_append_left _ hp))
theorem ps_for {iter : Expr} {body : List Stmt} {wi : TI} {g : TG} {tb : TS} {pos : Pos} (hp : PassesOwn (model X.prog X.w) X.A X.env X.xe) (hc : X.calm = true) (hi : PI X tg iter wi) (hg : PG X tg g) (hb : PSs X body tb)
    (hs : ∀ x, foldedSetIterable iter X.env x = pure x := by intro _; rfl) : PS X (.For tg iter body [] pos) (tFor wi g tb) := by
  intro pins s σ H D I h
  refine wpAny_For (thn (hi pins s σ H _ I h) fun v s1 h1 => thn h1 fun itv s2 h2 => ?_) hs
  obtain ⟨it, fp, tn, J, H2, e, I2, T, st2, f2, W, ⟨m0, w0⟩, turn⟩ := h2
  subst e
  have stat : ∀ {H' : Hp}, (∀ b ∈ fp, H' b = none) → ∀ b ∈ fp, FpOk X pins H' b := fun hn b hb => ⟨hn b hb, (f2 b hb).2⟩
  refine codeAny_forLoop_any (fun n s' => ∃ i σ' H', Inv X pins σ' H' s' ∧ tn i s'.heap ∧ (∀ b ∈ fp, H' b = none) ∧ W i n σ' H') ?_ m0 ⟨0, σ, H2, I2, st2, fun b hb => (f2 b hb).1, w0⟩
  rintro n s3 ⟨i, σ3, H3, I3, st3, fr3, w3⟩
  rcases turn i n σ3 H3 w3 with ⟨stop, qn⟩ | ⟨go, N, hN, step⟩
  · refine wpAny_passesOwn hp (thn (T.done X rfl rfl rfl hc i pins s3 σ3 H3 X.xe I3 (stat fr3) st3 stop) fun r s4 ⟨hr, I4⟩ => ?_)
    subst hr
    exact wpAny_execs_nil ⟨σ3, H3, I4, qn⟩
  · refine wpAny_passesOwn hp (thn (T.item X rfl rfl rfl hc i pins s3 σ3 H3 X.xe I3 (stat fr3) st3 go) fun r s4 ⟨u, hr, h4⟩ => ?_)
    subst hr
    refine wpAny_passesOwn hp (thn h4 fun _ s5 ⟨x, H5, I5, r5, y5, st5, fr5⟩ => ?_)
    have I5' := I5.pinned (stat fr5) (T.obj _ _ st5)
    refine wpAny_passesOwn hp (thn (hg _ s5 σ3 H5 x u _ I5' r5 (step x H5 y5)) fun _ s6 ⟨σ6, H6, I6, q6⟩ => ?_)
    refine wpAny_passesOwn hp (thn (hb _ s6 σ6 H6 _ I6 q6) fun f s7 q7 => ?_)
    have again : ∀ {σ7 : St} {H7 : Hp}, Inv X (pins ++ pinsAt fp s5.heap) σ7 H7 s7 → N σ7 H7 → ∃ m, m < n ∧ ∃ i σ' H', Inv X pins σ' H' s7 ∧ tn i s7.heap ∧ (∀ b ∈ fp, H' b = none) ∧ W i m σ' H' := fun {σ7 H7} I7 n7 => by
      obtain ⟨m', hm, w7⟩ := hN σ7 H7 n7
      refine ⟨m', hm, i + 1, σ7, H7, I7.unpinned, T.keep _ _ _ st5 fun b hb o e => (I7.pin (b, o) (List.mem_append_right _ (List.mem_append_right _ (mem_pinsAt hb e)))).1, fun b hb => ?_, w7⟩
      obtain ⟨o, e, d⟩ := T.obj _ _ st5 b hb
      exact (I7.pin (b, o) (List.mem_append_right _ (List.mem_append_right _ (mem_pinsAt hb e)))).2.1
    cases f with
    | next => obtain ⟨σ7, H7, I7, n7⟩ := q7; exact again I7 n7
    | cont => obtain ⟨σ7, H7, I7, n7⟩ := q7; exact again I7 n7
    | brk => obtain ⟨σ7, H7, I7, q7⟩ := q7; exact ⟨σ7, H7, I7.unpinned, q7⟩
    | ret v => obtain ⟨x7, σ7, H7, I7, r7, q7⟩ := q7; exact ⟨x7, σ7, H7, I7.unpinned, r7, q7⟩
end
theorem for_list {K : PySem.W.Frag} {a : Addr} {xs : List V} {g : TG} {tb : TS} {D : Ends} {σ : St} {H : Hp} (Pv : Nat → St → Hp → Prop) (h0 : Pv 0 σ H) (hl : ∀ i σ H, i ≤ xs.length → Pv i σ H → SqL K H a xs)
    (hs : ∀ i x σ H, xs[i]? = some x → Pv i σ H → g x σ H fun σ2 H2 => tb { D with nx := Pv (i + 1), ct := Pv (i + 1), bk := D.nx } σ2 H2) (hd : ∀ σ H, Pv xs.length σ H → D.nx σ H) :
    ∃ W : Nat → Nat → St → Hp → Prop, (∃ m, W 0 m σ H) ∧ ∀ i m σ H, W i m σ H →
      ((Itl K a).stop i H ∧ D.nx σ H) ∨ ((Itl K a).go i H ∧ ∃ N : St → Hp → Prop, (∀ σ' H', N σ' H' → ∃ m', m' < m ∧ W (i + 1) m' σ' H') ∧ ∀ x H', (Itl K a).yld i H x H' → g x σ H' fun σ2 H2 => tb { D with nx := N, ct := N, bk := D.nx } σ2 H2) := by
  refine ⟨fun i m σ H => m = xs.length - i ∧ i ≤ xs.length ∧ Pv i σ H, ⟨xs.length, by simp, Nat.zero_le _, h0⟩, ?_⟩
  rintro i m σ H ⟨rfl, hi, p⟩
  have q := hl i σ H hi p
  by_cases hlt : i < xs.length
  · refine .inr ⟨⟨xs, xs[i], q, by simp [hlt]⟩, Pv (i + 1), fun σ' H' p' => ⟨xs.length - (i + 1), by omega, rfl, hlt, p'⟩, fun x H' y => ?_⟩
    obtain ⟨e, y⟩ := y
    subst e
    exact hs i x σ _ (y xs q) p
  · have e : i = xs.length := by omega
    subst e
    exact .inl ⟨⟨xs, q, Nat.le_refl _⟩, hd σ H p⟩
theorem for_range {lo : Int} {n : Nat} {g : TG} {tb : TS} {D : Ends} {σ : St} {H : Hp} (Pv : Nat → St → Hp → Prop) (h0 : Pv 0 σ H)
    (hs : ∀ i σ H, i < n → Pv i σ H → g (.int (lo + i)) σ H fun σ2 H2 => tb { D with nx := Pv (i + 1), ct := Pv (i + 1), bk := D.nx } σ2 H2) (hd : ∀ σ H, Pv n σ H → D.nx σ H) :
    ∃ W : Nat → Nat → St → Hp → Prop, (∃ m, W 0 m σ H) ∧ ∀ i m σ H, W i m σ H →
      ((Itr lo n).stop i H ∧ D.nx σ H) ∨ ((Itr lo n).go i H ∧ ∃ N : St → Hp → Prop, (∀ σ' H', N σ' H' → ∃ m', m' < m ∧ W (i + 1) m' σ' H') ∧ ∀ x H', (Itr lo n).yld i H x H' → g x σ H' fun σ2 H2 => tb { D with nx := N, ct := N, bk := D.nx } σ2 H2) := by
  refine ⟨fun i m σ H => m = n - i ∧ i ≤ n ∧ Pv i σ H, ⟨n, by simp, Nat.zero_le _, h0⟩, ?_⟩
  rintro i m σ H ⟨rfl, hi, p⟩
  by_cases hlt : i < n
  · refine .inr ⟨hlt, Pv (i + 1), fun σ' H' p' => ⟨n - (i + 1), by omega, rfl, hlt, p'⟩, fun x H' y => ?_⟩
    obtain ⟨e, y⟩ := y
    subst e y
    exact hs i σ _ hlt p
  · have e : i = n := by omega
    subst e
    exact .inl ⟨Nat.le_refl _, hd σ H p⟩
theorem while_by {c : TT} {tb : TS} {D : Ends} {σ : St} {H : Hp} (Pv : St → Hp → Prop) (μ : St → Hp → Nat) (h0 : Pv σ H)
    (hs : ∀ σ H, Pv σ H → c σ H fun b H1 => if b = true then tb { D with nx := fun σ' H' => Pv σ' H' ∧ μ σ' H' < μ σ H, ct := fun σ' H' => Pv σ' H' ∧ μ σ' H' < μ σ H, bk := D.nx } σ H1 else D.nx σ H1)
    (mono : ∀ σ H Q Q', (∀ b H1, Q b H1 → Q' b H1) → c σ H Q → c σ H Q') : tWhile c tb D σ H := by
  refine ⟨fun m σ H => m = μ σ H ∧ Pv σ H, ⟨_, rfl, h0⟩, ?_⟩
  rintro m σ H ⟨rfl, p⟩
  refine mono σ H _ _ (fun b H1 q => ?_) (hs σ H p)
  cases b with
  | true => exact ⟨_, fun σ' H' ⟨p', l⟩ => ⟨_, l, rfl, p'⟩, q⟩
  | false => exact q
end L2
namespace L2
open PySem PySem.Spec PyProof.Rows
abbrev R2 := V → V → Hp → VK → Prop
def OpR (X : Cx) (f : Value → Value → Sem Value) (r : R2) : Prop :=
  ∀ (pins : List (Addr × Obj)) (s : Shared) (σ : St) (H : Hp) (x y : V) (v u : Value) (Q : VK), Inv X pins σ H s → RelV x v → RelV y u → r x y H Q →
    wpAny (model X.prog X.w) X.A (f v u) (EP X pins σ Q) X.xe s
def CallR (X : Cx) (f : Value) (r : List V → Hp → VK → Prop) : Prop :=
  ∀ (pins : List (Addr × Obj)) (s : Shared) (σ : St) (H : Hp) (xs : List V) (us : List Value) (Q : VK), Inv X pins σ H s → Vals xs us → r xs H Q →
    wpAny (model X.prog X.w) X.A (call f us) (EP X pins σ Q) X.xe s
def tOp (r : R2) (ta tb : TE) : TE := fun σ H Q => ta σ H fun x H1 => tb σ H1 fun y H2 => r x y H2 Q
def rI (C : Int → Int → Prop) (g : Int → Int → V) : R2 := fun x y H Q => ∃ i j, x = .int i ∧ y = .int j ∧ C i j ∧ Q (g i j) H
def rI0 (g : Int → Int → V) : R2 := fun x y H Q => ∃ i j, x = .int i ∧ y = .int j ∧ Q (g i j) H
section
variable {X : Cx} {a b c : Expr} {ta tb tc : TE} {pos : Pos}
theorem binT (ha : PE X a ta) (hb : PE X b tb) {pins : List (Addr × Obj)} {s : Shared} {σ : St} {H : Hp} {R : V → V → Hp → Prop} (I : Inv X pins σ H s)
    (h : ta σ H fun x H1 => tb σ H1 fun y H2 => R x y H2) {Q : Value → Shared → Prop} {f : Value → Value → Sem Value}
    (hf : ∀ v u s2 x y H2, Inv X pins σ H2 s2 → RelV x v → RelV y u → R x y H2 → wpAny (model X.prog X.w) X.A (f v u) Q X.xe s2) :
    wpAny (model X.prog X.w) X.A (eval a X.env) (fun v s₁ => wpAny (model X.prog X.w) X.A (eval b X.env) (fun u s₂ => wpAny (model X.prog X.w) X.A (f v u) Q X.xe s₂) X.xe s₁) X.xe s := by
  refine thn (ha pins s σ H _ I h) fun v s1 ⟨x, H1, I1, r1, q1⟩ => ?_
  refine thn (hb pins s1 σ H1 _ I1 q1) fun u s2 ⟨y, H2, I2, r2, q2⟩ => ?_
  exact hf v u s2 x y H2 I2 r1 r2 q2
theorem pe_op {op : Operator} {r : R2} (ho : OpR X (binaryOp op) r) (ha : PE X a ta) (hb : PE X b tb) : PE X (.BinOp a op b pos) (tOp r ta tb) := by
  intro pins s σ H Q I h
  exact wpAny_BinOp (binT ha hb I h fun v u s2 x y H2 I2 rx ry q => ho pins s2 σ H2 x y v u Q I2 rx ry q)
theorem opI {f : Value → Value → Sem Value} {C : Int → Int → Prop} {g : Int → Int → Int}
    (rule : ∀ (i j : Int) (t u : Tok) (s : Shared) (Q : Value → Shared → Prop) (E : Value → Shared → Prop), C i j → Q (.int (g i j) s.toks) { s with toks := s.toks + 1 } → wpAny (model X.prog X.w) X.A (f (.int i t) (.int j u)) Q E s) :
    OpR X f (rI C fun i j => .int (g i j)) := by
  intro pins s σ H x y v u Q I rx ry h
  obtain ⟨i, j, rfl, rfl, hc, q⟩ := h
  obtain ⟨t, rfl⟩ := rx
  obtain ⟨t', rfl⟩ := ry
  exact rule i j t t' s _ _ hc ⟨.int (g i j), H, I.tok _, ⟨_, rfl⟩, q⟩
theorem opI0 {f : Value → Value → Sem Value} {g : Int → Int → Int}
    (rule : ∀ (i j : Int) (t u : Tok) (s : Shared) (Q : Value → Shared → Prop) (E : Value → Shared → Prop), Q (.int (g i j) s.toks) { s with toks := s.toks + 1 } → wpAny (model X.prog X.w) X.A (f (.int i t) (.int j u)) Q E s) :
    OpR X f (rI0 fun i j => .int (g i j)) := by
  intro pins s σ H x y v u Q I rx ry h
  obtain ⟨i, j, rfl, rfl, q⟩ := h
  obtain ⟨t, rfl⟩ := rx
  obtain ⟨t', rfl⟩ := ry
  exact rule i j t t' s _ _ ⟨.int (g i j), H, I.tok _, ⟨_, rfl⟩, q⟩
theorem opB0 {f : Value → Value → Sem Value} {g : Int → Int → Bool}
    (rule : ∀ (i j : Int) (t u : Tok) (s : Shared) (Q : Value → Shared → Prop) (E : Value → Shared → Prop), Q (.bool (g i j)) s → wpAny (model X.prog X.w) X.A (f (.int i t) (.int j u)) Q E s) :
    OpR X f (rI0 fun i j => .bl (g i j)) := by
  intro pins s σ H x y v u Q I rx ry h
  obtain ⟨i, j, rfl, rfl, q⟩ := h
  obtain ⟨t, rfl⟩ := rx
  obtain ⟨t', rfl⟩ := ry
  exact rule i j t t' s _ _ ⟨.bl (g i j), H, I, rfl, q⟩
def CMul (i j : Int) : Prop := (-(2 ^ 64) < i ∧ i < 2 ^ 64) ∨ (-(2 ^ 64) < j ∧ j < 2 ^ 64)
theorem CMul.ok {i j : Int} (h : CMul i j) : IntMulOk i j := by
  rcases h with ⟨h1, h2⟩ | ⟨h1, h2⟩
  · exact .of_left (intBits_le_64 h1 h2)
  · exact .of_right (intBits_le_64 h1 h2)
theorem op_add : OpR X (binaryOp .Add) (rI0 fun i j => .int (i + j)) := opI0 fun _ _ _ _ _ _ _ q => add_int q
theorem op_sub : OpR X (binaryOp .Sub) (rI0 fun i j => .int (i - j)) := opI0 fun _ _ _ _ _ _ _ q => sub_int q
theorem op_mul : OpR X (binaryOp .Mult) (rI CMul fun i j => .int (i * j)) := opI fun _ _ _ _ _ _ _ hc q => mul_int q hc.ok
end
def scal : V → V → Bool
  | .non, .non => true | .non, .int _ => true | .int _, .non => true | .non, .bl _ => true | .bl _, .non => true | .non, .str _ => true | .str _, .non => true
  | .int _, .int _ => true | .bl _, .bl _ => true | .str _, .str _ => true | .byt _, .byt _ => true
  | .int _, .str _ => true | .str _, .int _ => true | .bl _, .str _ => true | .str _, .bl _ => true
  | _, _ => false
def rEq : R2 := fun x y H Q => scal x y = true ∧ Q (.bl (decide (x = y))) H
def rNe : R2 := fun x y H Q => scal x y = true ∧ Q (.bl (!decide (x = y))) H
theorem dec_int {i j : Int} : decide (V.int i = V.int j) = (i == j) := by
  rw [Bool.eq_iff_iff]
  simp
theorem dec_bl {i j : Bool} : decide (V.bl i = V.bl j) = (i == j) := by
  rw [Bool.eq_iff_iff]
  simp
theorem dec_str {i j : Str} : decide (V.str i = V.str j) = (i == j) := by
  rw [Bool.eq_iff_iff]
  simp
theorem dec_byt {i j : Array UInt8} : decide (V.byt i = V.byt j) = (i.toList == j.toList) := by
  rw [Bool.eq_iff_iff]
  cases i
  cases j
  simp
section
variable {X : Cx} {a b c : Expr} {ta tb tc : TE} {pos : Pos}
theorem fin_bl {pins : List (Addr × Obj)} {σ : St} {H : Hp} {s : Shared} {Q : VK} {k k' : Bool} (I : Inv X pins σ H s) (q : Q (.bl k) H) (e : k = k') : EP X pins σ Q (.bool k') s := by
  subst e
  exact ⟨.bl k, H, I, rfl, q⟩
theorem op_eq : OpR X (compareOp .Eq) rEq := by
  intro pins s σ H x y v u Q I rx ry h
  obtain ⟨hs, q⟩ := h
  cases x with
  | non =>
    cases rx
    cases y with
    | non => cases ry; exact PySem.EqNone.eq_none_none (fin_bl I q (by simp))
    | bl j => cases ry; exact PySem.EqNone.eq_none_bool (fin_bl I q (by simp))
    | int j => obtain ⟨t', rfl⟩ := ry; exact PySem.EqNone.eq_none_int (fin_bl I q (by simp))
    | str j => obtain ⟨t', rfl⟩ := ry; exact PySem.EqNone.eq_none_str (fin_bl I q (by simp))
    | _ => exact absurd (show false = true from hs) Bool.false_ne_true
  | bl i =>
    cases rx
    cases y with
    | non => cases ry; exact PySem.EqNone.eq_bool_none (fin_bl I q (by simp))
    | bl j => cases ry; exact eq_bool (fin_bl I q dec_bl)
    | str j => obtain ⟨t', rfl⟩ := ry; exact PySem.EqMixed.eq_bool_str (fin_bl I q (by simp))
    | _ => exact absurd (show false = true from hs) Bool.false_ne_true
  | int i =>
    obtain ⟨t, rfl⟩ := rx
    cases y with
    | non => cases ry; exact PySem.EqNone.eq_int_none (fin_bl I q (by simp))
    | int j => obtain ⟨t', rfl⟩ := ry; exact eq_int (fin_bl I q dec_int)
    | str j => obtain ⟨t', rfl⟩ := ry; exact PySem.EqMixed.eq_int_str (fin_bl I q (by simp))
    | _ => exact absurd (show false = true from hs) Bool.false_ne_true
  | str i =>
    obtain ⟨t, rfl⟩ := rx
    cases y with
    | non => cases ry; exact PySem.EqNone.eq_str_none (fin_bl I q (by simp))
    | bl j => cases ry; exact PySem.EqMixed.eq_str_bool (fin_bl I q (by simp))
    | int j => obtain ⟨t', rfl⟩ := ry; exact PySem.EqMixed.eq_str_int (fin_bl I q (by simp))
    | str j => obtain ⟨t', rfl⟩ := ry; exact eq_str (fin_bl I q dec_str)
    | _ => exact absurd (show false = true from hs) Bool.false_ne_true
  | byt i =>
    obtain ⟨t, rfl⟩ := rx
    cases y with
    | byt j => obtain ⟨t', rfl⟩ := ry; exact PySem.W.eq_bytes (fin_bl I q dec_byt)
    | _ => exact absurd (show false = true from hs) Bool.false_ne_true
  | _ => cases y <;> exact absurd (show false = true from hs) Bool.false_ne_true
theorem op_ne : OpR X (compareOp .NotEq) rNe := by
  intro pins s σ H x y v u Q I rx ry h
  obtain ⟨hs, q⟩ := h
  cases x with
  | non =>
    cases rx
    cases y with
    | non => cases ry; exact PySem.EqNone.ne_none_none (fin_bl I q (by simp))
    | bl j => cases ry; exact PySem.EqNone.ne_none_bool (fin_bl I q (by simp))
    | int j => obtain ⟨t', rfl⟩ := ry; exact PySem.EqNone.ne_none_int (fin_bl I q (by simp))
    | str j => obtain ⟨t', rfl⟩ := ry; exact PySem.EqNone.ne_none_str (fin_bl I q (by simp))
    | _ => exact absurd (show false = true from hs) Bool.false_ne_true
  | bl i =>
    cases rx
    cases y with
    | non => cases ry; exact PySem.EqNone.ne_bool_none (fin_bl I q (by simp))
    | bl j => cases ry; exact ne_bool (fin_bl I q (congrArg not dec_bl))
    | str j => obtain ⟨t', rfl⟩ := ry; exact PySem.EqMixed.ne_bool_str (fin_bl I q (by simp))
    | _ => exact absurd (show false = true from hs) Bool.false_ne_true
  | int i =>
    obtain ⟨t, rfl⟩ := rx
    cases y with
    | non => cases ry; exact PySem.EqNone.ne_int_none (fin_bl I q (by simp))
    | int j => obtain ⟨t', rfl⟩ := ry; exact ne_int (fin_bl I q (congrArg not dec_int))
    | str j => obtain ⟨t', rfl⟩ := ry; exact PySem.EqMixed.ne_int_str (fin_bl I q (by simp))
    | _ => exact absurd (show false = true from hs) Bool.false_ne_true
  | str i =>
    obtain ⟨t, rfl⟩ := rx
    cases y with
    | non => cases ry; exact PySem.EqNone.ne_str_none (fin_bl I q (by simp))
    | bl j => cases ry; exact PySem.EqMixed.ne_str_bool (fin_bl I q (by simp))
    | int j => obtain ⟨t', rfl⟩ := ry; exact PySem.EqMixed.ne_str_int (fin_bl I q (by simp))
    | str j => obtain ⟨t', rfl⟩ := ry; exact ne_str (fin_bl I q (congrArg not dec_str))
    | _ => exact absurd (show false = true from hs) Bool.false_ne_true
  | byt i =>
    obtain ⟨t, rfl⟩ := rx
    cases y with
    | byt j => obtain ⟨t', rfl⟩ := ry; exact PySem.W.ne_bytes (fin_bl I q (congrArg not dec_byt))
    | _ => exact absurd (show false = true from hs) Bool.false_ne_true
  | _ => cases y <;> exact absurd (show false = true from hs) Bool.false_ne_true
theorem op_lt : OpR X (compareOp .Lt) (rI0 fun i j => .bl (decide (i < j))) := opB0 fun _ _ _ _ _ _ _ q => lt_int q
theorem op_le : OpR X (compareOp .LtE) (rI0 fun i j => .bl (decide (i ≤ j))) := opB0 fun _ _ _ _ _ _ _ q => le_int q
theorem op_gt : OpR X (compareOp .Gt) (rI0 fun i j => .bl (decide (j < i))) := opB0 fun _ _ _ _ _ _ _ q => gt_int q
theorem OpR.or {f : Value → Value → Sem Value} {r r' : R2} (h : OpR X f r) (h' : OpR X f r') : OpR X f (fun x y H Q => r x y H Q ∨ r' x y H Q) := by
  intro pins s σ H x y v u Q I rx ry q
  rcases q with q | q
  · exact h pins s σ H x y v u Q I rx ry q
  · exact h' pins s σ H x y v u Q I rx ry q
theorem nomark (b : Expr) {op : CmpOp} (h : op ≠ .In := by decide) (h2 : op ≠ .NotIn := by decide) : behindInMarks op b = false := by
  have e1 : (op == CmpOp.In) = false := by cases op <;> first | rfl | exact absurd rfl h
  have e2 : (op == CmpOp.NotIn) = false := by cases op <;> first | rfl | exact absurd rfl h2
  cases b <;> simp [behindInMarks, e1, e2]
theorem pe_cmpR {op : CmpOp} {r : R2} (ho : OpR X (compareOp op) r) (ha : PE X a ta) (hb : PE X b tb) (hm : behindInMarks op b = false) : PE X (.Compare a [op] [b] pos) (tOp r ta tb) := by
  intro pins s σ H Q I h
  exact wpAny_Compare1 (binT ha hb I h fun v u s2 x y H2 I2 rx ry q => ho pins s2 σ H2 x y v u Q I2 rx ry q) hm
def tTest (t : TE) : TT := fun σ H Q => t σ H fun x H' => ∃ k, x = .bl k ∧ Q k H'
theorem pt_cmpR {op : CmpOp} {r : R2} (ho : OpR X (compareOp op) r) (ha : PE X a ta) (hb : PE X b tb) (hm : behindInMarks op b = false) : PT X (.Compare a [op] [b] pos) (tTest (tOp r ta tb)) := by
  intro pins s σ H Q I h
  refine wpAny_isTrue_Compare1 (thn (ha pins s σ H _ I h) fun v s1 ⟨x, H1, I1, r1, q1⟩ => thn (hb pins s1 σ H1 _ I1 q1) fun u s2 ⟨y, H2, I2, r2, q2⟩ =>
    thn (ho pins s2 σ H2 x y v u _ I2 r1 r2 q2) fun c s3 ⟨z, H3, I3, r3, k, e, q3⟩ => ?_) hm
  subst e
  cases r3
  exact wpAny_truthy_bool ⟨H3, I3, q3⟩
theorem line63 : (sizeLine : Nat) < 2 ^ 63 := by rw [sizeLine_eq]; decide
theorem vals1 {x : V} {us : List Value} (r : Vals [x] us) : ∃ u, us = [u] ∧ RelV x u := by
  cases r with
  | cons r1 r2 => cases r2; exact ⟨_, rfl, r1⟩
theorem vals2 {x y : V} {us : List Value} (r : Vals [x, y] us) : ∃ u w', us = [u, w'] ∧ RelV x u ∧ RelV y w' := by
  cases r with
  | cons r1 r2 =>
    cases r2 with
    | cons r3 r4 => cases r4; exact ⟨_, _, rfl, r1, r3⟩
theorem call_max2 (hc : X.calm = true) : CallR X (.builtin "max") (fun xs H Q => ∃ i j, xs = [.int i, .int j] ∧ Q (.int (if j > i then j else i)) H) := by
  intro pins s σ H xs us Q I r h
  obtain ⟨i, j, rfl, q⟩ := h
  obtain ⟨u, w', rfl, ⟨t, rfl⟩, ⟨t', rfl⟩⟩ := vals2 r
  refine max_two_ints (I.ok.hd hc) fun h' tk k => ⟨_, H, I.kept k, ?_, q⟩
  by_cases hj : j > i
  · rw [if_pos hj, if_pos hj]; exact ⟨_, rfl⟩
  · rw [if_neg hj, if_neg hj]; exact ⟨_, rfl⟩
end
end L2
namespace L2
open PySem PySem.Spec PyProof.Rows
structure ObjM (h : Heap) (x dx C : Addr) (mA : Str → Option Value) : Prop where
  obj : h.get? x = some (PySem.W.instObj C dx)
  ns : h.Ns1 dx mA
  ne : dx ≠ x
theorem lookIn_ns {h : Heap} {dx : Addr} {mA : Str → Option Value} (n : h.Ns1 dx mA) : ∃ od, h.get? dx = some od ∧ ∀ name, PySem.W.lookIn name od = some (mA name) := by
  obtain ⟨o, es, ep, ho, hd, hk, _, hm⟩ := n
  refine ⟨o, ho, fun name => ?_⟩
  have e := hm name
  unfold nsFind findBy at e
  rw [← Array.find?_toList] at e
  unfold PySem.W.lookIn
  rw [hd]
  dsimp only
  split
  · rename_i y q
    rw [q] at e
    exact congrArg some e
  · rename_i q
    rw [q] at e
    have a : es.toList.any (·.refKey) = false := by
      rw [List.any_eq_false]
      intro y hy
      obtain ⟨z, t, hkey⟩ := hk y (Array.mem_toList_iff.mp hy)
      simp [DictEntry.refKey, hkey]
    have a' : ¬ es.toList.any (·.refKey) = true := by rw [a]; exact Bool.false_ne_true
    rw [if_neg a']
    exact congrArg some e
theorem ObjM.look {h : Heap} {x dx C : Addr} {mA : Str → Option Value} (I : ObjM h x dx C mA) : ∃ od, PySem.W.InstAt h x (PySem.W.instObj C dx) C (some od) ∧ ∀ name, PySem.W.lookIn name od = some (mA name) :=
  let ⟨od, ho, hl⟩ := lookIn_ns I.ns
  ⟨od, ⟨I.obj, rfl, rfl, ho⟩, hl⟩
section
variable {prog : Program} {w : World} {A : Around} {E : Value → Shared → Prop} {s : Shared} {K : PySem.W.Frag} {x dx C f : Addr} {mA : Str → Option Value} {name : Str} {v : Value}
theorem get_map {expr : Bool} {Q : Value → Shared → Prop} (X : K.In s.heap) (I : ObjM s.heap x dx C mA) (hg : PySem.W.plainGet K C name = true) (hh : PySem.W.hasDictIn K C = true)
    (ha : PySem.W.findIn K (.ref C) name = some none) (hv : mA name = some v) (hv' : PySem.W.handedIn v = true) (h : Q v { s with toks := s.toks + 1 }) :
    wpAny (model prog w) A (getAttr (.ref x) name expr) Q E s := by
  obtain ⟨od, J, hl⟩ := I.look
  exact PySem.W.get_value X J (PySem.W.plainGet_of hg).1 (PySem.W.findObj_own hh ha rfl (by rw [hl, hv])) hv' h
theorem get_const {expr : Bool} {a : Value} {Q : Value → Shared → Prop} (X : K.In s.heap) (I : ObjM s.heap x dx C mA) (hg : PySem.W.plainGet K C name = true) (hh : PySem.W.hasDictIn K C = true)
    (ha : PySem.W.findIn K (.ref C) name = some (some a)) (hn : PySem.W.specialIn K a "__get__" = some none) (hc : PySem.W.copiedNames.contains name = false) (hv : mA name = none) (hv' : PySem.W.handedIn a = true)
    (h : Q a { s with toks := s.toks + 1 }) : wpAny (model prog w) A (getAttr (.ref x) name expr) Q E s := by
  obtain ⟨od, J, hl⟩ := I.look
  exact PySem.W.get_value X J (PySem.W.plainGet_of hg).1 (PySem.W.findObj_cls hh ha hn hv' hc (by rw [hl, hv])) hv' h
theorem set_map {ns : List Str} {Q : Unit → Shared → Prop} (X : K.In s.heap) (I : ObjM s.heap x dx C mA)
    (hs : PySem.W.findIn K (.ref C) "__setattr__" = some (some (.builtin "object.__setattr__"))) (hp : PySem.W.plainOver K C = true) (ht : PySem.W.takerIn K C name = some none) (hh : PySem.W.hasDictIn K C = true)
    (hw : PySem.Within mA ns) (hsz : ns.length ≤ sizeLine)
    (h : ∀ h', ObjM h' x dx C (fun y => if y = name then some v else mA y) → Heap.SameBut dx s.heap h' → Q () { s with heap := h', toks := s.toks + 2 }) :
    wpAny (model prog w) A (setAttr (.ref x) name v) Q E s := by
  obtain ⟨od, J, hl⟩ := I.look
  refine PySem.W.set_plain X J hs (PySem.W.osa_open (s := { s with toks := s.toks + 1 }) (r := none) X J hp ht fun b => ?_)
  obtain ⟨cd, hc, hd'⟩ := PySem.W.any_some hh
  have hx : s.heap.get? x = some ⟨.ref C, some dx, .plain, #[]⟩ := I.obj
  refine wpAny_bind (wpAny_pure (wpAny_bind (wpAny_bind (wpAny_loadPart hx (wpAny_bind (PySem.W.Looks.here (s := { s with toks := s.toks + 1 }) (PySem.W.looks_clsIn X hc) ?_))))))
  rw [hd']
  refine wpAny_pure (a := some dx) (wpAny_bind (wpAny_pure (wpAny_bind ?_)))
  refine wpAny_nsSet1 (s := { s with toks := s.toks + 1 }) I.ns fun h' hn2 hs2 => ?_
  obtain ⟨oD, esD, epD, hoD, hdD, hcD⟩ := hn2.count (PySem.Within.cons name v hw)
  refine wpAny_bind (wpAny_lookBehind hoD (by rw [hdD]; exact pastItsLine_dict (Nat.le_trans hcD (by rw [List.length_cons]; omega))) ?_)
  exact wpAny_pure (h _ ⟨(hs2.2 _ (Ne.symm I.ne)).trans I.obj, hn2, I.ne⟩ hs2)
theorem make_map {R : Result → Shared → Prop} {vs : List Value} {kw : List (Str × Value)} (X : K.In s.heap) (hm : PySem.W.makesIn K C = true)
    (hi : PySem.W.findIn K (.ref C) "__init__" = some (some (.ref f))) (hf : PySem.W.typeIn K (.ref f) = some (.type "function"))
    (h : codeAny (model prog w) (A.under (.builtin "type.__call__" ⟨.ref C :: vs, kw⟩)) (.call (.ref f) ⟨.ref (s.heap.objs.size + 1) :: vs, kw⟩) (PySem.W.InitBack (s.heap.objs.size + 1) R)
      { s with heap := (s.heap.push PySem.W.emptyDict).push (PySem.W.instObj C s.heap.objs.size) }) :
    codeAny (model prog w) A (.call (.ref C) ⟨vs, kw⟩) R s := by
  obtain ⟨hh, g, d, t, os⟩ := s
  exact PySem.W.make_core (PySem.W.makes_of X hm) (PySem.W.looks_findIn X hi) (fun self => PySem.W.bind_fn X self hf) (.inl rfl) h
end
def putF (f : Str) (v : V) : List (Str × V) → List (Str × V)
  | [] => [(f, v)]
  | (g, x) :: r => if g = f then (g, v) :: r else (g, x) :: putF f v r
theorem lookup_putF (f g : Str) (v : V) : ∀ fs : List (Str × V), (putF f v fs).lookup g = if g = f then some v else fs.lookup g
  | [] => by
    show List.lookup g [(f, v)] = _
    by_cases h : g = f
    · have hb : (g == f) = true := beq_iff_eq.mpr h
      simp only [List.lookup, hb, if_pos h]
    · have hb : (g == f) = false := beq_eq_false_iff_ne.mpr h
      simp only [List.lookup, hb, if_neg h]
  | (k, x) :: r => by
    have ih := lookup_putF f g v r
    rw [show putF f v ((k, x) :: r) = (if k = f then (k, v) :: r else (k, x) :: putF f v r) from rfl]
    by_cases hk : k = f
    · rw [if_pos hk]
      by_cases h : g = k
      · have hb : (g == k) = true := beq_iff_eq.mpr h
        simp only [List.lookup, hb, if_pos (h.trans hk)]
      · have hb : (g == k) = false := beq_eq_false_iff_ne.mpr h
        simp only [List.lookup, hb, if_neg (fun e : g = f => h (e.trans hk.symm))]
    · rw [if_neg hk]
      by_cases h : g = k
      · have hb : (g == k) = true := beq_iff_eq.mpr h
        simp only [List.lookup, hb, if_neg (fun e : g = f => hk (h.symm.trans e))]
      · have hb : (g == k) = false := beq_eq_false_iff_ne.mpr h
        simp only [List.lookup, hb]
        exact ih
theorem keys_putF (f : Str) (v : V) : ∀ fs : List (Str × V), f ∈ (putF f v fs).map (·.1) ∧ ∀ g, g ∈ fs.map (·.1) → g ∈ (putF f v fs).map (·.1)
  | [] => ⟨by simp [putF], fun g h => by simp at h⟩
  | (k, x) :: r => by
    obtain ⟨i1, i2⟩ := keys_putF f v r
    rw [show putF f v ((k, x) :: r) = (if k = f then (k, v) :: r else (k, x) :: putF f v r) from rfl]
    by_cases hk : k = f
    · rw [if_pos hk]
      subst hk
      exact ⟨by simp, fun g h => by simpa using h⟩
    · rw [if_neg hk]
      refine ⟨?_, fun g h => ?_⟩
      · rw [List.map_cons]
        exact List.mem_cons_of_mem _ i1
      · rw [List.map_cons] at h ⊢
        rcases List.mem_cons.mp h with e | e
        · exact List.mem_cons.mpr (.inl e)
        · exact List.mem_cons_of_mem _ (i2 g e)
theorem length_putF (f : Str) (v : V) : ∀ fs : List (Str × V), (putF f v fs).length ≤ fs.length + 1
  | [] => by simp [putF]
  | (k, x) :: r => by
    have ih := length_putF f v r
    rw [show putF f v ((k, x) :: r) = (if k = f then (k, v) :: r else (k, x) :: putF f v r) from rfl]
    by_cases hk : k = f
    · rw [if_pos hk, List.length_cons, List.length_cons]; omega
    · rw [if_neg hk, List.length_cons, List.length_cons]; omega
theorem RelO.some_of {v : V} {o : Option Value} (r : RelO (some v) o) : ∃ u, o = some u ∧ RelV v u := by
  cases o with
  | none => exact (show False from r).elim
  | some u => exact ⟨u, rfl, r⟩
theorem RelO.none_of {o : Option Value} (r : RelO none o) : o = none := by
  cases o with
  | none => rfl
  | some u => exact (show False from r).elim
theorem handed_of {v : V} {u : Value} (r : RelV v u) : PySem.W.handedIn u = true := by
  cases v with
  | non => cases (show u = Value.none from r); rfl
  | bl b => cases (show u = Value.bool b from r); rfl
  | int i => obtain ⟨t, e⟩ := (show ∃ t, u = Value.int i t from r); cases e; rfl
  | str x => obtain ⟨t, e⟩ := (show ∃ t, u = Value.str x t from r); cases e; rfl
  | byt b => obtain ⟨t, e⟩ := (show ∃ t, u = Value.bytes b t from r); cases e; rfl
  | flt b => obtain ⟨t, e⟩ := (show ∃ t, u = Value.float b t from r); cases e; rfl
  | ref a => cases (show u = Value.ref a from r); rfl
  | ty n => cases (show u = Value.type n from r); rfl
section
variable {P : Program} {w : World} {H H' : Hp} {h h' : Heap} {a C dx : Addr} {fs fs' : List (Str × V)}
theorem ins_get (hok : HOk P w H h) (e : H a = some (.ins C dx fs)) : ∃ mA, ObjM h a dx C mA ∧ (∀ f, RelO (fs.lookup f) (mA f)) ∧ PySem.Within mA (fs.map (·.1)) ∧ fs.length ≤ 1000 ∧ H dx = some (.own a) := by
  obtain ⟨d, z, ne, ob, mA, n, r, q⟩ := (show ObjOk P w H h a (.ins C dx fs) from hok a _ e)
  exact ⟨mA, ⟨ob, n, ne⟩, r, q, z, d⟩
end
structure Cls (K : PySem.W.Frag) (C : Addr) : Prop where
  pg : PySem.W.plainGet K C Str.empty = true
  hd : PySem.W.hasDictIn K C = true
  po : PySem.W.plainOver K C = true
  sa : PySem.W.findIn K (.ref C) "__setattr__" = some (some (.builtin "object.__setattr__"))
theorem Cls.get {K : PySem.W.Frag} {C : Addr} (c : Cls K C) (f : Str) : PySem.W.plainGet K C f = true := c.pg
def NoAttr (K : PySem.W.Frag) (C : Addr) (f : Str) : Prop := PySem.W.findIn K (.ref C) f = some none
theorem NoAttr.taker {K : PySem.W.Frag} {C : Addr} {f : Str} (n : NoAttr K C f) : PySem.W.takerIn K C f = some none := by
  unfold PySem.W.takerIn
  rw [show PySem.W.findIn K (.ref C) f = some none from n]
  rfl
structure Con (K : PySem.W.Frag) (C : Addr) (f : Str) (v : V) (u : Value) : Prop where
  at_ : PySem.W.findIn K (.ref C) f = some (some u)
  rel : RelV v u
  get : PySem.W.specialIn K u "__get__" = some none
  cp : PySem.W.copiedNames.contains f = false
section
variable {X : Cx} {pins : List (Addr × Obj)} {σ : St} {H : Hp} {s : Shared} {a C dx : Addr} {fs : List (Str × V)} {f : Str} {v : V} {A : Around} {E : Value → Shared → Prop}
theorem getattr_ok {b : Bool} {Q : Value → Shared → Prop} (I : Inv X pins σ H s) (e : H a = some (.ins C dx fs)) (c : Cls X.K C) (n : NoAttr X.K C f) (l : fs.lookup f = some v)
    (h : ∀ u s', Inv X pins σ H s' → RelV v u → Q u s') : wpAny (model X.prog X.w) A (getAttr (.ref a) f b) Q E s := by
  obtain ⟨mA, O, r, _, _, _⟩ := ins_get I.hok e
  obtain ⟨u, hu, ru⟩ := RelO.some_of (v := v) (o := mA f) (by rw [← l]; exact r f)
  exact get_map I.kIn O (c.get f) c.hd n hu (handed_of ru) (h u _ (I.tok _) ru)
theorem getcon_ok {b : Bool} {u : Value} {Q : Value → Shared → Prop} (I : Inv X pins σ H s) (e : H a = some (.ins C dx fs)) (c : Cls X.K C) (k : Con X.K C f v u) (l : fs.lookup f = none)
    (h : ∀ s', Inv X pins σ H s' → Q u s') : wpAny (model X.prog X.w) A (getAttr (.ref a) f b) Q E s := by
  obtain ⟨mA, O, r, _, _, _⟩ := ins_get I.hok e
  have hn : mA f = none := RelO.none_of (by rw [← l]; exact r f)
  exact get_const I.kIn O (c.get f) c.hd k.at_ k.get k.cp hn (handed_of k.rel) (h _ (I.tok _))
theorem setattr_ok {y : V} {u : Value} {Q : Unit → Shared → Prop} (I : Inv X pins σ H s) (e : H a = some (.ins C dx fs)) (c : Cls X.K C) (n : NoAttr X.K C f) (hl : fs.length < 1000) (ry : RelV y u)
    (h : ∀ s', Inv X pins σ (upd H a (.ins C dx (putF f y fs))) s' → Q () s') : wpAny (model X.prog X.w) A (setAttr (.ref a) f u) Q E s := by
  obtain ⟨mA, O, r, wi, _, ho⟩ := ins_get I.hok e
  have hz : (fs.map (·.1)).length ≤ sizeLine := by rw [List.length_map, sizeLine_eq]; omega
  refine set_map I.kIn O c.sa c.po n.taker c.hd wi hz fun h' O' sb => h _ ?_
  have hd : ∃ o, h'.get? dx = some o := let ⟨o, _, _, e', _⟩ := O'.ns; ⟨o, e'⟩
  refine I.write (x := a) (e := dx) (by rw [e]; exact True.intro) (.inr ho) (fun b q hb z => (sb.2 b hb).trans z) hd ?_
  refine ⟨by rw [upd_ne O.ne]; exact ho, ?_, O.ne, O'.obj, _, O'.ns, fun g => ?_, fun g hg => ?_⟩
  · have := length_putF f y fs; omega
  · show RelO ((putF f y fs).lookup g) (if g = f then some u else mA g)
    rw [lookup_putF]
    by_cases q : g = f
    · rw [if_pos q, if_pos q]; exact ry
    · rw [if_neg q, if_neg q]; exact r g
  · by_cases q : g = f
    · rw [q]; exact (keys_putF f y fs).1
    · refine (keys_putF f y fs).2 g (wi g fun z => hg ?_)
      show (if g = f then some u else mA g) = none
      rw [if_neg q]; exact z
theorem Inv.made (I : Inv X pins σ H s) : Inv X pins σ (upd (upd H s.heap.objs.size (.own (s.heap.objs.size + 1))) (s.heap.objs.size + 1) (.ins C s.heap.objs.size []))
    { s with heap := (s.heap.push PySem.W.emptyDict).push (PySem.W.instObj C s.heap.objs.size) } := by
  have e1 : (s.heap.push PySem.W.emptyDict).get? s.heap.objs.size = some PySem.W.emptyDict := Heap.get?_push_size s.heap rfl
  have e2 : ((s.heap.push PySem.W.emptyDict).push (PySem.W.instObj C s.heap.objs.size)).get? (s.heap.objs.size + 1) = some (PySem.W.instObj C s.heap.objs.size) := by
    have := Heap.get?_push_size (s.heap.push PySem.W.emptyDict) (o := PySem.W.instObj C s.heap.objs.size) rfl
    rwa [Heap.size_push] at this
  have e3 : (s.heap.push PySem.W.emptyDict).Ns s.heap.objs.size (fun _ => none) := ⟨PySem.W.emptyDict, #[], _, e1, rfl, (fun e he => absurd he (by simp)), fun _ => rfl⟩
  have I1 := I.laid (a := s.heap.objs.size) (o := .own (s.heap.objs.size + 1)) (h' := s.heap.push PySem.W.emptyDict) (t' := s.toks) (fun b u q => Heap.get?_push_of_some _ q) (Nat.le_refl _) ⟨_, e1⟩
  refine I1.laid (a := s.heap.objs.size + 1) (o := .ins C s.heap.objs.size []) (t' := s.toks) (fun b u q => Heap.get?_push_of_some _ q) (Nat.le_of_eq (Heap.size_push _ _)) ?_
  have ne : s.heap.objs.size ≠ s.heap.objs.size + 1 := Nat.ne_of_lt (Nat.lt_succ_self _)
  refine ⟨by rw [upd_ne ne, upd_same], Nat.zero_le _, ne, e2, fun _ => none, (Heap.Ns1.of_empty e3).at fun o q => Heap.get?_push_of_some _ q, fun _ => True.intro, fun y hy => absurd rfl hy⟩
theorem attr_of {prog : Program} {w : World} {env : Env} {e : Expr} {f : Str} {pos : Pos} {s : Shared} {Q : Value → Shared → Prop} (hb : attributeBase e f env (eval e env) = eval e env)
    (h : wpAny (model prog w) A (eval e env) (fun o s₁ => wpAny (model prog w) A (getAttr o f true) Q E s₁) E s) : wpAny (model prog w) A (eval (.Attribute e f pos) env) Q E s :=
  Attribute_any_ h (by rw [arm_eval_Attribute, hb])
end
def tFld (K : PySem.W.Frag) (ta : TE) (f : Str) : TE := fun σ H Q => ta σ H fun x H1 => ∃ a C dx fs v, x = .ref a ∧ H1 a = some (.ins C dx fs) ∧ Cls K C ∧ NoAttr K C f ∧ fs.lookup f = some v ∧ Q v H1
def tCon (K : PySem.W.Frag) (ta : TE) (f : Str) : TE := fun σ H Q => ta σ H fun x H1 => ∃ a C dx fs v u, x = .ref a ∧ H1 a = some (.ins C dx fs) ∧ Cls K C ∧ Con K C f v u ∧ fs.lookup f = none ∧ Q v H1
def sFld (K : PySem.W.Frag) (ta tv : TE) (f : Str) : TS := fun D σ H => tv σ H fun y H1 => ta σ H1 fun x H2 => ∃ a C dx fs, x = .ref a ∧ H2 a = some (.ins C dx fs) ∧ Cls K C ∧ NoAttr K C f ∧ fs.length < 1000 ∧
  D.nx σ (upd H2 a (.ins C dx (putF f y fs)))
section
variable {X : Cx} {o e value : Expr} {f : Str} {pos pos' tpos : Pos} {ta tv : TE}
theorem pe_fld (he : PE X e ta) (hb : attributeBase e f X.env (eval e X.env) = eval e X.env) : PE X (.Attribute e f pos) (tFld X.K ta f) := by
  intro pins s σ H Q I h
  refine attr_of hb (thn (he pins s σ H _ I h) fun u s1 ⟨x, H1, I1, rx, a, C, dx, fs, v, ex, ea, c, n, l, q⟩ => ?_)
  subst ex
  obtain rfl : u = Value.ref a := rx
  exact getattr_ok I1 ea c n l fun u' s2 I2 ru => ⟨v, H1, I2, ru, q⟩
theorem pe_con (he : PE X e ta) (hb : attributeBase e f X.env (eval e X.env) = eval e X.env) : PE X (.Attribute e f pos) (tCon X.K ta f) := by
  intro pins s σ H Q I h
  refine attr_of hb (thn (he pins s σ H _ I h) fun u s1 ⟨x, H1, I1, rx, a, C, dx, fs, v, u0, ex, ea, c, k, l, q⟩ => ?_)
  subst ex
  obtain rfl : u = Value.ref a := rx
  exact getcon_ok I1 ea c k l fun s2 I2 => ⟨v, H1, I2, k.rel, q⟩
theorem ps_fld (ha : PE X o ta) (hv : PE X value tv) (hs : swapsWith value (some (.Attribute o f pos')) pos.line X.env = pure false) : PS X (.Assign [.Attribute o f pos'] value pos) (sFld X.K ta tv f) := by
  intro pins s σ H D I h
  refine plainObj_wpAny_Assign_Attribute (thn (hv pins s σ H _ I h) fun u s1 ⟨y, H1, I1, ry, q⟩ => thn (ha pins s1 σ H1 _ I1 q) fun ov s2 ⟨x, H2, I2, rx, a, C, dx, fs, ex, ea, c, n, l, q2⟩ => ?_) hs
  subst ex
  obtain rfl : ov = Value.ref a := rx
  exact setattr_ok I2 ea c n l ry fun s3 I3 => ⟨σ, _, I3, q2⟩
end
section
variable {X : Cx} {pins : List (Addr × Obj)} {σ : St} {H : Hp} {s : Shared} {A : Around} {E : Value → Shared → Prop} {Q : Value → Shared → Prop} {c : Value} {b : Bool}
end
end L2
namespace L2
open PySem PySem.Spec PyProof.Rows
structure Room (k : Nat) (A : Around) : Prop where
  hd : A.handled = none
  dp : A.depth + 3 * k + 5 < recursionLimit
  un : A.units + 16 * k + 200 < cLine
theorem Room.mono {j k : Nat} {A : Around} (r : Room k A) (h : j ≤ k) : Room j A := ⟨r.hd, by have := r.dp; omega, by have := r.un; omega⟩
theorem Room.deeper {k : Nat} {A : Around} (r : Room (k + 1) A) (env : Env) : Room k (A.deeper env) :=
  ⟨r.hd, by have := r.dp; show A.depth + 1 + 3 * k + 5 < _; omega, by have := r.un; show A.units + 3 + 16 * k + 200 < _; omega⟩
theorem Room.in1 {k : Nat} {A : Around} (r : Room (k + 1) A) : Room k A.in1 :=
  ⟨r.hd, by have := r.dp; show A.depth + 3 * k + 5 < _; omega, by have := r.un; show A.units + 1 + 16 * k + 200 < _; omega⟩
theorem make_depth {A : Around} {C : Addr} {us : List Value} {kw : List (Str × Value)} : (A.under (.builtin "type.__call__" ⟨.ref C :: us, kw⟩)).depth = A.depth + 1 := by
  first | rfl | simp [Around.under, Code.weight, Code.isCreation, Code.isGuard, Code.isCaller, Code.frames, Code.isFrame, guardIds]
theorem make_units {A : Around} {C : Addr} {us : List Value} {kw : List (Str × Value)} : (A.under (.builtin "type.__call__" ⟨.ref C :: us, kw⟩)).units = A.units + 1 := by
  first | rfl | simp [Around.under, Code.cUnits, Code.frames, Code.isFrame]
theorem Room.make {k : Nat} {A : Around} (r : Room (k + 1) A) (C : Addr) (us : List Value) (kw : List (Str × Value)) : Room k (A.under (.builtin "type.__call__" ⟨.ref C :: us, kw⟩)) :=
  ⟨r.hd, by have := r.dp; rw [make_depth]; omega, by have := r.un; rw [make_units]; omega⟩
theorem Room.depth {k : Nat} {A : Around} (r : Room k A) : A.depth < recursionLimit := by have := r.dp; omega
theorem Room.units {k : Nat} {A : Around} (r : Room k A) : A.units + 64 < cLine := by have := r.un; omega
def tNil : TA := fun _ H Q => Q [] H
def tCons (ta : TE) (tr : TA) : TA := fun σ H Q => ta σ H fun x H1 => tr σ H1 fun xs H2 => Q (x :: xs) H2
section
variable {X : Cx} {e : Expr} {es : List Expr} {te : TE} {t : TA} {pos : Pos}
theorem pa_nil : PA X [] tNil := fun _ _ _ _ H Q I h => Calls.spliced_nil ⟨[], H, I, .nil, h⟩
theorem pa_cons (ha : PE X e te) (hr : PA X es t) (hs : starEach (e :: es) X.env = (false, eval e X.env) :: starEach es X.env := by rfl) : PA X (e :: es) (tCons te t) := by
  intro pos pins s σ H Q I h
  rw [hs]
  show wpAny _ _ (spliced ((false, eval e X.env) :: backTo pos (starEach es X.env))) _ _ s
  refine Calls.spliced_cons (thn (ha pins s σ H _ I h) fun u s1 ⟨x, H1, I1, r1, q1⟩ => ?_)
  exact thn (hr pos pins s1 σ H1 _ I1 q1) fun us s2 ⟨xs, H2, I2, r2, q2⟩ => ⟨x :: xs, H2, I2, .cons r1 r2, q2⟩
def tTup (t : TA) : TE := fun σ H Q => t σ H fun xs H1 => xs.length ≤ sizeLine ∧ ∀ p, H1 p = none → Q (.ref p) (upd H1 p (.tup xs))
def tLst (t : TA) : TE := fun σ H Q => t σ H fun xs H1 => xs.length ≤ sizeLine ∧ ∀ p, H1 p = none → Q (.ref p) (upd H1 p (.lst xs))
theorem pe_tup {x1} (h : PA X es t) : PE X (.Tuple es x1 pos) (tTup t) := by
  intro pins s σ H Q I hq
  refine wpAny_Tuple_spliced (thn (h pos pins s σ H _ I hq) fun us s1 ⟨xs, H1, I1, r, z, q⟩ => ⟨by rw [← r.length]; exact z, ?_⟩)
  have hf : H1 s1.heap.objs.size = none := I1.hok.fresh (Nat.le_refl _)
  refine ⟨.ref s1.heap.objs.size, upd H1 s1.heap.objs.size (.tup xs), I1.laid (t' := s1.toks) (fun b u e => Heap.get?_push_of_some _ e) (Nat.le_refl _) ?_, rfl, q _ hf⟩
  exact ⟨z, us, r, ⟨_, Heap.get?_push_size _ rfl, rfl, _, rfl⟩⟩
theorem pe_lst (h : PA X es t) : PE X (.List es pos) (tLst t) := by
  intro pins s σ H Q I hq
  refine wpAny_List_spliced (thn (h pos pins s σ H _ I hq) fun us s1 ⟨xs, H1, I1, r, z, q⟩ => ⟨by rw [← r.length]; exact z, ?_⟩)
  have hf : H1 s1.heap.objs.size = none := I1.hok.fresh (Nat.le_refl _)
  refine ⟨.ref s1.heap.objs.size, upd H1 s1.heap.objs.size (.lst xs), I1.laid (t' := s1.toks) (fun b u e => Heap.get?_push_of_some _ e) (Nat.le_refl _) ?_, rfl, q _ hf⟩
  exact ⟨z, us, 0, r, Heap.get?_push_size _ rfl⟩
end
abbrev Sp := List V → Hp → VK → XK → Prop
abbrev CXT := List Env → Hp → Shared → XK → Value → Shared → Prop
structure Env0 (P : Program) (w : World) (K : PySem.W.Frag) (mg : Str → Option Value) (base : Heap) (A : Around) (outer : List Env) (s : Shared) (H : Hp) : Prop where
  frames : A.frames = some outer
  mod : Mod K mg base
  bs : ∀ b o, base.get? b = some o → s.heap.get? b = some o ∧ H b = none
  bsz : base.objs.size ≤ s.heap.objs.size
  funs : s.heap.FunFrames base outer
  frf : ∀ b ∈ frs outer, H b = none
  hok : HOk P w H s.heap
  bare : AllBare s.gens
def CE (outer : List Env) (P : Program) (w : World) (H : Hp) (s : Shared) (Q : VK) (u : Value) (s' : Shared) : Prop :=
  ∃ v H', s'.os = s.os ∧ AllBare s'.gens ∧ Un (frs outer) [] H H' s.heap s'.heap ∧ HOk P w H' s'.heap ∧ RelV v u ∧ Q v H'
def CR (CX : CXT) (outer : List Env) (P : Program) (w : World) (H : Hp) (s : Shared) (Q : VK) (E : XK) (r : Result) (s' : Shared) : Prop :=
  match r with
  | .ok (.ret u) => CE outer P w H s Q u s'
  | .ok _ => False
  | .error e => CX outer H s E e s'
structure FnOk (P : Program) (w : World) (K : PySem.W.Frag) (mg : Str → Option Value) (base : Heap) (CX : CXT) (k : Nat) (f : Addr) (fd : FuncData) (ps : List Str) (sp : Sp) : Prop where
  len : ∀ vs H Q E, sp vs H Q E → vs.length = ps.length
  run : ∀ (A : Around) (outer : List Env) (s : Shared) (H : Hp) (args : Args) (us : List Value) (vs : List V) (Q : VK) (E : XK), Room k A → Env0 P w K mg base A outer s H → BindsTo s fd args (ps.zip us) → Vals vs us → sp vs H Q E →
    codeAny (model P w) A (.call (.ref f) args) (CR CX outer P w H s Q E) s
theorem FnOk.mono {P : Program} {w : World} {K : PySem.W.Frag} {mg : Str → Option Value} {base : Heap} {CX : CXT} {j k : Nat} {f : Addr} {fd : FuncData} {ps : List Str} {sp : Sp} (F : FnOk P w K mg base CX j f fd ps sp) (h : j ≤ k) :
    FnOk P w K mg base CX k f fd ps sp := ⟨F.len, fun A outer s H args us vs Q E hr => F.run A outer s H args us vs Q E (hr.mono h)⟩
theorem FnOk.imp {P : Program} {w : World} {K : PySem.W.Frag} {mg : Str → Option Value} {base : Heap} {CX : CXT} {k : Nat} {f : Addr} {fd : FuncData} {ps : List Str} {sp sp' : Sp} (F : FnOk P w K mg base CX k f fd ps sp)
    (h : ∀ vs H Q E, sp' vs H Q E → sp vs H Q E) : FnOk P w K mg base CX k f fd ps sp' :=
  ⟨fun vs H Q E q => F.len vs H Q E (h _ _ _ _ q), fun A outer s H args us vs Q E hr he hb hv hs => F.run A outer s H args us vs Q E hr he hb hv (h _ _ _ _ hs)⟩
theorem Env0.make {P : Program} {w : World} {K : PySem.W.Frag} {mg : Str → Option Value} {base : Heap} {A : Around} {outer : List Env} {s : Shared} {H : Hp} (e : Env0 P w K mg base A outer s H) (C : Addr) (us : List Value) (kw : List (Str × Value)) :
    Env0 P w K mg base (A.under (.builtin "type.__call__" ⟨.ref C :: us, kw⟩)) outer s H := ⟨by first | exact e.frames | (simpa [Around.under, Code.envs, Code.isFrame, pushEnvs] using e.frames), e.mod, e.bs, e.bsz, e.funs, e.frf, e.hok, e.bare⟩
theorem Env0.in1 {P : Program} {w : World} {K : PySem.W.Frag} {mg : Str → Option Value} {base : Heap} {A : Around} {outer : List Env} {s : Shared} {H : Hp} (e : Env0 P w K mg base A outer s H) :
    Env0 P w K mg base A.in1 outer s H := ⟨e.frames, e.mod, e.bs, e.bsz, e.funs, e.frf, e.hok, e.bare⟩
section
variable {X : Cx} {pins : List (Addr × Obj)} {σ : St} {H : Hp} {s s' : Shared}
theorem Inv.env0 (I : Inv X pins σ H s) : Env0 X.prog X.w X.K X.mg X.base X.A X.stack s H :=
  ⟨I.ok.frames, I.ok.mod, I.bs, Nat.le_trans I.ok.bsz I.sz, I.stack, I.stkFree, I.hok, I.bare⟩
theorem Inv.after {Q : VK} {u : Value} (I : Inv X pins σ H s) (h : CE X.stack X.prog X.w H s Q u s') : EP X pins σ Q u s' := by
  obtain ⟨v, H', os, bare, un, hok, r, q⟩ := h
  obtain ⟨hh, g, d, t, os'⟩ := s'
  obtain rfl : os' = s.os := os
  exact ⟨v, H', I.call (h' := hh) (g' := g) (d' := d) (t' := t) (ch := []) un hok bare (fun b z => absurd z (by simp)), r, q⟩
end
def tCall (sp : Sp) (dvs : List V) (E : XK) (t : TA) : TE := fun σ H Q => t σ H fun vs H1 => sp (vs ++ dvs) H1 Q E
def tMake (C : Addr) (sp : Sp) (dvs : List V) (E : XK) (t : TA) : TE := fun σ H Q => t σ H fun vs H1 => ∀ x dx, H1 x = none → H1 dx = none → dx ≠ x →
  sp (.ref x :: (vs ++ dvs)) (upd (upd H1 dx (.own x)) x (.ins C dx [])) (fun v H2 => v = .non ∧ Q (.ref x) H2) E
def Binds (K : PySem.W.Frag) (fd : FuncData) (ps : List Str) (ds : List Value) : Prop :=
  ∀ (s : Shared) (us : List Value), K.In s.heap → (us ++ ds).length = ps.length → BindsTo s fd ⟨us, []⟩ (ps.zip (us ++ ds))
theorem Binds.all {K : PySem.W.Frag} {fd : FuncData} {ps : List Str} (h : ∀ us : List Value, us.length = ps.length → bindArgs fd ⟨us, []⟩ = pure (ps.zip us)) : Binds K fd ps [] := fun s us _ hl => by
  rw [List.append_nil] at hl ⊢
  exact .of_eq (h us hl)
def Passes (CX : CXT) (X : Cx) (E : XK) : Prop := ∀ (pins : List (Addr × Obj)) (σ : St) (H : Hp) (s : Shared) (e : Value) (s' : Shared), Inv X pins σ H s → CX X.stack H s E e s' → X.xe e s'
section
variable {X : Cx} {CX : CXT} {k : Nat} {f C : Addr} {fd : FuncData} {ps : List Str} {sp : Sp} {dvs : List V} {ds : List Value} {E : XK} {x m : Str} {p pos apos : Pos} {e o : Expr} {es : List Expr} {ta : TE} {t : TA}
theorem run_fn {pins : List (Addr × Obj)} {σ : St} {H : Hp} {s : Shared} {Q : VK} {us : List Value} {vs : List V} (F : FnOk X.prog X.w X.K X.mg X.base CX k f fd ps sp) (hr : Room k X.A) (hb : Binds X.K fd ps ds) (hd : Vals dvs ds) (hx : Passes CX X E)
    (I : Inv X pins σ H s) (r : Vals vs us) (h : sp (vs ++ dvs) H Q E) : wpAny (model X.prog X.w) X.A (call (.ref f) us) (EP X pins σ Q) X.xe s := by
  have r2 : Vals (vs ++ dvs) (us ++ ds) := r.append hd
  have hl : (us ++ ds).length = ps.length := by rw [← r2.length]; exact F.len _ _ _ _ h
  refine wpAny_call (codeAny_mono (F.run X.A X.stack s H ⟨us, []⟩ (us ++ ds) (vs ++ dvs) Q E hr I.env0 (hb s us I.kIn hl) r2 h) fun r s' hq => ?_)
  cases r with
  | error e => exact hx pins σ H s e s' I hq
  | ok fl =>
    cases fl with
    | ret u => exact I.after hq
    | next => exact False.elim hq
    | brk => exact False.elim hq
    | cont => exact False.elim hq
theorem pe_call (F : FnOk X.prog X.w X.K X.mg X.base CX k f fd ps sp) (hr : Room k X.A) (hg : Gl X x) (hm : X.mg x = some (.ref f)) (hk : PySem.W.keepIn X.K (.ref f) = true) (hb : Binds X.K fd ps ds) (hd : Vals dvs ds) (hx : Passes CX X E)
    (ha : PA X (e :: es) t) (hdb : (x == ("__debug__" : Str)) = false := by decide) (he : starEach (e :: es) X.env = (false, eval e X.env) :: starEach es X.env := by rfl) (hpl : (backTo pos (starEach es X.env)).any (·.1) = false := by rfl) :
    PE X (.Call (.Name x p) (e :: es) [] pos) (tCall sp dvs E t) := by
  intro pins s σ H Q I h
  refine wpAny_Call_Name_kw (ld_glob I hg hm ?_ hdb)
  refine PySem.W.callWith_K (h₀ := X.base) I.ok.mod.kin hk (thn (ha pos pins s σ H _ I h) fun us s1 ⟨vs, H1, I1, r, q⟩ => ⟨I1.kIn, ?_⟩) he hpl
  exact run_fn F hr hb hd hx I1 r q
structure Mk (K : PySem.W.Frag) (C f : Addr) : Prop where
  makes : PySem.W.makesIn K C = true
  init : PySem.W.findIn K (.ref C) "__init__" = some (some (.ref f))
  fn : PySem.W.isFn K (.ref f) = true
  kp : PySem.W.keepIn K (.ref C) = true
theorem run_make {pins : List (Addr × Obj)} {σ : St} {H : Hp} {s : Shared} {Q : VK} {us : List Value} {vs : List V} (M : Mk X.K C f) (F : FnOk X.prog X.w X.K X.mg X.base CX k f fd ps sp) (hr : Room (k + 1) X.A) (hb : Binds X.K fd ps ds) (hd : Vals dvs ds)
    (hx : Passes CX X E) (I : Inv X pins σ H s) (r : Vals vs us)
    (h : ∀ x dx, H x = none → H dx = none → dx ≠ x → sp (.ref x :: (vs ++ dvs)) (upd (upd H dx (.own x)) x (.ins C dx [])) (fun v H2 => v = .non ∧ Q (.ref x) H2) E) :
    wpAny (model X.prog X.w) X.A (call (.ref C) us) (EP X pins σ Q) X.xe s := by
  have hq := h (s.heap.objs.size + 1) s.heap.objs.size (I.hok.fresh (Nat.le_succ _)) (I.hok.fresh (Nat.le_refl _)) (Nat.ne_of_lt (Nat.lt_succ_self _))
  have I2 := Inv.made (C := C) I
  have r2 : Vals (V.ref (s.heap.objs.size + 1) :: (vs ++ dvs)) (Value.ref (s.heap.objs.size + 1) :: (us ++ ds)) := .cons rfl (r.append hd)
  have hl : (Value.ref (s.heap.objs.size + 1) :: us ++ ds).length = ps.length := by
    have e := r2.length
    rw [F.len _ _ _ _ hq] at e
    exact e.symm
  refine wpAny_call (make_map (f := f) I.kIn M.makes M.init (beq_iff_eq.mp M.fn) (codeAny_mono (F.run _ X.stack _ _ ⟨Value.ref (s.heap.objs.size + 1) :: us, []⟩ (Value.ref (s.heap.objs.size + 1) :: (us ++ ds)) _ _ E (hr.make C us [])
    (I2.env0.make C us []) (hb _ (Value.ref (s.heap.objs.size + 1) :: us) I2.kIn hl) r2 hq) fun r s' hq' => ?_))
  cases r with
  | error e => exact hx pins σ _ _ e s' I2 hq'
  | ok fl =>
    cases fl with
    | ret u =>
      obtain ⟨v, H', I3, rv, ev, q3⟩ := I2.after hq'
      subst ev
      exact ⟨rv, ⟨V.ref (s.heap.objs.size + 1), H', I3, rfl, q3⟩⟩
    | next => exact False.elim hq'
    | brk => exact False.elim hq'
    | cont => exact False.elim hq'
theorem pe_make0 (M : Mk X.K C f) (F : FnOk X.prog X.w X.K X.mg X.base CX k f fd ps sp) (hr : Room (k + 1) X.A) (hg : Gl X x) (hm : X.mg x = some (.ref C)) (hb : Binds X.K fd ps ds) (hd : Vals dvs ds) (hx : Passes CX X E)
    (hdb : (x == ("__debug__" : Str)) = false := by decide) : PE X (.Call (.Name x p) [] [] pos) (tMake C sp dvs E tNil) := by
  intro pins s σ H Q I h
  refine wpAny_Call_Name_kw (ld_glob I hg hm ?_ hdb)
  exact PySem.W.callWith_K0 I.kIn M.kp (run_make (us := []) M F hr hb hd hx I .nil h)
end
section
variable {X : Cx} {CX : CXT} {k : Nat} {f C : Addr} {fd : FuncData} {ps ks : List Str} {sp : Sp} {E : XK} {x m : Str} {p pos apos kpos : Pos} {e o : Expr} {es : List Expr} {kws : List Keyword} {te ta : TE} {t tk : TA} {nm : Option Str}
variable {g : List Value → List Value → List Value} {gV : List V → List V → List V}
end
structure FnScope (N P : List Str) (sc : Scope) : Prop where
  kind : sc.kind = .function
  co : sc.isCoroutine = false
  gen : sc.isGenerator = false
  nd : N.Nodup
  pre : N.take P.length = P
  par : ∀ x ∈ P, sc.names.lookup x = some .local ∨ sc.names.lookup x = some .cell
  nofree : ∀ y ∈ sc.names, y.2 ≠ .free
theorem bindL_out {kindOf : Str → Option NameKind} {x : Str} : ∀ {binds : List (Str × Value)} {m : Str → Option Value}, (∀ v, (x, v) ∉ binds) → bindL kindOf binds m x = m x
  | [], _, _ => rfl
  | (n, v) :: r, m, h => by
    unfold bindL
    rw [bindL_out fun w hw => h w (List.mem_cons_of_mem _ hw)]
    split
    · have : x ≠ n := by rintro rfl; exact h v List.mem_cons_self
      simp [this]
    · rfl
theorem bindC_out {kindOf : Str → Option NameKind} {x : Str} : ∀ {binds : List (Str × Value)} {m : Str → Option Value}, (∀ v, (x, v) ∉ binds) → bindC kindOf binds m x = m x
  | [], _, _ => rfl
  | (n, v) :: r, m, h => by
    unfold bindC
    rw [bindC_out fun w hw => h w (List.mem_cons_of_mem _ hw)]
    split
    · rfl
    · have : x ≠ n := by rintro rfl; exact h v List.mem_cons_self
      simp [this]
theorem bindL_get {kindOf : Str → Option NameKind} {x : Str} {v : Value} : ∀ {P : List Str} {vs : List Value} {i : Nat} {m : Str → Option Value}, P.Nodup → P[i]? = some x → vs[i]? = some v → kindOf x = some .local →
    bindL kindOf (P.zip vs) m x = some v
  | [], _, _, _, _, h, _, _ => by simp at h
  | _ :: _, [], _, _, _, _, h, _ => by simp at h
  | p :: P, w :: vs, 0, m, nd, h1, h2, hk => by
    simp at h1 h2; subst h1; subst h2
    show bindL kindOf ((p, w) :: P.zip vs) m p = _
    unfold bindL
    rw [bindL_out fun v hv => (List.nodup_cons.mp nd).1 (List.of_mem_zip hv).1, if_pos hk]
    simp
  | p :: P, w :: vs, i + 1, m, nd, h1, h2, hk => by
    show bindL kindOf ((p, w) :: P.zip vs) m x = _
    unfold bindL
    exact bindL_get (i := i) (List.nodup_cons.mp nd).2 (by simpa using h1) (by simpa using h2) hk
theorem bindC_get {kindOf : Str → Option NameKind} {x : Str} {v : Value} : ∀ {P : List Str} {vs : List Value} {i : Nat} {m : Str → Option Value}, P.Nodup → P[i]? = some x → vs[i]? = some v → kindOf x ≠ some .local →
    bindC kindOf (P.zip vs) m x = some v
  | [], _, _, _, _, h, _, _ => by simp at h
  | _ :: _, [], _, _, _, _, h, _ => by simp at h
  | p :: P, w :: vs, 0, m, nd, h1, h2, hk => by
    simp at h1 h2; subst h1; subst h2
    show bindC kindOf ((p, w) :: P.zip vs) m p = _
    unfold bindC
    rw [bindC_out fun v hv => (List.nodup_cons.mp nd).1 (List.of_mem_zip hv).1, if_neg hk]
    simp
  | p :: P, w :: vs, i + 1, m, nd, h1, h2, hk => by
    show bindC kindOf ((p, w) :: P.zip vs) m x = _
    unfold bindC
    exact bindC_get (i := i) (List.nodup_cons.mp nd).2 (by simpa using h1) (by simpa using h2) hk
def start (N : List Str) (vs : List V) : St := vs.map some ++ List.replicate (N.length - vs.length) none
def cxOf (CX : CXT) (P : Program) (w : World) (K : PySem.W.Frag) (mg : Str → Option Value) (base : Heap) (N : List Str) (qual : Str) (scope : Scope) (f : Addr) (cd : Value) (A : Around) (outer : List Env) (s : Shared) (H : Hp) (E : XK) : Cx where
  prog := P
  w := w
  K := K
  mg := mg
  base := base
  A := A.deeper (envOfC qual scope s.heap.objs.size f cd)
  N := N
  s_0 := s
  H_0 := H
  env := envOfC qual scope s.heap.objs.size f cd
  outer := outer
  stack := envOfC qual scope s.heap.objs.size f cd :: outer
  ex := []
  calm := true
  fn := fun _ => true
  pn := []
  xe := fun e s' => wpAny (model P w) (A.deeper (envOfC qual scope s.heap.objs.size f cd)) (leaving (envOfC qual scope s.heap.objs.size f cd) e) (fun _ s'' => CX outer H s E e s'') (fun e' s'' => CX outer H s E e' s'') s'
theorem cell_has {sc : Scope} {n : Nat} {x : Str} (h : sc.names.lookup x = some .cell) : ∃ c, (cellsFrom n sc.names []).lookup x = some c := by
  have q := PySem.W.cellsFrom_some sc.names n [] (.inl h)
  exact Option.isSome_iff_exists.mp q
theorem inv_start {CX : CXT} {P : Program} {w : World} {K : PySem.W.Frag} {mg : Str → Option Value} {base : Heap} {N ps : List Str} {qual : Str} {scope : Scope} {f : Addr} {cd : Value} {A : Around} {outer : List Env} {s s1 : Shared} {H : Hp} {E : XK} {us : List Value} {vs : List V}
    (S : FnScope N ps scope) (hd : A.handled = none) (e0 : Env0 P w K mg base A outer s H) (hl : vs.length = ps.length) (r : Vals vs us)
    (x : InCallC s s.heap.objs.size (bindL (envOfC qual scope s.heap.objs.size f cd).kindOf (ps.zip us) fun _ => none) (cellsFrom (s.heap.objs.size + 1) scope.names []) (bindC (envOfC qual scope s.heap.objs.size f cd).kindOf (ps.zip us) fun _ => none) s1) :
    Inv (cxOf CX P w K mg base N qual scope f cd A outer s H E) [] (start N vs) H s1 := by
  have hpl : ps.length ≤ N.length := by have := congrArg List.length S.pre; rw [List.length_take] at this; omega
  obtain ⟨h1, tk, rfl, hk⟩ := x.done
  have noA : ∀ b : Addr, b ∉ (cxOf CX P w K mg base N qual scope f cd A outer s H E).ex := fun b z => absurd (show b ∈ ([] : List Addr) from z) (by simp)
  refine ⟨⟨e0.mod, S.kind, rfl, rfl, Nat.le_refl _, fun y z c h1 h2 => ?_, fun y hy => ?_, fun y c _ h => ?_, fun _ => hd, Around.frames_deeper e0.frames, .inr ⟨rfl, rfl⟩, fun b z => absurd z (noA b), e0.bs, e0.bsz, fun b _ _ => noA b, fun b z => absurd z (noA b), e0.funs, e0.frf⟩,
    rfl, e0.bare, Un.kept hk, ⟨_, x.toInCall.ns, fun i y v h1 h2 h3 => ?_⟩, fun y c h => ⟨_, x.cell y c h⟩, e0.hok.fresh (Nat.le_refl _), fun y c h => ?_, fun p hp => absurd (show p ∈ ([] : List (Addr × Obj)) from hp) (by simp), e0.hok.kept hk, ?_⟩
  · exact name_of_addr x.apart (PySem.mem_of_lookup h1) (PySem.mem_of_lookup h2)
  · have hy : scope.names.lookup y = some .cell ∨ scope.names.lookup y = some .free := hy
    rcases hy with hy | hy
    · exact cell_has hy
    · exact absurd rfl (S.nofree _ (PySem.mem_of_lookup hy))
  · exact Nat.le_of_lt (x.above y c (PySem.mem_of_lookup h))
  · have hi : i < vs.length := by
      unfold start at h2
      by_cases hi : i < vs.length
      · exact hi
      · rw [List.getElem?_append_right (by simpa using hi)] at h2
        rw [List.getElem?_replicate] at h2
        split at h2 <;> cases h2
    have ha : vs[i]? = some v := by
      unfold start at h2
      rw [List.getElem?_append_left (by simpa using hi), List.getElem?_map] at h2
      cases e : vs[i]? with
      | none => rw [e] at h2; cases h2
      | some a => rw [e] at h2; cases h2; rfl
    obtain ⟨u, hu, rv⟩ := r.get ha
    have hp : ps[i]? = some y := by
      rw [← S.pre, List.getElem?_take_of_lt (by omega)]; exact h1
    have ndP : ps.Nodup := by rw [← S.pre]; exact S.nd.sublist (List.take_sublist _ _)
    refine ⟨u, rv, ?_⟩
    rcases S.par y (List.mem_of_getElem? hp) with k | k
    · exact .inl ⟨k, bindL_get ndP hp hu k⟩
    · obtain ⟨c, e⟩ := cell_has (n := s.heap.objs.size + 1) k
      refine .inr ⟨.inl k, c, e, ?_⟩
      have q := x.cell y c e
      rw [bindC_get ndP hp hu (by show scope.names.lookup y ≠ _; rw [k]; decide)] at q
      exact q
  · exact e0.hok.fresh (Nat.le_of_lt (x.above y c (PySem.mem_of_lookup h)))
  · unfold start
    show _ = N.length
    rw [List.length_append, List.length_map, List.length_replicate]
    omega
theorem fn_of {CX : CXT} {P : Program} {w : World} {K : PySem.W.Frag} {mg : Str → Option Value} {base : Heap} {k : Nat} {f : Addr} {name qual : Str} {params : Arguments} {body : List Stmt} {scope : Scope} {dV kV doc pm cdv ct oc : Value} {an od : Option Addr}
    {osl : Array (Option Value)} {N ps : List Str} {sp : Sp} (lk : K.lookup f = some ⟨oc, od, .func (PySem.W.fnOf name qual params body scope dV kV doc pm an cdv ct), osl⟩) (hcd : PySem.W.codeIn K cdv qual = true) (S : FnScope N ps scope)
    (len : ∀ vs H Q E, sp vs H Q E → vs.length = ps.length)
    (hbody : ∀ (A : Around) (outer : List Env) (s : Shared) (H : Hp) (vs : List V) (Q : VK) (E : XK), Room k (A.deeper (envOfC qual scope s.heap.objs.size f cdv)) → sp vs H Q E →
      ∃ t, PSs (cxOf CX P w K mg base N qual scope f cdv A outer s H E) body t ∧ t { nx := fun _ H' => Q .non H', rt := Q } (start N vs) H) :
    FnOk P w K mg base CX (k + 1) f (PySem.W.fnOf name qual params body scope dV kV doc pm an cdv ct) ps sp := by
  refine ⟨len, fun A outer s H args us vs Q E hr e0 hb r hsp => ?_⟩
  have hl := len _ _ _ _ hsp
  have KX : K.In s.heap := e0.mod.kin.keeps fun b o e => (e0.bs b o e).1
  have lim : s.heap.NoLimit := e0.mod.nolimit.keeps fun b o e => (e0.bs b o e).1
  have hkind : ∀ y ∈ ps.zip us, scope.names.lookup y.1 = some .local ∨ (scope.names.lookup y.1 = some .cell ∧ ((cellsFrom (s.heap.objs.size + 1) scope.names []).lookup y.1).isSome = true) := fun ⟨n, v⟩ hy => by
    rcases S.par n (List.of_mem_zip hy).1 with q | q
    · exact .inl q
    · exact .inr ⟨q, PySem.W.cellsFrom_some _ _ _ (.inl q)⟩
  refine codeAny_call_function hr.depth (KX _ _ lk) rfl S.co S.gen rfl (PySem.W.codeRec_of KX hcd) (hb _ _ _ _ ?_)
  refine wpAny_newFunctionEnv_cells S.kind hkind fun env he s1 x => ?_
  subst he
  refine ⟨lim.keeps x.toInCall.keep, codeAny_func ?_⟩
  obtain ⟨t, ht, hq⟩ := hbody A outer s H vs Q E (hr.deeper _) hsp
  have I : Inv (cxOf CX P w K mg base N qual scope f cdv A outer s H E) [] (start N vs) H s1 := inv_start S hr.hd e0 hl r x
  refine wpAny_mono (ht [] s1 (start N vs) H _ I hq) (fun fl s' hs => ?_) fun e s' hs => hs
  have fin : ∀ {σ' : St} {H' : Hp} {v : V} {u : Value}, Inv (cxOf CX P w K mg base N qual scope f cdv A outer s H E) [] σ' H' s' → RelV v u → Q v H' → CE outer P w H s Q u s' :=
    fun {σ' H' v u} J rv q => ⟨v, H', J.os, J.bare, J.base, J.hok, rv, q⟩
  cases fl with
  | ret u =>
    obtain ⟨v, σ', H', J, rv, q⟩ := hs
    exact fin J rv q
  | next =>
    obtain ⟨σ', H', J, q⟩ := hs
    exact fin (v := V.non) (u := Value.none) J rfl q
  | brk =>
    obtain ⟨_, _, _, q⟩ := hs
    exact False.elim q
  | cont =>
    obtain ⟨_, _, _, q⟩ := hs
    exact False.elim q
end L2
namespace L2
open PySem PySem.Spec PyProof.Rows
section
variable {X : Cx} {x : Str} {p pos : Pos} {e : Expr} {es : List Expr} {t : TA} {id T : String} {r : List V → Hp → VK → Prop}
def tCB (r : List V → Hp → VK → Prop) (t : TA) : TE := fun σ H Q => t σ H fun vs H1 => r vs H1 Q
theorem pe_callB (hc : CallR X (.builtin id) r) (hg : Gl X x) (hm : X.mg x = none) (hv : bootBuiltins x = some (.builtin id)) (ha : PA X (e :: es) t) (hn : x ≠ "__name__" := by decide) (hdb : (x == ("__debug__" : Str)) = false := by decide)
    (he : starEach (e :: es) X.env = (false, eval e X.env) :: starEach es X.env := by rfl) (hpl : (backTo pos (starEach es X.env)).any (·.1) = false := by rfl) : PE X (.Call (.Name x p) (e :: es) [] pos) (tCB r t) := by
  intro pins s σ H Q I h
  refine wpAny_Call_Name_kw (ld_blt I hg hm hv ?_ hn hdb)
  exact PyProof.Rows.callWith_builtin1 (thn (ha pos pins s σ H _ I h) fun us s1 ⟨vs, H1, I1, r1, q1⟩ => hc pins s1 σ H1 vs us Q I1 r1 q1) he hpl
theorem pe_callTy (hc : CallR X (.type T) r) (hg : Gl X x) (hm : X.mg x = none) (hv : bootBuiltins x = some (.type T)) (ha : PA X (e :: es) t) (hn : x ≠ "__name__" := by decide) (hdb : (x == ("__debug__" : Str)) = false := by decide)
    (he : starEach (e :: es) X.env = (false, eval e X.env) :: starEach es X.env := by rfl) (hpl : (backTo pos (starEach es X.env)).any (·.1) = false := by rfl) : PE X (.Call (.Name x p) (e :: es) [] pos) (tCB r t) := by
  intro pins s σ H Q I h
  refine wpAny_Call_Name_kw (ld_blt I hg hm hv ?_ hn hdb)
  exact PyProof.Rows.callWith_type1 (thn (ha pos pins s σ H _ I h) fun us s1 ⟨vs, H1, I1, r1, q1⟩ => hc pins s1 σ H1 vs us Q I1 r1 q1) he hpl
end
end L2
namespace HT
open PySem PyProof.Rows
section
open PySem.SeqAt
open PySem.AutoSeq1 (wpAny_loadPart')
open PySem.MeetsSeq PySem.MeetsSeq2 PySem.MeetsSeq3
end
section
variable {prog : Program} {w : World} {A : Around} {E : Value → Shared → Prop} {s : Shared}
def sIx (n d : Nat) : Option Int → Nat
  | none => d
  | some v => if v < 0 then (v + (n : Int)).toNat else min v.toNat n
end
end HT
namespace L2
open PySem PySem.Spec PyProof.Rows
abbrev TO := St → Hp → (Option Int → Hp → Prop) → Prop
def PO (X : Cx) (e : Option Expr) (t : TO) : Prop :=
  ∀ (pins : List (Addr × Obj)) (s : Shared) (σ : St) (H : Hp) (Q : Option Int → Hp → Prop), Inv X pins σ H s → t σ H Q →
    wpAny (model X.prog X.w) X.A (evalPart e X.env) (fun u s' => ∃ o H', Inv X pins σ H' s' ∧ IsPart u o ∧ Q o H') X.xe s
def tNoPart : TO := fun _ H Q => Q none H
def tPart (t : TE) : TO := fun σ H Q => t σ H fun x H1 => ∃ i, x = .int i ∧ Q (some i) H1
section
variable {X : Cx} {e : Expr} {te : TE} {lo hi : Option Expr} {tl th : TO} {pos p2 : Pos}
theorem po_none : PO X none tNoPart := by
  intro pins s σ H Q I h
  rw [evalPart_none]
  exact wpAny_pure ⟨none, H, I, .none, h⟩
theorem po_some (h : PE X e te) : PO X (some e) (tPart te) := by
  intro pins s σ H Q I hw
  rw [evalPart_some]
  refine thn (h pins s σ H _ I hw) fun u s1 ⟨x, H1, I1, r1, q1⟩ => ?_
  obtain ⟨i, rfl, q⟩ := q1
  obtain ⟨t, rfl⟩ := r1
  exact ⟨some i, H1, I1, .int i t, q⟩
def SlR (X : Cx) (r : V → Option Int → Option Int → Hp → VK → Prop) : Prop :=
  ∀ (pins : List (Addr × Obj)) (s : Shared) (σ : St) (H : Hp) (x : V) (v vl vu : Value) (lo hi : Option Int) (sl : Addr) (Q : VK), Inv X pins σ H s → RelV x v → s.heap.IsSliceOf sl vl vu .none → IsPart vl lo → IsPart vu hi → r x lo hi H Q →
    ∃ T id, typeLookup (.type T) "__getitem__" = pure (some (.builtin id)) ∧ s.TypeIs v T ∧ wpAny (model X.prog X.w) X.A (getItem v (.ref sl)) (EP X pins σ Q) X.xe s
theorem SlR.or {r r' : V → Option Int → Option Int → Hp → VK → Prop} (h : SlR X r) (h' : SlR X r') : SlR X (fun x lo hi H Q => r x lo hi H Q ∨ r' x lo hi H Q) := by
  intro pins s σ H x v vl vu lo hi sl Q I rx hs pl pu q
  rcases q with q | q
  · exact h pins s σ H x v vl vu lo hi sl Q I rx hs pl pu q
  · exact h' pins s σ H x v vl vu lo hi sl Q I rx hs pl pu q
def tSl (r : V → Option Int → Option Int → Hp → VK → Prop) (te : TE) (tl th : TO) : TE := fun σ H Q => te σ H fun x H1 => tl σ H1 fun l H2 => th σ H2 fun u H3 => r x l u H3 Q
theorem pe_slice {r : V → Option Int → Option Int → Hp → VK → Prop} (hr : SlR X r) (he : PE X e te) (hl : PO X lo tl) (hu : PO X hi th) : PE X (.Subscript e (.Slice lo hi none p2) pos) (tSl r te tl th) := by
  intro pins s σ H Q I h
  refine Subscript_ (thn (he pins s σ H _ I h) fun v s1 ⟨x, H1, I1, r1, q1⟩ => ?_)
  refine wpAny_Slice (thn (hl pins s1 σ H1 _ I1 q1) fun vl s2 ⟨l, H2, I2, pl, q2⟩ => thn (hu pins s2 σ H2 _ I2 q2) fun vu s3 ⟨u, H3, I3, pu, q3⟩ => ?_)
  rw [evalPart_none]
  refine wpAny_pure ?_
  have I4 : Inv X pins σ H3 { s3 with heap := s3.heap.push { cls := .type "slice", data := .fields #[vl, vu, .none] } } := I3.kept (t' := s3.toks) fun b ob q => Heap.get?_push_of_some _ q
  obtain ⟨T, id, hT, ht, hg⟩ := hr pins { s3 with heap := s3.heap.push { cls := .type "slice", data := .fields #[vl, vu, .none] } } σ H3 x v vl vu l u s3.heap.objs.size Q I4 r1 (Heap.IsSliceOf.new ..) pl pu q3
  show wpAny (model X.prog X.w) X.A (subscriptTail e (.Slice lo hi none p2) v (.ref s3.heap.objs.size)) (EP X pins σ Q) X.xe { s3 with heap := s3.heap.push { cls := .type "slice", data := .fields #[vl, vu, .none] } }
  exact tail_any (ops := [.ref s3.heap.objs.size, v]) ht hT hg (by with_unfolding_all rfl)
def cutV (xs : List V) (lo hi : Option Int) : List V := (xs.drop (HT.sIx xs.length 0 lo)).take (HT.sIx xs.length xs.length hi - HT.sIx xs.length 0 lo)
theorem cutV_length (xs : List V) (lo hi : Option Int) : (cutV xs lo hi).length ≤ xs.length := by
  unfold cutV
  rw [List.length_take, List.length_drop]
  omega
end
end L2
namespace L2
open PySem PySem.Spec PyProof.Rows
def ixN (n : Nat) (i : Int) : Option Nat := if 0 ≤ i then (if i < n then some i.toNat else none) else if -(n : Int) ≤ i then some (i + n).toNat else none
def atI {α : Type} (xs : List α) (i : Int) : Option α := (ixN xs.length i).bind fun j => xs[j]?
theorem ixN_seq {n : Nat} {i : Int} {j : Nat} (h : ixN n i = some j) : seqIndex? i n = some j ∧ j < n ∧ -(n : Int) ≤ i ∧ i < n := by
  unfold ixN at h
  by_cases h0 : 0 ≤ i
  · rw [if_pos h0] at h
    by_cases h1 : i < n
    · rw [if_pos h1] at h
      have e : i.toNat = j := Option.some.inj h
      exact ⟨by rw [seqIndex_of h0 h1, e], by omega, by omega, h1⟩
    · rw [if_neg h1] at h; cases h
  · rw [if_neg h0] at h
    by_cases h1 : -(n : Int) ≤ i
    · rw [if_pos h1] at h
      have e : (i + n).toNat = j := Option.some.inj h
      exact ⟨by rw [seqIndex_neg (by omega) h1, e], by omega, h1, by omega⟩
    · rw [if_neg h1] at h; cases h
theorem atI_get {α : Type} {xs : List α} {i : Int} {v : α} (h : atI xs i = some v) : ∃ j, seqIndex? i xs.length = some j ∧ xs[j]? = some v ∧ j < xs.length ∧ -(xs.length : Int) ≤ i ∧ i < xs.length := by
  unfold atI at h
  cases e : ixN xs.length i with
  | none => rw [e] at h; cases h
  | some j =>
    rw [e] at h
    obtain ⟨h1, h2, h3, h4⟩ := ixN_seq e
    exact ⟨j, h1, h, h2, h3, h4⟩
theorem atI_nat {α : Type} {xs : List α} {j : Nat} {v : α} (h : xs[j]? = some v) : atI xs (j : Int) = some v := by
  have hj : j < xs.length := (List.getElem?_eq_some_iff.mp h).1
  have e : ixN xs.length (j : Int) = some j := by
    unfold ixN
    rw [if_pos (by omega), if_pos (by omega)]; simp
  unfold atI; rw [e]; exact h
def PlainIx (b : Expr) : Prop := ∀ o i, subscripted b false o i = operate [o, i] (getItem o i)
def IxR (X : Cx) (r : R2) : Prop :=
  ∀ (value slice : Expr) (pins : List (Addr × Obj)) (s : Shared) (σ : St) (H : Hp) (x y : V) (v u : Value) (Q : VK), Inv X pins σ H s → RelV x v → RelV y u → r x y H Q →
    subscripted slice false v u = operate [v, u] (getItem v u) → wpAny (model X.prog X.w) X.A (subscriptTail value slice v u) (EP X pins σ Q) X.xe s
def MtR (X : Cx) (id : String) (r : V → List V → Hp → VK → Prop) : Prop :=
  ∀ (pins : List (Addr × Obj)) (s : Shared) (σ : St) (H : Hp) (x : V) (xs : List V) (v : Value) (us : List Value) (Q : VK), Inv X pins σ H s → RelV x v → Vals xs us → r x xs H Q →
    wpAny (model X.prog X.w) X.A (call (.builtin id) (v :: us)) (EP X pins σ Q) X.xe s
section
variable {X : Cx} {a b : Expr} {ta tb : TE} {pos : Pos}
theorem IxR.or {r r' : R2} (h : IxR X r) (h' : IxR X r') : IxR X (fun x y H Q => r x y H Q ∨ r' x y H Q) := by
  intro value slice pins s σ H x y v u Q I rx ry q hs
  rcases q with q | q
  · exact h value slice pins s σ H x y v u Q I rx ry q hs
  · exact h' value slice pins s σ H x y v u Q I rx ry q hs
theorem MtR.or {id : String} {r r' : V → List V → Hp → VK → Prop} (h : MtR X id r) (h' : MtR X id r') : MtR X id (fun x xs H Q => r x xs H Q ∨ r' x xs H Q) := by
  intro pins s σ H x xs v us Q I rx rs q
  rcases q with q | q
  · exact h pins s σ H x xs v us Q I rx rs q
  · exact h' pins s σ H x xs v us Q I rx rs q
theorem pe_ix {r : R2} (hr : IxR X r) (ha : PE X a ta) (hb : PE X b tb) (hs : PlainIx b) : PE X (.Subscript a b pos) (tOp r ta tb) := by
  intro pins s σ H Q I h
  exact Subscript_ (binT ha hb I h fun v u s2 x y H2 I2 rx ry q => hr a b pins s2 σ H2 x y v u Q I2 rx ry q (hs _ _))
def rIxL (K : PySem.W.Frag) : R2 := fun x y H Q => ∃ p xs i v, x = .ref p ∧ y = .int i ∧ SqL K H p xs ∧ atI xs i = some v ∧ Q v H
def rIxT (K : PySem.W.Frag) : R2 := fun x y H Q => ∃ p xs i v, x = .ref p ∧ y = .int i ∧ SqT K H p xs ∧ atI xs i = some v ∧ Q v H
theorem ix_list : IxR X (rIxL X.K) := by
  intro value slice pins s σ H x y v u Q I rx ry h hs
  obtain ⟨p, xs, i, z, rfl, rfl, hq, he, q⟩ := h
  cases rx
  obtain ⟨t, rfl⟩ := ry
  obtain ⟨its, r, pl, hz⟩ := I.list hq
  obtain ⟨j, h1, h2, h3, h4, h5⟩ := atI_get he
  obtain ⟨w, ew, rw'⟩ := r.get h2
  have hl := r.length
  have hn := line63
  have fin : EP X pins σ Q w s := ⟨z, H, I, rw', q⟩
  by_cases h0 : 0 ≤ i
  · have hj : i.toNat = j := by
      rw [seqIndex_of h0 h5] at h1
      exact Option.some.inj h1
    exact item_listR pl.isList h0 (by omega) (by rw [hj]; simpa using ew) fin hs
  · have hj : (i + (its.toArray.size : Int)).toNat = j := by
      rw [seqIndex_neg (by omega) h4] at h1
      rw [List.size_toArray, ← hl]
      exact Option.some.inj h1
    exact subscriptTail_builtinR (x := w) pl.isList.typeIs slot_list_getitem.lookup
      (wpAny_getItem_list_neg (Q := fun r s' => r = w ∧ EP X pins σ Q r s') pl.isList (by omega) (by rw [List.size_toArray] <;> omega) (by omega) (by rw [hj]; simpa using ew) ⟨rfl, fin⟩) hs
theorem ix_tup : IxR X (rIxT X.K) := by
  intro value slice pins s σ H x y v u Q I rx ry h hs
  obtain ⟨p, xs, i, z, rfl, rfl, hq, he, q⟩ := h
  cases rx
  obtain ⟨t, rfl⟩ := ry
  obtain ⟨its, r, pl, hz⟩ := I.tuple hq
  obtain ⟨j, h1, h2, h3, h4, h5⟩ := atI_get he
  obtain ⟨w, ew, rw'⟩ := r.get h2
  have hl := r.length
  have hn := line63
  have fin : EP X pins σ Q w s := ⟨z, H, I, rw', q⟩
  exact subscriptTail_builtinR (x := w) pl.typeIs slot_tuple_getitem.lookup
    (getItem_tuple (j := j) (Q := fun r s' => r = w ∧ EP X pins σ Q r s') pl (by omega) (by omega) (by rw [List.size_toArray, ← hl]; exact h1) (by simpa using ew) ⟨rfl, fin⟩) hs
theorem mapSeq_set (its : List Value) (n j : Nat) (u : Value) : Obj.mapSeq (·.setIfInBounds j u) { cls := .type "list", data := .seq its.toArray n } = { cls := .type "list", data := .seq (its.set j u).toArray n } := by
  simp [Obj.mapSeq]
theorem Inv.lst {pins : List (Addr × Obj)} {σ : St} {H : Hp} {s : Shared} {p : Addr} {xs : List V} (I : Inv X pins σ H s) (h : H p = some (.lst xs)) :
    ∃ (its : List Value) (n : Nat), Vals xs its ∧ s.heap.get? p = some { cls := .type "list", data := .seq its.toArray n } ∧ xs.length ≤ sizeLine := by
  obtain ⟨z, its, n, r, e⟩ := I.hok p _ h
  exact ⟨its, n, r, e, z⟩
theorem Inv.lstUpd {pins : List (Addr × Obj)} {σ : St} {H : Hp} {s : Shared} {p : Addr} {xs ys : List V} {its its' : List Value} {n n' : Nat} {f : Obj → Obj} (I : Inv X pins σ H s) (h : H p = some (.lst xs))
    (ho : s.heap.get? p = some { cls := .type "list", data := .seq its.toArray n }) (hf : f { cls := .type "list", data := .seq its.toArray n } = { cls := .type "list", data := .seq its'.toArray n' }) (r : Vals ys its') (hz : ys.length ≤ sizeLine) (t : Nat) :
    Inv X pins σ (upd H p (.lst ys)) { s with heap := s.heap.update p f, toks := t } := by
  have e : (s.heap.update p f).get? p = some { cls := .type "list", data := .seq its'.toArray n' } := by
    rw [Heap.get?_update_self f ho (by rw [hf] <;> rfl), hf]
  refine I.write (x := p) (e := p) (by rw [h]; trivial) (.inl rfl) (fun b u hb q => (Heap.get?_update_other _ _ (Ne.symm hb)).trans q) ⟨_, e⟩ ?_
  exact ⟨hz, its', n', r, e⟩
def rSetL : V → V → V → Hp → (Hp → Prop) → Prop := fun o i v H Q => ∃ p xs k j, o = .ref p ∧ i = .int k ∧ H p = some (.lst xs) ∧ ixN xs.length k = some j ∧ Q (upd H p (.lst (xs.set j v)))
theorem set_list : PSet X rSetL := by
  intro pins s σ H o i v ov iv u Q I ro ri rv h
  obtain ⟨p, xs, k, j, rfl, rfl, hp, hj, q⟩ := h
  cases ro
  obtain ⟨t, rfl⟩ := ri
  obtain ⟨its, n, r, ho, hz⟩ := I.lst hp
  obtain ⟨h1, h2, h3, h4⟩ := ixN_seq hj
  have hl := r.length
  have hn := line63
  have I' : Inv X pins σ (upd H p (.lst (xs.set j v))) { s with heap := s.heap.update p (Obj.mapSeq (·.setIfInBounds j u)) } :=
    I.lstUpd hp ho (mapSeq_set its n j u) (r.set rv j) (by rw [List.length_set]; exact hz) s.toks
  by_cases h0 : 0 ≤ k
  · have hk : k.toNat = j := by
      rw [seqIndex_of h0 h4] at h1
      exact Option.some.inj h1
    exact PySem.W.ki_setAt ho h0 (by omega) (by rw [List.size_toArray, ← hl]; exact h4) (by rw [hk]; exact ⟨_, I', q⟩)
  · have hk : (k + (its.toArray.size : Int)).toNat = j := by
      rw [seqIndex_neg (by omega) h3] at h1
      rw [List.size_toArray, ← hl]
      exact Option.some.inj h1
    exact PySem.W.ki_setBack ho (by omega) (by rw [List.size_toArray, ← hl]; exact h3) (by omega) (by rw [hk]; exact ⟨_, I', q⟩)
theorem slice_bounds (lo hi : Option Int) (n : Nat) : (sliceBounds lo hi none n).1 = ((HT.sIx n 0 lo : Nat) : Int) ∧ (sliceBounds lo hi none n).2.1 = ((HT.sIx n n hi : Nat) : Int) ∧ (sliceBounds lo hi none n).2.2 = 1 := by
  refine ⟨?_, ?_, rfl⟩
  · cases lo with
    | none => simp [sliceBounds, HT.sIx]
    | some i =>
      simp only [sliceBounds, HT.sIx, Option.getD_none, show (1 : Int) > 0 by decide, if_true]
      by_cases h : i < 0
      · simp only [h, if_true] <;> omega
      · simp only [h, if_false] <;> omega
  · cases hi with
    | none => simp [sliceBounds, HT.sIx]
    | some i =>
      simp only [sliceBounds, HT.sIx, Option.getD_none, show (1 : Int) > 0 by decide, if_true]
      by_cases h : i < 0
      · simp only [h, if_true] <;> omega
      · simp only [h, if_false] <;> omega
theorem slicePick_cut (its : List Value) (lo hi : Option Int) : slicePick its.toArray lo hi none = ((its.drop (HT.sIx its.length 0 lo)).take (HT.sIx its.length its.length hi - HT.sIx its.length 0 lo)).toArray := by
  obtain ⟨h1, h2, h3⟩ := slice_bounds lo hi its.toArray.size
  unfold slicePick
  rw [h1, h2, h3]
  simp only [sliceRange_one, pick_run, List.size_toArray] <;> rfl
def rSlL (K : PySem.W.Frag) : V → Option Int → Option Int → Hp → VK → Prop := fun x lo hi H Q => ∃ a xs, x = .ref a ∧ SqL K H a xs ∧ ∀ p, H p = none → Q (.ref p) (upd H p (.lst (cutV xs lo hi)))
theorem sl_list : SlR X (rSlL X.K) := by
  intro pins s σ H x v vl vu lo hi sl Q I rx hs pl pu h
  obtain ⟨a, xs, rfl, hx, q⟩ := h
  cases rx
  obtain ⟨its, r, ht, hz⟩ := I.list hx
  have hlen := r.length
  refine ⟨"list", _, slot_list_getitem.lookup, ht.isList.typeIs, ?_⟩
  refine wpAny_getItem_list_slice ht.isList hs pl pu .none (by simp) ?_ (by rw [List.size_toArray] <;> omega)
  rw [slicePick_cut, ← hlen]
  refine ⟨.ref s.heap.objs.size, _, I.laid (t' := s.toks) (o := .lst (cutV xs lo hi)) (fun b ob q => Heap.get?_push_of_some _ q) (Nat.le_refl _) ?_, rfl, q _ (I.hok.fresh (Nat.le_refl _))⟩
  exact ⟨Nat.le_trans (cutV_length xs lo hi) hz, _, 0, (r.drop (HT.sIx xs.length 0 lo)).take (HT.sIx xs.length xs.length hi - HT.sIx xs.length 0 lo), Heap.get?_push_size _ rfl⟩
def flatV : V → Bool
  | .non => true
  | .bl _ => true
  | .int _ => true
  | .str _ => true
  | _ => false
def eqV : V → V → Bool
  | .non, .non => true
  | .bl a, .bl b => a == b
  | .bl a, .int b => (if a then 1 else 0) == b
  | .int a, .bl b => a == (if b then 1 else 0)
  | .int a, .int b => a == b
  | .str a, .str b => a == b
  | _, _ => false
theorem eqAt_V {A : Around} {s : Shared} {y x : V} {u v : Value} (ry : RelV y u) (rx : RelV x v) (fy : flatV y = true) (fx : flatV x = true) : SeqAt.EqAt A s u v (eqV y x) := by
  cases y with
  | non =>
    cases ry
    cases x with
    | non => cases rx; exact SeqAt.EqAt.same _
    | bl b => cases rx; exact SeqAt.EqAt.none_bool b
    | int b => obtain ⟨t, rfl⟩ := rx; exact SeqAt.EqAt.none_int b t
    | str b => obtain ⟨t, rfl⟩ := rx; exact SeqAt.EqAt.none_str b t
    | _ => exact absurd (show false = true from fx) Bool.false_ne_true
  | bl a =>
    cases ry
    cases x with
    | non => cases rx; exact SeqAt.EqAt.bool_none a
    | bl b => cases rx; exact SeqAt.EqAt.bool_bool a b
    | int b => obtain ⟨t, rfl⟩ := rx; exact SeqAt.EqAt.bool_int a b t
    | str b => obtain ⟨t, rfl⟩ := rx; exact SeqAt.EqAt.bool_str a b t
    | _ => exact absurd (show false = true from fx) Bool.false_ne_true
  | int a =>
    obtain ⟨t', rfl⟩ := ry
    cases x with
    | non => cases rx; exact SeqAt.EqAt.int_none a t'
    | bl b => cases rx; exact SeqAt.EqAt.int_bool a t' b
    | int b => obtain ⟨t, rfl⟩ := rx; exact SeqAt.EqAt.int_int a t' b t
    | str b => obtain ⟨t, rfl⟩ := rx; exact SeqAt.EqAt.int_str a t' b t
    | _ => exact absurd (show false = true from fx) Bool.false_ne_true
  | str a =>
    obtain ⟨t', rfl⟩ := ry
    cases x with
    | non => cases rx; exact SeqAt.EqAt.str_none a t'
    | bl b => cases rx; exact SeqAt.EqAt.str_bool a t' b
    | int b => obtain ⟨t, rfl⟩ := rx; exact SeqAt.EqAt.str_int a t' b t
    | str b => obtain ⟨t, rfl⟩ := rx; exact SeqAt.EqAt.str_str a t' b t
    | _ => exact absurd (show false = true from fx) Bool.false_ne_true
  | _ => exact absurd (show false = true from fy) Bool.false_ne_true
def eqU (x : V) (u : Value) : Bool := match u with
  | .none => eqV .non x
  | .bool b => eqV (.bl b) x
  | .int i _ => eqV (.int i) x
  | .str z _ => eqV (.str z) x
  | _ => false
theorem eqU_of {x y : V} {u : Value} (r : RelV y u) (f : flatV y = true) : eqU x u = eqV y x := by
  cases y with
  | non => cases r; rfl
  | bl b => cases r; rfl
  | int i => obtain ⟨t, rfl⟩ := r; rfl
  | str z => obtain ⟨t, rfl⟩ := r; rfl
  | _ => exact absurd (show false = true from f) Bool.false_ne_true
theorem any_eqU {x : V} : ∀ {xs : List V} {us : List Value}, Vals xs us → xs.all flatV = true → us.any (eqU x) = xs.any fun y => eqV y x
  | _, _, .nil, _ => rfl
  | y :: xs, u :: us, .cons r t, f => by
    rw [List.all_cons, Bool.and_eq_true] at f
    rw [List.any_cons, List.any_cons, eqU_of r f.1, any_eqU t f.2]
theorem mem_eqAt {A : Around} {s : Shared} {x : V} {v : Value} (rx : RelV x v) (fx : flatV x = true) : ∀ {xs : List V} {us : List Value}, Vals xs us → xs.all flatV = true → ∀ u ∈ us, SeqAt.EqAt A s u v (eqU x u)
  | _, _, .nil, _ => fun u hu => by cases hu
  | y :: xs, u :: us, .cons r t, f => fun u' hu => by
    rw [List.all_cons, Bool.and_eq_true] at f
    rcases List.mem_cons.mp hu with rfl | hu
    · rw [eqU_of r f.1]; exact eqAt_V r rx f.1 fx
    · exact mem_eqAt rx fx t f.2 u' hu
def inV (x : V) (xs : List V) : Bool := xs.any fun y => eqV y x
def rIn (K : PySem.W.Frag) (neg : Bool) : R2 := fun x y H Q => ∃ p xs, y = .ref p ∧ (SqL K H p xs ∨ SqT K H p xs) ∧ flatV x = true ∧ xs.all flatV = true ∧ Q (.bl (if neg then !inV x xs else inV x xs)) H
theorem op_in_seq : OpR X (compareOp .In) (rIn X.K false) := by
  intro pins s σ H x y v u Q I rx ry h
  obtain ⟨p, xs, rfl, hq, fx, fs, q⟩ := h
  cases ry
  rcases hq with hq | hq
  · obtain ⟨its, r, pl, hz⟩ := I.list hq
    refine SeqAt.in_listAt (eqU x) pl.isList (fun w hw => mem_eqAt rx fx r fs w (by simpa using hw)) ⟨.bl _, H, I, rfl, ?_⟩
    rw [show its.toArray.any (eqU x) = its.any (eqU x) by simp, any_eqU r fs]
    exact q
  · obtain ⟨its, r, pl, hz⟩ := I.tuple hq
    refine SeqAt.in_tupleAt (eqU x) pl (fun w hw => mem_eqAt rx fx r fs w (by simpa using hw)) ⟨.bl _, H, I, rfl, ?_⟩
    rw [show its.toArray.any (eqU x) = its.any (eqU x) by simp, any_eqU r fs]
    exact q
theorem call_len_seq : CallR X (.builtin "len") (fun xs H Q => ∃ p ys, xs = [.ref p] ∧ (SqL X.K H p ys ∨ SqT X.K H p ys) ∧ Q (.int ys.length) H) := by
  intro pins s σ H xs us Q I r h
  obtain ⟨p, ys, rfl, hq, q⟩ := h
  obtain ⟨u, rfl, rx⟩ := vals1 r
  cases rx
  have hn := line63
  rcases hq with hq | hq
  · obtain ⟨its, r', pl, hz⟩ := I.list hq
    have hlen := r'.length
    exact Calls.call_len_list pl.isList (by simp only [List.size_toArray] <;> omega) ⟨.int ys.length, H, I.tok _, ⟨s.toks + 1, by rw [List.size_toArray, hlen]⟩, q⟩
  · obtain ⟨its, r', pl, hz⟩ := I.tuple hq
    have hlen := r'.length
    exact len_tuple pl (by simp only [List.size_toArray] <;> omega) ⟨.int ys.length, H, I.tok _, ⟨s.toks + 1, by rw [List.size_toArray, hlen]⟩, q⟩
theorem CallR.or {f : Value} {r r' : List V → Hp → VK → Prop} (h : CallR X f r) (h' : CallR X f r') : CallR X f (fun xs H Q => r xs H Q ∨ r' xs H Q) := by
  intro pins s σ H xs us Q I rs q
  rcases q with q | q
  · exact h pins s σ H xs us Q I rs q
  · exact h' pins s σ H xs us Q I rs q
theorem call_tuple_of : CallR X (.type "tuple") (fun xs H Q => ∃ p ys, xs = [.ref p] ∧ ((SqL X.K H p ys ∧ ∀ l, H l = none → Q (.ref l) (upd H l (.tup ys))) ∨ (SqT X.K H p ys ∧ Q (.ref p) H))) := by
  intro pins s σ H xs us Q I r h
  obtain ⟨p, ys, rfl, h⟩ := h
  obtain ⟨u, rfl, rx⟩ := vals1 r
  cases rx
  rcases h with ⟨hq, q⟩ | ⟨hq, q⟩
  · obtain ⟨its, r', pl, hz⟩ := I.list hq
    have hlen := r'.length
    refine call_tuple_list pl.isList (fun h' kp => ?_) (by simp only [List.size_toArray] <;> omega)
    have I1 : Inv X pins σ H { s with heap := h' } := I.kept (t' := s.toks) kp
    have I2 : Inv X pins σ (upd H h'.objs.size (.tup ys)) { s with heap := h'.push { cls := .type "tuple", data := .seq its.toArray } } :=
      I1.laid (t' := s.toks) (fun b o e => Heap.get?_push_of_some _ e) (Nat.le_refl _) (show ObjOk X.prog X.w _ _ _ (.tup ys) from ⟨hz, its, r', IsTup.new _ _⟩)
    exact ⟨.ref h'.objs.size, _, I2, rfl, q _ (I1.hok.fresh (Nat.le_refl _))⟩
  · obtain ⟨its, r', pl, hz⟩ := I.tuple hq
    exact call_tuple_same pl ⟨.ref p, H, I, rfl, q⟩
def tyV (K : PySem.W.Frag) (T : String) (x : V) (H : Hp) : Prop := match x with
  | .str _ => T = "str"
  | .int _ => T = "int"
  | .ref p => (T = "list" ∧ ∃ xs, SqL K H p xs) ∨ (T = "tuple" ∧ ∃ o, K.lookup p = some o ∧ o.cls = .type "tuple" ∧ o.dict = none) ∨
      (T = "dict" ∧ ((∃ kvs, H p = some (.dK kvs)) ∨ ∃ kvs, H p = some (.dT kvs))) ∨ (T = "set" ∧ ∃ S n, H p = some (.set S n))
  | _ => False
theorem tyV_is {pins : List (Addr × Obj)} {σ : St} {H : Hp} {s : Shared} {T : String} {x : V} {v : Value} (I : Inv X pins σ H s) (r : RelV x v) (ty : tyV X.K T x H) :
    s.TypeIs v T ∧ ∀ a, v = .ref a → ∃ ob, s.heap.get? a = some ob ∧ ob.dict = none := by
  cases x with
  | str z =>
    obtain ⟨t, rfl⟩ := r
    cases (show T = "str" from ty)
    exact ⟨typeIs_str s z t, fun _ e => nomatch e⟩
  | int i =>
    obtain ⟨t, rfl⟩ := r
    cases (show T = "int" from ty)
    exact ⟨typeIs_int s i t, fun _ e => nomatch e⟩
  | ref p =>
    cases r
    rcases ty with ⟨rfl, xs, hq⟩ | ⟨rfl, o, hk, hc, hd⟩ | ⟨rfl, hk⟩ | ⟨rfl, S, n, hk⟩
    · obtain ⟨its, _, pl, _⟩ := I.list hq
      refine ⟨pl.isList.typeIs, fun a e => ?_⟩
      cases e
      obtain ⟨o, n, e, c, hd, _⟩ := pl
      exact ⟨o, e, hd⟩
    · refine ⟨⟨o, I.kIn p o hk, hc⟩, fun a e => ?_⟩
      cases e
      exact ⟨o, I.kIn _ o hk, hd⟩
    · have z : ∃ o, s.heap.get? p = some o ∧ o.ExactDict := by
        rcases hk with ⟨kvs, hk⟩ | ⟨kvs, hk⟩
        · obtain ⟨_, _, _, _, o, _, _, e, ex, _⟩ := I.hok p _ hk
          exact ⟨o, e, ex⟩
        · obtain ⟨_, _, _, _, o, _, _, e, ex, _⟩ := I.hok p _ hk
          exact ⟨o, e, ex⟩
      obtain ⟨o, e, ex⟩ := z
      refine ⟨⟨o, e, ex.1⟩, fun a e2 => ?_⟩
      cases e2
      exact ⟨o, e, ex.2.1⟩
    · obtain ⟨o, _, _, _, e, ex, _⟩ := I.hok p _ hk
      refine ⟨⟨o, e, ex.1⟩, fun a e2 => ?_⟩
      cases e2
      exact ⟨o, e, ex.2.1⟩
  | _ => exact False.elim ty
def tBM (K : PySem.W.Frag) (T : String) (r : V → List V → Hp → VK → Prop) (to : TE) (t : TA) : TE := fun σ H Q => to σ H fun x H1 => tyV K T x H1 ∧ t σ H1 fun xs H2 => r x xs H2 Q
variable {o e : Expr} {es : List Expr} {to : TE} {t : TA} {name : Str} {apos cpos : Pos} {T id : String} {r : V → List V → Hp → VK → Prop}
theorem pe_bm (pa : PlainAttrs T) (slot : Slot T name id) (hty : typeOf (.builtin id) = pure (.type "method_descriptor")) (hm : MtR X id r) (ho : PE X o to) (ha : PA X (e :: es) t)
    (hbase : attributeBase o name X.env (eval o X.env) = eval o X.env := by rfl)
    (hfew : ((backTo cpos (starEach (e :: es) X.env)).all (fun x => !x.1) && (backToKw cpos (keywordEach [] X.env)).all (fun x => x.1.isSome)
      && decide ((e :: es).length + ([] : List Keyword).length + (if ([] : List Keyword).isEmpty then 0 else 1) < 30)) = true := by rfl)
    (hline : (apos.endLine == cpos.line) = true := by rfl) (hs : starEach (e :: es) X.env = (false, eval e X.env) :: starEach es X.env := by rfl) (hplain : (backTo cpos (starEach es X.env)).any (·.1) = false := by rfl) :
    PE X (.Call (.Attribute o name apos) (e :: es) [] cpos) (tBM X.K T r to t) := by
  intro pins s σ H Q I h
  refine wpAny_Call_method_late hbase hfew hline rfl (thn (ho pins s σ H _ I h) fun v s1 ⟨x, H1, I1, r1, ty, q1⟩ => ?_)
  obtain ⟨h1, h2⟩ := tyV_is I1 r1 ty
  refine ⟨T, id, pa, slot, hty, h1, h2, ?_⟩
  have hA := ha cpos pins s1 σ H1 _ I1 q1
  rw [hs] at hA ⊢
  refine Calls.callWith_builtin (by show (false || (backTo cpos (starEach es X.env)).any (·.1)) = false; rw [hplain] <;> rfl) (Calls.evalArgs_plain ?_)
  exact thn hA fun us s2 ⟨vs, H2, I2, r2, q2⟩ => hm pins s2 σ H2 x vs v us Q I2 r1 r2 q2
end
end L2
namespace L2
open PySem PySem.Spec PyProof.Rows
def MtM (X : Cx) (id : String) (r : V → List V → Hp → VK → Prop) : Prop :=
  ∀ (pins : List (Addr × Obj)) (s : Shared) (σ : St) (H : Hp) (x : V) (xs : List V) (v : Value) (us : List Value) (Q : VK), Inv X pins σ H s → RelV x v → Vals xs us → r x xs H Q →
    wpAny (model X.prog X.w) X.A (call (.builtin id) (v :: us)) (EP X pins σ Q) X.xe s
theorem Vals.one : ∀ {x : V} {us : List Value}, Vals [x] us → ∃ u, us = [u] ∧ RelV x u
  | _, _, .cons r .nil => ⟨_, rfl, r⟩
theorem Vals.two : ∀ {x y : V} {us : List Value}, Vals [x, y] us → ∃ u v, us = [u, v] ∧ RelV x u ∧ RelV y v
  | _, _, _, .cons r (.cons q .nil) => ⟨_, _, rfl, r, q⟩
theorem Vals.zero : ∀ {us : List Value}, Vals [] us → us = []
  | _, .nil => rfl
theorem Vals.eraseIdx : ∀ {xs : List V} {us : List Value} (i : Nat), Vals xs us → Vals (xs.eraseIdx i) (us.eraseIdx i)
  | _, _, _, .nil => .nil
  | _, _, 0, .cons _ t => t
  | _, _, i + 1, .cons r t => .cons r (Vals.eraseIdx i t)
theorem len_erase {α : Type} : ∀ (l : List α) (i : Nat), (l.eraseIdx i).length ≤ l.length
  | [], _ => Nat.le_refl _
  | _ :: _, 0 => Nat.le_succ _
  | _ :: r, i + 1 => Nat.succ_le_succ (len_erase r i)
section
variable {X : Cx} {pins : List (Addr × Obj)} {σ : St} {H : Hp} {s : Shared} {l b : Addr} {xs ys zs : List V}
theorem Inv.lset {its its' : List Value} {n : Nat} {f : Array Value → Array Value} {t' : Nat} (I : Inv X pins σ H s) (hH : H l = some (.lst xs))
    (e : s.heap.get? l = some { cls := .type "list", data := .seq its.toArray n }) (hf : f its.toArray = its'.toArray) (hv : Vals ys its') (hz : ys.length ≤ sizeLine) :
    Inv X pins σ (upd H l (.lst ys)) { s with heap := s.heap.update l (Obj.mapSeq f), toks := t' } := by
  have q := PySem.IsL.update e f
  rw [hf] at q
  refine I.write (x := l) (e := l) (by rw [hH]; exact trivial) (.inl rfl) (fun b' u hb hu => (Heap.get?_update_other s.heap (Obj.mapSeq f) (Ne.symm hb)).trans hu) ⟨_, q⟩ ?_
  exact ⟨hz, its', _, hv, q⟩
theorem Inv.lnew {its : List Value} {t' : Nat} (I : Inv X pins σ H s) (hv : Vals ys its) (hz : ys.length ≤ sizeLine) :
    Inv X pins σ (upd H s.heap.objs.size (.lst ys)) { s with heap := s.heap.push { cls := .type "list", data := .seq its.toArray }, toks := t' } :=
  I.laid (fun _ _ q => Heap.get?_push_of_some _ q) (Nat.le_refl _) ⟨hz, its, 0, hv, Heap.get?_push_size _ rfl⟩
theorem Inv.fresh (I : Inv X pins σ H s) : H s.heap.objs.size = none := I.hok.fresh (Nat.le_refl _)
theorem Inv.lstM (I : Inv X pins σ H s) (hH : H l = some (.lst xs)) : xs.length ≤ sizeLine ∧ ∃ (its : List Value) (n : Nat), Vals xs its ∧ xs.length = its.length ∧ s.heap.get? l = some { cls := .type "list", data := .seq its.toArray n } := by
  obtain ⟨z, its, n, r, e⟩ := I.hok l _ hH
  exact ⟨z, its, n, r, r.length, e⟩
theorem notLongL {n : Nat} (h : n ≤ sizeLine) : Builtin.List.listTooLong n = false := by
  unfold Builtin.List.listTooLong
  exact decide_eq_false (by omega)
end
section
variable {X : Cx}
def rAppend : V → List V → Hp → VK → Prop := fun x vs H Q => ∃ l xs y, x = .ref l ∧ vs = [y] ∧ H l = some (.lst xs) ∧ xs.length < sizeLine ∧ Q .non (upd H l (.lst (xs ++ [y])))
theorem mt_append : MtM X "list.append" rAppend := by
  intro pins s σ H x vs v us Q I rx rv h
  obtain ⟨l, xs, y, rfl, rfl, hH, hz, q⟩ := h
  cases rx
  obtain ⟨u, rfl, ru⟩ := rv.one
  obtain ⟨z, its, n, r, hl, e⟩ := I.lstM hH
  refine call_meets F.slot_list_append ⟨_, e, rfl⟩ F.entry_list_append (F.args_list_append_2 _ _) (PySem.list_append l its.toArray n u (by rw [List.size_toArray]; omega)) ⟨e, ?_⟩
  refine ⟨.non, _, I.lset (its' := its ++ [u]) hH e (by simp) (r.append (.cons ru .nil)) ?_, rfl, q⟩
  rw [List.length_append, List.length_singleton]
  omega
def rExtend : V → List V → Hp → VK → Prop := fun x vs H Q => ∃ l b xs zs, x = .ref l ∧ vs = [.ref b] ∧ H l = some (.lst xs) ∧ H b = some (.lst zs) ∧ xs.length + zs.length ≤ sizeLine ∧ Q .non (upd H l (.lst (xs ++ zs)))
theorem mt_extend : MtM X "list.extend" rExtend := by
  intro pins s σ H x vs v us Q I rx rv h
  obtain ⟨l, b, xs, zs, rfl, rfl, hH, hB, hz, q⟩ := h
  cases rx
  obtain ⟨u, rfl, ru⟩ := rv.one
  cases ru
  obtain ⟨z, its, n, r, hl, e⟩ := I.lstM hH
  obtain ⟨z2, its2, n2, r2, hl2, e2⟩ := I.lstM hB
  have hsz : its.toArray.size + its2.toArray.size ≤ sizeLine := by rw [List.size_toArray, List.size_toArray]; omega
  have hlong : ¬ (!its.toArray.isEmpty && Builtin.List.listTooLong (its.toArray.size + its2.toArray.size)) = true := by
    rw [notLongL hsz, Bool.and_false]
    exact Bool.false_ne_true
  refine call_meets F.slot_list_extend ⟨_, e, rfl⟩ F.entry_list_extend (F.args_list_extend_2 _ _)
    (AutoSeq1.list_extend_list_list_0 l its.toArray n b its2.toArray n2 hlong (by rw [List.size_toArray]; omega) (by omega)) ⟨e, e2, ?_⟩
  refine ⟨.non, _, I.lset (its' := its ++ its2) hH e (by simp) (r.append r2) ?_, rfl, q⟩
  rw [List.length_append]
  omega
def rCat : R2 := fun x y H Q => ∃ l b xs zs, x = .ref l ∧ y = .ref b ∧ H l = some (.lst xs) ∧ H b = some (.lst zs) ∧ xs.length + zs.length ≤ sizeLine ∧ ∀ p, H p = none → Q (.ref p) (upd H p (.lst (xs ++ zs)))
theorem op_cat : OpR X (binaryOp .Add) rCat := by
  intro pins s σ H x y v u Q I rx ry h
  obtain ⟨l, b, xs, zs, rfl, rfl, hH, hB, hz, q⟩ := h
  cases rx
  cases ry
  obtain ⟨z, its, n, r, hl, e⟩ := I.lstM hH
  obtain ⟨z2, its2, n2, r2, hl2, e2⟩ := I.lstM hB
  refine PySem.P.add_list e e2 ?_ (by rw [List.size_toArray, List.size_toArray]; omega)
  have ea : its.toArray ++ its2.toArray = (its ++ its2).toArray := by simp
  rw [ea]
  exact ⟨.ref _, _, I.lnew (t' := s.toks) (r.append r2) (by rw [List.length_append]; omega), rfl, q _ I.fresh⟩
end
section
variable {prog : Program} {w : World} {A : Around} {E : Value → Shared → Prop} {s : Shared}
set_option maxRecDepth 100000 in
end
section
variable {X : Cx}
end
end L2
namespace L2
open PySem PySem.Spec PyProof.Rows
theorem Vals.ints : ∀ {ns : List Int} {us : List Value}, Vals (ns.map V.int) us → IntsAre us ns
  | [], us, h => by
    rw [List.map_nil] at h
    cases h
    exact IntsAre.nil
  | n :: ns, us, h => by
    rw [List.map_cons] at h
    cases h with
    | cons r t =>
      obtain ⟨k, rfl⟩ := r
      exact IntsAre.cons n k (Vals.ints t)
theorem Vals.strs : ∀ {xs : List Str} {us : List Value}, Vals (xs.map V.str) us → StrsAre us xs
  | [], us, h => by
    rw [List.map_nil] at h
    cases h
    exact StrsAre.nil
  | x :: xs, us, h => by
    rw [List.map_cons] at h
    cases h with
    | cons r t =>
      obtain ⟨k, rfl⟩ := r
      exact StrsAre.cons x k (Vals.strs t)
theorem Vals.bls : ∀ {bs : List Bool} {us : List Value}, Vals (bs.map V.bl) us → us = bs.map Value.bool
  | [], us, h => by
    rw [List.map_nil] at h
    cases h
    rfl
  | b :: bs, us, h => by
    rw [List.map_cons] at h
    cases h with
    | cons r t =>
      cases r
      rw [Vals.bls t, List.map_cons]
theorem Vals.ref1 {a : Addr} {us : List Value} (r : Vals [V.ref a] us) : us = [Value.ref a] := by
  cases r with
  | cons r t =>
    cases t
    cases r
    rfl
section
variable {prog : Program} {w : World} {A : Around} {E : Value → Shared → Prop} {s : Shared} {l : Addr} {its : List Value} {ns : List Int} {Q : Value → Shared → Prop}
theorem sum_raw (hh : A.handled = none) (hl : s.heap.IsList l its.toArray) (hi : IntsAre its ns)
    (h : ∀ h' tk t', (∀ b o, s.heap.get? b = some o → h'.get? b = some o) → Q (.int ns.sum t') { s with heap := h', toks := tk }) : wpAny (model prog w) A (call (.builtin "sum") [.ref l]) Q E s := by
  obtain ⟨xs, e⟩ := hi.allInts.items
  have hn : numsOf (intItems xs).toList = ns := by rw [← e]; exact hi.numsOf
  rw [nums_intItems] at hn
  rw [e] at hl
  refine PySem.sum_intListG hh hl fun h' tk t' hk => ?_
  have := h h' tk t' hk
  rw [preSum_eq, List.take_of_length_le (by simp), hn]; exact this
end
section
variable {X : Cx}
def rSum (K : PySem.W.Frag) : List V → Hp → VK → Prop := fun vs H Q => ∃ (a : Addr) (ns : List Int), vs = [V.ref a] ∧ SqL K H a (ns.map V.int) ∧ Q (.int ns.sum) H
theorem cr_sum (hc : X.calm = true) : CallR X (.builtin "sum") (rSum X.K) := by
  intro pins s σ H vs us Q I r h
  obtain ⟨a, ns, rfl, hs, q⟩ := h
  obtain ⟨its, rv, hl, _⟩ := I.list hs
  rw [Vals.ref1 r]
  exact sum_raw (I.ok.hd hc) hl.isList rv.ints fun h' tk t' hk => ⟨.int _, H, I.kept hk, ⟨_, rfl⟩, q⟩
end
section
variable {X : Cx}
end
section
variable {X : Cx}
end
theorem iter_any {prog : Program} {w : World} {A : Around} {E : Value → Shared → Prop} {s : Shared} {l : Addr} {items : Array Value} {Q : Value → Shared → Prop} (hl : s.heap.IsList l items)
    (h : ∀ s₂ : Shared, s₂ = { s with heap := s.heap.push { cls := .type "list_iterator", data := .fields #[.ref l, .int 0 0] } } →
      (s₂.heap.IsListIter s.heap.objs.size l 0 ∧ s₂.heap.IsList l items) → l ≠ s.heap.objs.size → Q (.ref s.heap.objs.size) s₂) : wpAny (model prog w) A (pyIter (.ref l)) Q E s := by
  have hlt : l < s.heap.objs.size := by obtain ⟨_, e, _⟩ := hl; exact Heap.lt_size e
  exact wpAny_pyIter_list hl (h _ rfl ⟨⟨_, Heap.get?_push_size _ rfl, rfl, rfl⟩, hl.push _⟩ (Nat.ne_of_lt hlt))
theorem truth_bools {prog : Program} {w : World} {A : Around} {bs : List Bool} {its : List Value} (e : its = bs.map Value.bool) :
    TruthOf prog w A (fun i v => its.toArray[i]? = some v) (fun i => bs.getD i false) := fun i v s Q E hv hq => by
  have hv' : its[i]? = some v := by simpa using hv
  rw [e, List.getElem?_map] at hv'
  obtain ⟨b, hb, rfl⟩ := Option.map_eq_some_iff.mp hv'
  have hg : bs.getD i false = b := by rw [List.getD_eq_getElem?_getD, hb] <;> rfl
  have hq' : Q (bs.getD i false) s := hq
  rw [hg] at hq'
  exact wpAny_truthy_bool hq'
theorem any_range : ∀ bs : List Bool, (List.range bs.length).any (fun i => bs.getD i false) = bs.any id
  | [] => rfl
  | b :: bs => by
    rw [List.length_cons, List.range_succ_eq_map, List.any_cons, List.any_map, List.any_cons, ← any_range bs]
    all_goals rfl
theorem all_range : ∀ bs : List Bool, (List.range bs.length).all (fun i => bs.getD i false) = bs.all id
  | [] => rfl
  | b :: bs => by
    rw [List.length_cons, List.range_succ_eq_map, List.all_cons, List.all_map, List.all_cons, ← all_range bs]
    all_goals rfl
section
variable {X : Cx}
def rAny (K : PySem.W.Frag) : List V → Hp → VK → Prop := fun vs H Q => ∃ (a : Addr) (bs : List Bool), vs = [V.ref a] ∧ SqL K H a (bs.map V.bl) ∧ Q (.bl (bs.any id)) H
def rAll (K : PySem.W.Frag) : List V → Hp → VK → Prop := fun vs H Q => ∃ (a : Addr) (bs : List Bool), vs = [V.ref a] ∧ SqL K H a (bs.map V.bl) ∧ Q (.bl (bs.all id)) H
theorem cr_any (hc : X.calm = true) : CallR X (.builtin "any") (rAny X.K) := by
  intro pins s σ H vs us Q I r h
  obtain ⟨a, bs, rfl, hs, q⟩ := h
  obtain ⟨its, rv, hl, _⟩ := I.list hs
  rw [Vals.ref1 r]
  have hb := rv.bls
  refine call_any_walk (iter_any hl.isList fun s₂ e2 st hne => ?_)
  subst e2
  refine ⟨_, _, _, _, _, _, _, rfl, Walks.list (A := X.A.in1) (I.ok.hd hc) _ a hne its.toArray, st, truth_bools hb, fun h' tk hk => ?_⟩
  refine ⟨.bl _, H, I.kept fun b o eo => hk b o (fun hmem => ?_) (Heap.get?_push_of_some _ eo), ?_, q⟩
  · rcases List.mem_cons.mp hmem with e1 | hmem
    · exact absurd (e1 ▸ Heap.lt_size eo) (Nat.lt_irrefl _)
    · cases hmem
  · show Value.bool _ = Value.bool _
    rw [← any_range, hb, List.size_toArray, List.length_map]
theorem cr_all (hc : X.calm = true) : CallR X (.builtin "all") (rAll X.K) := by
  intro pins s σ H vs us Q I r h
  obtain ⟨a, bs, rfl, hs, q⟩ := h
  obtain ⟨its, rv, hl, _⟩ := I.list hs
  rw [Vals.ref1 r]
  have hb := rv.bls
  refine call_all_walk (iter_any hl.isList fun s₂ e2 st hne => ?_)
  subst e2
  refine ⟨_, _, _, _, _, _, _, rfl, Walks.list (A := X.A.in1) (I.ok.hd hc) _ a hne its.toArray, st, truth_bools hb, fun h' tk hk => ?_⟩
  refine ⟨.bl _, H, I.kept fun b o eo => hk b o (fun hmem => ?_) (Heap.get?_push_of_some _ eo), ?_, q⟩
  · rcases List.mem_cons.mp hmem with e1 | hmem
    · exact absurd (e1 ▸ Heap.lt_size eo) (Nat.lt_irrefl _)
    · cases hmem
  · show Value.bool _ = Value.bool _
    rw [← all_range, hb, List.size_toArray, List.length_map]
end
mutual
inductive Dp (K : PySem.W.Frag) (H : Hp) : V → PyData → Prop
  | non : Dp K H .non .none
  | bl (b : Bool) : Dp K H (.bl b) (.bool b)
  | int (i : Int) : Dp K H (.int i) (.int i)
  | str (x : Str) : Dp K H (.str x) (.str x)
  | lst {a : Addr} {xs : List V} {ds : List PyData} : SqL K H a xs → DpAll K H xs ds → Dp K H (.ref a) (.list ds)
  | tup {a : Addr} {xs : List V} {ds : List PyData} : SqT K H a xs → DpAll K H xs ds → Dp K H (.ref a) (.tuple ds)
inductive DpAll (K : PySem.W.Frag) (H : Hp) : List V → List PyData → Prop
  | nil : DpAll K H [] []
  | cons {v : V} {vs : List V} {d : PyData} {ds : List PyData} : Dp K H v d → DpAll K H vs ds → DpAll K H (v :: vs) (d :: ds)
end
section
variable {X : Cx} {pins : List (Addr × Obj)} {σ : St} {H : Hp} {s : Shared}
mutual
theorem Dp.reads (I : Inv X pins σ H s) : ∀ (d : PyData) (v : V) (u : Value), Dp X.K H v d → RelV v u → ∃ as, Reads s.heap u d as
  | .none, _, _, h, r => by
    cases h
    cases r
    exact ⟨_, Reads.none⟩
  | .bool b, _, _, h, r => by
    cases h
    cases r
    exact ⟨_, Reads.bool b⟩
  | .int i, _, _, h, r => by
    cases h
    obtain ⟨t, rfl⟩ := r
    exact ⟨_, Reads.int i t⟩
  | .str x, _, _, h, r => by
    cases h
    obtain ⟨t, rfl⟩ := r
    exact ⟨_, Reads.str x t⟩
  | .list ds, _, _, h, r => by
    cases h with
    | lst hs ha =>
      cases r
      obtain ⟨its, rv, ⟨o, n, ho, hc, _, hd⟩, _⟩ := I.list hs
      obtain ⟨as, hr⟩ := Dp.readsAll I ds _ its ha rv
      exact ⟨_, Reads.list ho hc hd hr⟩
  | .tuple ds, _, _, h, r => by
    cases h with
    | tup hs ha =>
      cases r
      obtain ⟨its, rv, ⟨o, ho, hc, n, hd⟩, _⟩ := I.tuple hs
      obtain ⟨as, hr⟩ := Dp.readsAll I ds _ its ha rv
      exact ⟨_, Reads.tuple ho hc hd hr⟩
  | .dict _, _, _, h, _ => by cases h
theorem Dp.readsAll (I : Inv X pins σ H s) : ∀ (ds : List PyData) (vs : List V) (us : List Value), DpAll X.K H vs ds → Vals vs us → ∃ as, ReadsAll s.heap us ds as
  | [], _, _, h, r => by
    cases h
    cases r
    exact ⟨_, ReadsAll.nil⟩
  | d :: ds, _, _, h, r => by
    cases h with
    | cons h1 h2 =>
      cases r with
      | cons r1 r2 =>
        obtain ⟨as, q1⟩ := Dp.reads I d _ _ h1 r1
        obtain ⟨bs, q2⟩ := Dp.readsAll I ds _ _ h2 r2
        exact ⟨_, ReadsAll.cons q1 q2⟩
end
end
section
variable {X : Cx}
def rEqD (K : PySem.W.Frag) : R2 := fun x y H Q => ∃ d e, Dp K H x d ∧ Dp K H y e ∧ SeqAt.shaped d = true ∧ SeqAt.shaped e = true ∧ Q (.bl (PyData.eqv d e)) H
def rNeD (K : PySem.W.Frag) : R2 := fun x y H Q => ∃ d e, Dp K H x d ∧ Dp K H y e ∧ SeqAt.shaped d = true ∧ SeqAt.shaped e = true ∧ Q (.bl (!PyData.eqv d e)) H
theorem op_eqD (hu : X.A.units + 64 < cLine) : OpR X (compareOp .Eq) (rEqD X.K) := by
  intro pins s σ H x y v u Q I rx ry h
  obtain ⟨d, e, hd, he, sd, se, q⟩ := h
  obtain ⟨as, r1⟩ := Dp.reads I d x v hd rx
  obtain ⟨bs, r2⟩ := Dp.reads I e y u he ry
  exact SeqAt.compareEq_shaped r1 r2 sd se hu ⟨.bl _, H, I, rfl, q⟩
theorem op_neD (hu : X.A.units + 64 < cLine) : OpR X (compareOp .NotEq) (rNeD X.K) := by
  intro pins s σ H x y v u Q I rx ry h
  obtain ⟨d, e, hd, he, sd, se, q⟩ := h
  obtain ⟨as, r1⟩ := Dp.reads I d x v hd rx
  obtain ⟨bs, r2⟩ := Dp.reads I e y u he ry
  exact SeqAt.compareNe_shaped r1 r2 sd se hu ⟨.bl _, H, I, rfl, q⟩
end
end L2
namespace L2
open PySem PySem.Spec PyProof.Rows
abbrev CellAt (h : Heap) (c : Addr) (v : Option Value) : Prop := h.IsCell c v
def relS (scope sc : Scope) : Scope :=
  { scope with names := scope.names.map fun (n, k) => if (k == .free && sc.kind == .function && sc.names.lookup n == some .cell) then (n, .cell) else (n, k) }
def cloFrom (cells : List (Str × Addr)) : List (Str × NameKind) → List (Str × Addr) → List (Str × Addr)
  | [], acc => acc
  | (n, k) :: r, acc => if k == .free then cloFrom cells r ((n, (cells.lookup n).getD 0) :: acc) else cloFrom cells r acc
theorem closure_loop (env : Env) (f : Str × NameKind → List (Str × Addr) → Sem (ForInStep (List (Str × Addr))))
    (hf : ∀ n k c, f (n, k) c = if k == .free then (do let a ← cellOf env n; pure (.yield ((n, a) :: c))) else pure (.yield c)) :
    ∀ (names : List (Str × NameKind)) (acc : List (Str × Addr)), (∀ y ∈ names, y.2 = .free → ∃ c, env.cells.lookup y.1 = some c) → forIn names acc f = pure (cloFrom env.cells names acc)
  | [], acc, _ => by rw [List.forIn_nil]; rfl
  | (n, k) :: r, acc, h => by
    rw [List.forIn_cons, hf]
    have ih := fun acc => closure_loop env f hf r acc fun y hy => h y (List.mem_cons_of_mem _ hy)
    unfold cloFrom
    by_cases hk : (k == NameKind.free) = true
    · rw [if_pos hk, if_pos hk]
      obtain ⟨c, hc⟩ := h (n, k) List.mem_cons_self (by simpa using hk)
      have e : cellOf env n = pure c := by unfold cellOf; rw [hc]
      rw [e]
      have e2 : (env.cells.lookup n).getD 0 = c := by rw [hc]; rfl
      rw [e2]
      exact ih _
    · rw [if_neg hk, if_neg hk]
      exact ih _
theorem closure_ok {scope : Scope} {env : Env} (h : ∀ y ∈ scope.names, y.2 = .free → ∃ c, env.cells.lookup y.1 = some c) : closureFor scope env = pure (cloFrom env.cells scope.names []) := by
  simp only [closureFor]
  rw [closure_loop env _ (fun n k c => rfl) scope.names [] h]
  rfl
theorem mem_lookup {α : Type} : ∀ {l : List (Str × α)} {n : Str} {c : α}, (n, c) ∈ l → ∃ c', l.lookup n = some c'
  | (k, v) :: r, n, c, h => by
    rw [List.lookup_cons]
    cases hb : n == k with
    | true => exact ⟨_, rfl⟩
    | false =>
      rcases List.mem_cons.mp h with e | h
      · cases e; simp at hb
      · exact mem_lookup h
theorem cloFrom_mem {cells : List (Str × Addr)} : ∀ {names : List (Str × NameKind)} {acc : List (Str × Addr)} {n : Str} {c : Addr}, (n, c) ∈ cloFrom cells names acc → (n, c) ∈ acc ∨ ((n, .free) ∈ names ∧ c = (cells.lookup n).getD 0)
  | [], _, _, _, h => .inl h
  | (m, k) :: r, acc, n, c, h => by
    unfold cloFrom at h
    split at h
    · rename_i hk
      have hk : k = .free := by simpa using hk
      rcases cloFrom_mem h with h | ⟨h1, h2⟩
      · rcases List.mem_cons.mp h with e | h
        · cases e; exact .inr ⟨hk ▸ List.mem_cons_self, rfl⟩
        · exact .inl h
      · exact .inr ⟨List.mem_cons_of_mem _ h1, h2⟩
    · rcases cloFrom_mem h with h | ⟨h1, h2⟩
      · exact .inl h
      · exact .inr ⟨List.mem_cons_of_mem _ h1, h2⟩
theorem cloFrom_acc {cells : List (Str × Addr)} : ∀ {names : List (Str × NameKind)} {acc : List (Str × Addr)} {p : Str × Addr}, p ∈ acc → p ∈ cloFrom cells names acc
  | [], _, _, h => h
  | (m, k) :: r, acc, p, h => by
    unfold cloFrom
    split
    · exact cloFrom_acc (List.mem_cons_of_mem _ h)
    · exact cloFrom_acc h
theorem cloFrom_has {cells : List (Str × Addr)} : ∀ {names : List (Str × NameKind)} {acc : List (Str × Addr)} {n : Str}, (n, .free) ∈ names → (n, (cells.lookup n).getD 0) ∈ cloFrom cells names acc
  | (m, k) :: r, acc, n, h => by
    unfold cloFrom
    rcases List.mem_cons.mp h with e | h
    · cases e
      exact cloFrom_acc List.mem_cons_self
    · split
      · exact cloFrom_has h
      · exact cloFrom_has h
theorem cells_mem : ∀ {names : List (Str × NameKind)} {h : Heap} {acc : List (Str × Addr)} {x : Str} {c : Addr}, (x, c) ∈ cellsFrom h.objs.size names acc →
    (x, c) ∈ acc ∨ ((x, .cell) ∈ names ∧ h.objs.size ≤ c ∧ CellAt (pushCells h names) c none)
  | [], _, _, _, _, h => .inl h
  | (n, k) :: r, h, acc, x, c, hm => by
    unfold cellsFrom at hm
    unfold pushCells
    split at hm
    · rename_i hk
      rw [if_pos hk]
      have hk : k = .cell := by simpa using hk
      rw [← Heap.size_push h { cls := .type "cell", data := .cell none }] at hm
      rcases cells_mem hm with hm | ⟨h1, h2, h3⟩
      · rcases List.mem_cons.mp hm with e | hm
        · cases e
          exact .inr ⟨hk ▸ List.mem_cons_self, Nat.le_refl _, _, pushCells_keeps r _ _ _ (Heap.get?_push_size _ rfl), rfl⟩
        · exact .inl hm
      · rw [Heap.size_push] at h2
        exact .inr ⟨List.mem_cons_of_mem _ h1, Nat.le_of_succ_le h2, h3⟩
    · rename_i hk
      rw [if_neg hk]
      rcases cells_mem hm with hm | ⟨h1, h2, h3⟩
      · exact .inl hm
      · exact .inr ⟨List.mem_cons_of_mem _ h1, h2, h3⟩
theorem cells_acc : ∀ {names : List (Str × NameKind)} {n : Nat} {acc : List (Str × Addr)} {p : Str × Addr}, p ∈ acc → p ∈ cellsFrom n names acc
  | [], _, _, _, h => h
  | (m, k) :: r, n, acc, p, h => by
    unfold cellsFrom
    split
    · exact cells_acc (List.mem_cons_of_mem _ h)
    · exact cells_acc h
theorem cells_has : ∀ {names : List (Str × NameKind)} {n : Nat} {acc : List (Str × Addr)} {x : Str}, (x, .cell) ∈ names → ∃ c, (x, c) ∈ cellsFrom n names acc
  | (m, k) :: r, n, acc, x, h => by
    unfold cellsFrom
    rcases List.mem_cons.mp h with e | h
    · cases e
      exact ⟨n, cells_acc List.mem_cons_self⟩
    · split
      · exact cells_has h
      · exact cells_has h
theorem cells_inj : ∀ {names : List (Str × NameKind)} {h : Heap} {acc : List (Str × Addr)} {x y : Str} {c : Addr}, (∀ p ∈ acc, p.2 < h.objs.size) → (∀ x y c, (x, c) ∈ acc → (y, c) ∈ acc → x = y) →
    (x, c) ∈ cellsFrom h.objs.size names acc → (y, c) ∈ cellsFrom h.objs.size names acc → x = y
  | [], _, _, _, _, _, _, hi, h1, h2 => hi _ _ _ h1 h2
  | (n, k) :: r, h, acc, x, y, c, hl, hi, h1, h2 => by
    unfold cellsFrom at h1 h2
    split at h1
    · rename_i hk
      rw [if_pos hk] at h2
      rw [← Heap.size_push h { cls := .type "cell", data := .cell none }] at h1 h2
      refine cells_inj (h := h.push _) (fun p hp => ?_) (fun x y c a b => ?_) h1 h2
      · rw [Heap.size_push]
        rcases List.mem_cons.mp hp with rfl | hp
        · exact Nat.lt_succ_self _
        · exact Nat.lt_succ_of_lt (hl p hp)
      · rcases List.mem_cons.mp a with e | a <;> rcases List.mem_cons.mp b with e' | b
        · cases e; cases e'; rfl
        · cases e; exact absurd (hl _ b) (Nat.lt_irrefl _)
        · cases e'; exact absurd (hl _ a) (Nat.lt_irrefl _)
        · exact hi _ _ _ a b
    · rename_i hk
      rw [if_neg hk] at h2
      exact cells_inj hl hi h1 h2
theorem newEnv_comp {M : Model} {A : Around} {E : Value → Shared → Prop} {s : Shared} {scope : Scope} {globals : Addr} {closure : List (Str × Addr)} {qual : Str} {func : Option Addr} {code : Value} {around : Env} {builtins : Addr} {Q : Env → Shared → Prop}
    (h : Q (newEnv scope s.heap.objs.size globals (cellsFrom (s.heap.objs.size + 1) scope.names closure) qual func code (some around) builtins)
      { s with heap := pushCells (s.heap.push { cls := .type "dict", data := .dict #[] }) scope.names }) :
    wpAny M A (newFunctionEnv scope globals closure [] qual func code (some around) builtins) Q E s := by
  simp only [newFunctionEnv, Option.isSome_some, if_true]
  refine wpAny_bind (wpAny_alloc ?_)
  refine wpAny_bind (wpAny_layCells _ (fun n k c => rfl) scope.names closure _ _ ?_)
  rw [show ({ s with heap := s.heap.push { cls := .type "dict", data := .dict #[] } } : Shared).heap.objs.size = s.heap.objs.size + 1 from Heap.size_push ..]
  rw [List.forIn_nil]
  exact wpAny_bind (wpAny_pure (wpAny_pure h))
theorem lookup_relS {sc : Scope} : ∀ {names : List (Str × NameKind)} {x : Str} {k : NameKind},
    (names.map fun (n, k) => if (k == NameKind.free && sc.kind == .function && sc.names.lookup n == some .cell) then (n, NameKind.cell) else (n, k)).lookup x = some k →
    ∃ k', names.lookup x = some k' ∧ (k = k' ∨ (k' = .free ∧ k = .cell))
  | [], _, _, h => by simp at h
  | (n, k₀) :: r, x, k, h => by
    have ih := @lookup_relS sc r x k
    have h' : List.lookup x ((if (k₀ == NameKind.free && sc.kind == .function && sc.names.lookup n == some .cell) = true then (n, NameKind.cell) else (n, k₀)) :: (r.map _)) = some k := h
    cases hx : x == n with
    | true =>
      simp only [List.lookup_cons, hx]
      by_cases hc : (k₀ == NameKind.free && sc.kind == .function && sc.names.lookup n == some .cell) = true
      · rw [if_pos hc] at h'
        simp only [List.lookup_cons, hx] at h'
        cases h'
        simp only [Bool.and_eq_true, beq_iff_eq] at hc
        exact ⟨k₀, rfl, .inr ⟨hc.1.1, rfl⟩⟩
      · rw [if_neg hc] at h'
        simp only [List.lookup_cons, hx] at h'
        cases h'
        exact ⟨_, rfl, .inl rfl⟩
    | false =>
      simp only [List.lookup_cons, hx]
      by_cases hc : (k₀ == NameKind.free && sc.kind == .function && sc.names.lookup n == some .cell) = true
      · rw [if_pos hc] at h'
        simp only [List.lookup_cons, hx] at h'
        exact ih h'
      · rw [if_neg hc] at h'
        simp only [List.lookup_cons, hx] at h'
        exact ih h'
structure BlkOk (N : List Str) (sc scope : Scope) (own : List (Str × Nat)) : Prop where
  kind : scope.kind = .function
  uniq : ∀ y ∈ scope.names, scope.names.lookup y.1 = some y.2
  ix : ∀ p ∈ own, N[p.2]? = some p.1
  free : ∀ y ∈ scope.names, y.2 = .free → sc.names.lookup y.1 = some .cell ∨ sc.names.lookup y.1 = some .free
  own : ∀ y ∈ scope.names, y.2 = .local ∨ y.2 = .cell → y.1 ∈ own.map (·.1) ∨ y.1 ∉ N
def wipe (σ : St) : List Nat → St
  | [] => σ
  | v :: vs => (wipe σ vs).set v none
theorem wipe_length (σ : St) : ∀ vs : List Nat, (wipe σ vs).length = σ.length
  | [] => rfl
  | v :: vs => by unfold wipe; rw [List.length_set, wipe_length σ vs]
theorem wipe_some {σ : St} {i : Nat} {x : V} : ∀ {vs : List Nat}, (wipe σ vs)[i]? = some (some x) → σ[i]? = some (some x) ∧ i ∉ vs
  | [], h => ⟨h, by simp⟩
  | v :: vs, h => by
    unfold wipe at h
    by_cases hi : v = i
    · subst hi
      by_cases hv : v < (wipe σ vs).length
      · rw [List.getElem?_set_self hv] at h; cases h
      · rw [List.getElem?_eq_none (by simpa using hv)] at h; cases h
    · rw [List.getElem?_set_ne hi] at h
      obtain ⟨h1, h2⟩ := wipe_some h
      exact ⟨h1, by simp only [List.mem_cons, not_or]; exact ⟨fun e => hi e.symm, h2⟩⟩
abbrev Cx.blk (X : Cx) (s : Shared) (H : Hp) (scope : Scope) (cenv : Env) (fp : List Addr) : Cx := { X with s_0 := s, H_0 := H, env := cenv, outer := X.stack, ex := fp, fn := fun x => scope.names.lookup x == some .cell, pn := [], xe := fun _ _ => False }
section
variable {X : Cx} {pins : List (Addr × Obj)} {σ : St} {H : Hp} {s : Shared}
theorem block_start {scope : Scope} {own : List (Str × Nat)} {fp : List Addr} (I : Inv X pins σ H s) (ok : BlkOk X.N X.env.scope scope own) (hN : X.N.Nodup) (hfp : ∀ b ∈ fp, FpOk X pins H b ∧ b < s.heap.objs.size) :
    Inv (X.blk s H scope (compEnvC scope (cellsFrom (s.heap.objs.size + 1) scope.names (cloFrom X.env.cells scope.names [])) s.heap.objs.size X.env) fp) [] (wipe σ (own.map (·.2))) H { s with heap := pushCells (s.heap.push { cls := .type "dict", data := .dict #[] }) scope.names } := by
  have hfree : ∀ y ∈ scope.names, y.2 = .free → ∃ c, X.env.cells.lookup y.1 = some c := fun y hy e => by
    rcases ok.free y hy e with k | k
    · exact I.ok.has _ (.inl k)
    · exact I.ok.has _ (.inr k)
  generalize hcenv : compEnvC scope (cellsFrom (s.heap.objs.size + 1) scope.names (cloFrom X.env.cells scope.names [])) s.heap.objs.size X.env = cenv
  have kp : ∀ b o, s.heap.get? b = some o → (pushCells (s.heap.push { cls := .type "dict", data := .dict #[] }) scope.names).get? b = some o := fun b o e => pushCells_keeps _ _ _ _ (Heap.get?_push_of_some _ e)
  have hL : cenv.locals = s.heap.objs.size := by rw [← hcenv]; rfl
  have hcl : cenv.cells = cellsFrom (s.heap.objs.size + 1) scope.names (cloFrom X.env.cells scope.names []) := by rw [← hcenv]; rfl
  have hsc : cenv.scope = relS scope X.env.scope := by rw [← hcenv]; rfl
  rw [← Heap.size_push s.heap { cls := .type "dict", data := .dict #[] }] at hcl
  have cm : ∀ {y c}, (y, c) ∈ cloFrom X.env.cells scope.names [] → X.env.cells.lookup y = some c ∧ c < s.heap.objs.size := fun {y c} hm => by
    rcases cloFrom_mem hm with hm | ⟨h1, rfl⟩
    · cases hm
    · obtain ⟨c, hc⟩ := hfree _ h1 rfl
      rw [hc]
      obtain ⟨w, z⟩ := I.cell _ _ hc
      exact ⟨rfl, z.lt⟩
  have mem : ∀ {y c}, cenv.cells.lookup y = some c → (X.env.cells.lookup y = some c ∧ c < s.heap.objs.size) ∨ (s.heap.objs.size + 1 ≤ c ∧ CellAt (pushCells (s.heap.push { cls := .type "dict", data := .dict #[] }) scope.names) c none) := fun {y c} e => by
    rw [hcl] at e
    rcases cells_mem (PySem.mem_of_lookup e) with hm | ⟨_, h2, h3⟩
    · exact .inl (cm hm)
    · rw [Heap.size_push] at h2; exact .inr ⟨h2, h3⟩
  have look : ∀ {y}, scope.names.lookup y = some .free → ∃ c, cenv.cells.lookup y = some c ∧ X.env.cells.lookup y = some c := fun {y} hl => by
    have hy : (y, NameKind.free) ∈ scope.names := PySem.mem_of_lookup hl
    obtain ⟨c', e'⟩ := mem_lookup (cells_acc (names := scope.names) (n := (s.heap.push { cls := .type "dict", data := .dict #[] }).objs.size) (cloFrom_has (cells := X.env.cells) (acc := []) hy))
    rw [← hcl] at e'
    refine ⟨c', e', ?_⟩
    rw [hcl] at e'
    rcases cells_mem (PySem.mem_of_lookup e') with hm | ⟨h1, _, _⟩
    · exact (cm hm).1
    · have := ok.uniq _ h1
      rw [hl] at this; cases this
  have okB : (X.blk s H scope cenv fp).Ok := by
    refine ⟨I.ok.mod, by show cenv.scope.kind = _; rw [hsc]; exact ok.kind, by show cenv.globals = _; rw [← hcenv]; exact I.ok.glob, by show cenv.builtins = _; rw [← hcenv]; exact I.ok.blt, by show s.heap.objs.size ≤ cenv.locals; rw [hL]; exact Nat.le_refl _,
      fun y z c e1 e2 => ?_, fun y hy => ?_, fun y c z e => ?_, I.ok.hd, I.ok.frames, .inl rfl, fun b hb => ⟨?_, fun y c e z => ?_⟩, I.bs, Nat.le_trans I.ok.bsz I.sz, fun b o e hb => ?_, fun b hb z => ?_, I.stack, I.stkFree⟩
    · have e1 : cenv.cells.lookup y = some c := e1
      have e2 : cenv.cells.lookup z = some c := e2
      rw [hcl] at e1 e2
      refine cells_inj (fun p hp => ?_) (fun y z c a b => I.ok.inj y z c (cm a).1 (cm b).1) (PySem.mem_of_lookup e1) (PySem.mem_of_lookup e2)
      rw [Heap.size_push]
      exact Nat.lt_succ_of_lt (cm (y := p.1) (c := p.2) hp).2
    · show ∃ c, cenv.cells.lookup y = some c
      have key : ∀ k, cenv.kindOf y = some k → (k = .cell ∨ k = .free) → ∃ c, cenv.cells.lookup y = some c := fun k hk hk' => by
        unfold Env.kindOf at hk
        rw [hsc] at hk
        obtain ⟨k', e, r⟩ := lookup_relS hk
        have : k' = .cell ∨ k' = .free := by
          rcases r with rfl | ⟨rfl, _⟩
          · exact hk'
          · exact .inr rfl
        rcases this with rfl | rfl
        · obtain ⟨c, hm⟩ := cells_has (n := (s.heap.push { cls := .type "dict", data := .dict #[] }).objs.size) (acc := cloFrom X.env.cells scope.names []) (PySem.mem_of_lookup e)
          obtain ⟨c', e'⟩ := mem_lookup hm
          exact ⟨c', by rw [hcl]; exact e'⟩
        · obtain ⟨c, h1, _⟩ := look e
          exact ⟨c, h1⟩
      rcases hy with hy | hy
      · exact key _ hy (.inl rfl)
      · exact key _ hy (.inr rfl)
    · have z : (scope.names.lookup y == some NameKind.cell) = true := z
      have z : scope.names.lookup y = some .cell := by simpa using z
      have e : cenv.cells.lookup y = some c := e
      rw [hcl] at e
      rcases cells_mem (PySem.mem_of_lookup e) with hm | ⟨_, h2, _⟩
      · rcases cloFrom_mem hm with hm | ⟨h1, _⟩
        · cases hm
        · have q := ok.uniq _ h1
          rw [z] at q; cases q
      · rw [Heap.size_push] at h2
        exact Nat.le_of_succ_le h2
    · show b ≠ cenv.locals
      rw [hL]; exact Nat.ne_of_lt (hfp b hb).2
    · have e : cenv.cells.lookup y = some c := e
      rcases mem e with ⟨h1, _⟩ | ⟨h1, _⟩
      · exact (hfp b hb).1.2.2.2.2.1 y c h1 z
      · have h2 : s.heap.objs.size + 1 ≤ b := by rw [← z]; exact h1
        exact absurd (Nat.lt_of_lt_of_le (hfp b hb).2 (Nat.le_of_succ_le h2)) (Nat.lt_irrefl _)
    · rcases (hfp b hb).1.2.2.2.1 with z | z
      · exact I.ok.noex b o e z
      · exact absurd (Nat.lt_of_lt_of_le (Heap.lt_size e) (Nat.le_trans I.ok.bsz z)) (Nat.lt_irrefl _)
    · rcases List.mem_cons.mp (I.stkSub b z) with z | z
      · exact (hfp b hb).1.2.1 z
      · exact (hfp b hb).1.2.2.1 z
  refine ⟨okB, rfl, I.bare, Un.kept kp, ⟨fun _ => none, ?_, fun i y av e1 e2 e3 => ?_⟩, fun y c e => ?_, ?_, fun y c e => ?_, fun p hp => ?_, I.hok.kept kp, by rw [wipe_length]; exact I.len⟩
  · show Heap.Ns _ cenv.locals _
    rw [hL]
    exact Heap.Ns.keeps (Heap.Ns.new ..) fun b o e => pushCells_keeps _ _ _ _ e
  · obtain ⟨e2, hne⟩ := wipe_some e2
    have hfr : scope.names.lookup y = some .free ∧ (cenv.kindOf y = some .cell ∨ cenv.kindOf y = some .free) := by
      have key : ∀ k, cenv.scope.names.lookup y = some k → k = .local ∨ k = .cell ∨ k = .free → scope.names.lookup y = some .free ∧ (cenv.kindOf y = some .cell ∨ cenv.kindOf y = some .free) := fun k hk hk' => by
        have hk0 := hk
        rw [hsc] at hk
        obtain ⟨k', e, r⟩ := lookup_relS hk
        have no : ¬ (k' = .local ∨ k' = .cell) := fun hh => by
          rcases ok.own _ (PySem.mem_of_lookup e) hh with e' | e'
          · obtain ⟨p, hp, hpy⟩ := List.mem_map.mp e'
            have e3 := ok.ix p hp
            have : p.1 = y := hpy
            rw [this] at e3
            exact hne (List.mem_map.mpr ⟨p, hp, nodup_ix hN e3 e1⟩)
          · exact e' (List.mem_of_getElem? e1)
        rcases r with rfl | ⟨rfl, rfl⟩
        · rcases hk' with rfl | rfl | rfl
          · exact absurd (.inl rfl) no
          · exact absurd (.inr rfl) no
          · exact ⟨e, .inr hk0⟩
        · exact ⟨e, .inl hk0⟩
      have e3 : Vis cenv.scope y := e3
      rcases e3 with e3 | e3 | e3
      · exact key _ e3 (.inl rfl)
      · exact key _ e3 (.inr (.inl rfl))
      · exact key _ e3 (.inr (.inr rfl))
    obtain ⟨m, hn, hl⟩ := I.loc
    have hvis : Vis X.env.scope y := (ok.free _ (PySem.mem_of_lookup hfr.1) rfl).elim (fun k => .inr (.inl k)) (fun k => .inr (.inr k))
    obtain ⟨w, r, q⟩ := hl i y av e1 e2 hvis
    refine ⟨w, r, .inr ⟨hfr.2, ?_⟩⟩
    obtain ⟨c, h1, h2⟩ := look hfr.1
    rcases q with ⟨k, _⟩ | ⟨_, c', e', z⟩
    · have k : X.env.scope.names.lookup y = some .local := k
      rcases ok.free _ (PySem.mem_of_lookup hfr.1) rfl with k' | k' <;> rw [show X.env.scope.names.lookup y = _ from k'] at k <;> cases k
    · rw [h2] at e'; cases e'
      exact ⟨c, h1, z.keeps kp⟩
  · have e : cenv.cells.lookup y = some c := e
    rcases mem e with ⟨h1, _⟩ | ⟨_, z⟩
    · obtain ⟨w, z⟩ := I.cell y c h1
      exact ⟨w, z.keeps kp⟩
    · exact ⟨_, z⟩
  · show H cenv.locals = none
    rw [hL]; exact I.hok.fresh (Nat.le_refl _)
  · have e : cenv.cells.lookup y = some c := e
    rcases mem e with ⟨h1, _⟩ | ⟨h1, _⟩
    · exact I.freeC y c h1
    · exact I.hok.fresh (Nat.le_of_succ_le h1)
  · exact absurd (show p ∈ ([] : List (Addr × Obj)) ++ [] from hp) (by simp)
theorem app_ok {E : Value → Shared → Prop} {D : Addr} {xs : List V} {y : V} {v : Value} {Q : Value → Shared → Prop} (I : Inv X pins σ H s) (hD : H D = some (.lst xs)) (hz : xs.length < sizeLine) (r : RelV y v)
    (h : ∀ s', Inv X pins σ (upd H D (.lst (xs ++ [y]))) s' → Q .none s') : wpAny (model X.prog X.w) X.A (call (.builtin "list.append") [.ref D, v]) Q E s := by
  obtain ⟨hz', its, n, ri, e⟩ := I.hok D _ hD
  have hl := ri.length
  refine append_at (hsz := by rw [List.size_toArray]; omega) e fun h' sb ho' => ?_
  refine h { s with heap := h' } (I.write (t' := s.toks) (by rw [hD]; trivial) (.inl rfl) (fun b u hb q => (sb.2 b hb).trans q) ⟨_, ho'⟩ ⟨by rw [List.length_append]; exact hz, its ++ [v], n + 1, ri.append (.cons r .nil), ?_⟩)
  rw [ho']
  simp
def PTs (X : Cx) (ifs : List Expr) (t : TT) : Prop :=
  ∀ (pins : List (Addr × Obj)) (s : Shared) (σ : St) (H : Hp) (Q : Bool → Hp → Prop), Inv X pins σ H s → t σ H Q →
    wpAny (model X.prog X.w) X.A (forIn ifs true fun c r => if r = true then do let ok ← isTrue c X.env (eval c X.env); pure (ForInStep.yield ok) else pure (ForInStep.yield r)) (TP X pins σ Q) X.xe s
def tYes : TT := fun _ H Q => Q true H
theorem pts_nil : PTs X [] tYes := fun _ _ _ H _ I h => wpAny_tests_nil ⟨H, I, h⟩
theorem pts_one {c : Expr} {t : TT} (h : PT X c t) : PTs X [c] t := fun pins s σ H Q I hw => wpAny_tests_one (h pins s σ H Q I hw)
end
theorem thnF {α : Type} {t : Sem α} {Q Q' : α → Shared → Prop} {M : Model} {A : Around} {E : Value → Shared → Prop} {s : Shared} (h : wpAny M A t Q (fun _ _ => False) s) (hQ : ∀ a s, Q a s → Q' a s) : wpAny M A t Q' E s := wpAny_mono h hQ fun _ _ z => False.elim z
theorem compLoop_any {prog : Program} {w : World} {A : Around} {R : Result → Shared → Prop} {s : Shared} {elt target iter : Expr} {ifs : List Expr} {scope : Scope} {pos : Pos} {it acc : Value} {env : Env} (I : Nat → Shared → Prop)
    (turn : ∀ n s, I n s → wpAny (model prog w) A (pyNext it) (fun r s₁ => match r with
      | none => R (.ok .next) s₁
      | some v => wpAny (model prog w) A (letOwnedTupleGo target it v) (fun _ s₁' => wpAny (model prog w) A (assign target env v) (fun _ s₂ =>
          wpAny (model prog w) A (forIn ifs true fun c r => if r = true then do let ok ← isTrue c env (eval c env); pure (ForInStep.yield ok) else pure (ForInStep.yield r)) (fun ok s₃ =>
            if ok = true then wpAny (model prog w) A (eval elt env) (fun x s₄ =>
              wpAny (model prog w) A (call (.builtin "list.append") [acc, x]) (fun _ s₅ => ∃ m, m < n ∧ I m s₅) (notedBy (model prog w) A env fun e s' => R (.error e) s') s₄) (notedBy (model prog w) A env fun e s' => R (.error e) s') s₃
            else ∃ m, m < n ∧ I m s₃) (notedBy (model prog w) A env fun e s' => R (.error e) s') s₂) (notedBy (model prog w) A env fun e s' => R (.error e) s') s₁') (notedBy (model prog w) A env fun e s' => R (.error e) s') s₁) (notedBy (model prog w) A env fun e s' => R (.error e) s') s)
    (n : Nat) (h : I n s) :
    codeAny (model prog w) A (.compLoop (.ListComp elt [⟨target, iter, ifs, 0⟩] scope pos) 0 it acc env) R s := by
  refine codeAny_loop rfl I (fun n s hI => ?_) n h
  show wpAny _ A ((compTurn (.ListComp elt [⟨target, iter, ifs, 0⟩] scope pos) 0 it acc env).onRaise (fun x => do noteFrame x env; theTreesLotGoes x)) _ _ s
  refine wpAny_noted ?_
  rw [compTurn_list]
  refine wpAny_bind (wpAny_standAt (wpAny_bind (wpAny_mono (turn n s hI) (fun r s₁ h₁ => ?_) fun _ _ h' => h')))
  cases r with
  | none => exact wpAny_pure h₁
  | some v =>
    refine wpAny_bind (wpAny_mono h₁ (fun _ s₁' h₁' => ?_) fun _ _ h' => h')
    refine wpAny_bind (wpAny_mono h₁' (fun _ s₂ h₂ => wpAny_bind (wpAny_mono h₂ (fun ok s₃ h₃ => ?_) fun _ _ h' => h')) fun _ _ h' => h')
    cases ok with
    | false => exact wpAny_pure ⟨rfl, h₃⟩
    | true =>
      exact wpAny_bind (wpAny_bind (wpAny_mono h₃ (fun x s₄ h₄ => wpAny_bind (wpAny_mono h₄ (fun _ s₅ h₅ => wpAny_pure (wpAny_pure ⟨rfl, h₅⟩)) fun _ _ h' => h')) fun _ _ h' => h'))
section
variable {X : Cx}
def tLc (wi : TI) (g : TG) (tt : TT) (te : TE) (vs : List Nat) : TE := fun σ H Q => wi σ H fun J H1 => ∀ D, H1 D = none → ∃ W : Nat → Nat → Hp → Prop, (∃ m, W 0 m (upd H1 D (.lst []))) ∧ ∀ i m H, W i m H →
  (J.stop i H ∧ Q (.ref D) H) ∨ (J.go i H ∧ ∃ Nx : Hp → Prop, (∀ H', Nx H' → ∃ m', m' < m ∧ W (i + 1) m' H') ∧ ∀ x H', J.yld i H x H' → g x (wipe σ vs) H' fun σ2 H2 => wipe σ2 vs = wipe σ vs ∧ tt σ2 H2 fun b H3 =>
    if b = true then te σ2 H3 fun y H4 => ∃ acc, H4 D = some (.lst acc) ∧ acc.length < sizeLine ∧ Nx (upd H4 D (.lst (acc ++ [y]))) else Nx H3)
theorem lc_core {pins : List (Addr × Obj)} {s : Shared} {σ : St} {H : Hp} {Q : VK} {elt tg iter : Expr} {ifs : List Expr} {scope : Scope} {own : List (Str × Nat)} {pos pos' : Pos} {wi : TI} {g : TG} {tt : TT} {te : TE} {use : Option (Value → Sem Unit)} {Qf : Value → Shared → Prop}
    (hc : X.calm = true) (hN : X.N.Nodup) (I : Inv X pins σ H s) (hi : PI X tg iter wi) (ok : BlkOk X.N X.env.scope scope own)
    (hg : ∀ (s : Shared) (H : Hp) (C : Addr) (cl : List (Str × Addr)) (fp : List Addr), PG (X.blk s H scope (compEnvC scope cl C X.env) fp) tg g) (ht : ∀ (s : Shared) (H : Hp) (C : Addr) (cl : List (Str × Addr)) (fp : List Addr), PTs (X.blk s H scope (compEnvC scope cl C X.env) fp) ifs tt)
    (he : ∀ (s : Shared) (H : Hp) (C : Addr) (cl : List (Str × Addr)) (fp : List Addr), PE (X.blk s H scope (compEnvC scope cl C X.env) fp) elt te) (hs : ∀ x, foldedSetIterable iter X.env x = pure x)
    (h : tLc wi g tt te (own.map (·.2)) σ H Q)
    (hRR : ∀ D C s' m H', Inv X pins σ H' s' → Q (.ref D) H' → s'.heap.Ns C m → FpOk X pins H' C → compPost (model X.prog X.w) X.A X.xe use Qf (.ref D) C (.ok .next) s') :
    wpAny (model X.prog X.w) X.A (comprehension (.ListComp elt [⟨tg, iter, ifs, 0⟩] scope pos) scope X.env pos' (newList []) false (eval iter X.env) use) Qf X.xe s := by
  have hfree : ∀ y ∈ scope.names, y.2 = .free → ∃ c, X.env.cells.lookup y.1 = some c := fun y hy e => by
    rcases ok.free y hy e with k | k
    · exact I.ok.has _ (.inl k)
    · exact I.ok.has _ (.inr k)
  refine wpAny_comprehension_free (use := use) rfl hs (closure_ok hfree) ok.kind (fun y hy e => by rw [ok.uniq y hy, e])
    (thn (hi pins s σ H _ I h) fun xv s1 hx => thn hx fun itv s2 h2 => ?_)
  obtain ⟨it, fp, tn, J, H2, e, I2, T, st2, f2, q⟩ := h2
  subst e
  refine wpAny_newObj_type (newEnv_comp ?_) (by show 0 ≤ sizeLine; decide)
  generalize hD : s2.heap.objs.size = D
  have hDn : H2 D = none := I2.hok.fresh (Nat.le_of_eq hD)
  obtain ⟨W, ⟨m0, w0⟩, turn⟩ := q D hDn
  generalize hs3 : ({ s2 with heap := s2.heap.push { cls := .type "list", data := .seq ([] : List Value).toArray } } : Shared) = s3
  have I3 : Inv X pins σ (upd H2 D (.lst [])) s3 := by
    rw [← hs3]
    refine I2.laid (t' := s2.toks) (fun b o e => Heap.get?_push_of_some _ e) (Nat.le_of_eq hD) ⟨Nat.zero_le _, [], 0, .nil, ?_⟩
    rw [← hD]
    exact Heap.get?_push_size _ rfl
  have h3 : s3.heap = s2.heap.push { cls := .type "list", data := .seq ([] : List Value).toArray } := by rw [← hs3]
  have sz : ∀ b ∈ fp, b < s2.heap.objs.size := fun b hb => by
    obtain ⟨o, e, _⟩ := T.obj _ _ st2 b hb
    exact Heap.lt_size e
  have f3 : ∀ b ∈ fp, FpOk X pins (upd H2 D (.lst [])) b ∧ b < s3.heap.objs.size := fun b hb => by
    have hlt := sz b hb
    refine ⟨⟨?_, (f2 b hb).2⟩, by rw [h3, Heap.size_push]; exact Nat.lt_succ_of_lt hlt⟩
    rw [upd_ne (by rw [← hD]; exact Nat.ne_of_lt hlt)]
    exact (f2 b hb).1
  have st3 : tn 0 s3.heap := T.keep _ _ _ st2 fun b _ o e => by rw [h3]; exact Heap.get?_push_of_some _ e
  have I4 := block_start I3 ok hN f3
  have pg := hg s3 (upd H2 D (.lst [])) s3.heap.objs.size (cellsFrom (s3.heap.objs.size + 1) scope.names (cloFrom X.env.cells scope.names [])) fp
  have pt := ht s3 (upd H2 D (.lst [])) s3.heap.objs.size (cellsFrom (s3.heap.objs.size + 1) scope.names (cloFrom X.env.cells scope.names [])) fp
  have pe := he s3 (upd H2 D (.lst [])) s3.heap.objs.size (cellsFrom (s3.heap.objs.size + 1) scope.names (cloFrom X.env.cells scope.names [])) fp
  show codeAny _ _ (.compStart (.ListComp elt [⟨tg, iter, ifs, 0⟩] scope pos) 0 (.ref it) (.ref D) (compEnvC scope (cellsFrom (s3.heap.objs.size + 1) scope.names (cloFrom X.env.cells scope.names [])) s3.heap.objs.size X.env)) (compPost (model X.prog X.w) X.A X.xe use Qf (.ref D) s3.heap.objs.size) { s3 with heap := pushCells (s3.heap.push { cls := .type "dict", data := .dict #[] }) scope.names }
  have nfp : ∀ b ∈ fp, (upd H2 D (.lst [])) b = none := fun b hb => (f3 b hb).1.1
  generalize hce : compEnvC scope (cellsFrom (s3.heap.objs.size + 1) scope.names (cloFrom X.env.cells scope.names [])) s3.heap.objs.size X.env = ce at I4 pg pt pe ⊢
  have cL : ce.locals = s3.heap.objs.size := by subst hce; rfl
  generalize hH3 : upd H2 D (.lst []) = H3 at I3 I4 pg pt pe w0 nfp f3
  generalize hs4 : ({ s3 with heap := pushCells (s3.heap.push { cls := .type "dict", data := .dict #[] }) scope.names } : Shared) = s4 at I4 ⊢
  have st4 : tn 0 s4.heap := T.keep _ _ _ st3 fun b _ o e => by rw [← hs4]; exact pushCells_keeps _ _ _ _ (Heap.get?_push_of_some _ e)
  have stat : ∀ {σ' : St} {H' : Hp} {s' : Shared}, Inv (X.blk s3 H3 scope ce fp) [] σ' H' s' → (∀ b ∈ fp, H' b = none) → ∀ b ∈ fp, FpOk (X.blk s3 H3 scope ce fp) [] H' b := fun {σ' H' s'} I' hn b hb =>
    ⟨hn b hb, (I'.ok.exf b hb).1, I'.ok.exfs b hb, .inl hb, fun x c e => (I'.ok.exf b hb).2 x c e, fun p hp => absurd (show p ∈ ([] : List (Addr × Obj)) ++ [] from hp) (by simp)⟩
  have loop : codeAny (model X.prog X.w) X.A (.compLoop (.ListComp elt [⟨tg, iter, ifs, 0⟩] scope pos) 0 (.ref it) (.ref D) ce) (compPost (model X.prog X.w) X.A X.xe use Qf (.ref D) s3.heap.objs.size) s4 := by
    refine compLoop_any (fun n s' => ∃ i H', Inv (X.blk s3 H3 scope ce fp) [] (wipe σ (own.map (·.2))) H' s' ∧ tn i s'.heap ∧ (∀ b ∈ fp, H' b = none) ∧ W i n H') ?_ m0 ⟨0, H3, I4, st4, nfp, w0⟩
    rintro n s5 ⟨i, H5, I5, st5, n5, w5⟩
    rcases turn i n H5 w5 with ⟨stop, qq⟩ | ⟨go, Nx, hNx, step⟩
    · have td := T.done (X.blk s3 H3 scope ce fp) rfl rfl rfl hc i [] s5 _ H5 (fun _ _ => False) I5 (stat I5 n5) st5 stop
      refine thnF td fun r s6 ⟨hr, I6⟩ => ?_
      subst hr
      have I7 : Inv X pins σ H5 s6 := I3.call' (ch := fp) I6.os I6.base I6.hok I6.bare fun b hb => ⟨(f3 b hb).1.2.2.2.1, (f3 b hb).1.2.1, (f3 b hb).1.2.2.2.2.1, (f3 b hb).1.2.2.2.2.2⟩
      have nC : H5 s3.heap.objs.size = none := by
        have z : H5 ce.locals = none := I6.free
        rw [cL] at z
        exact z
      obtain ⟨m, hn, _⟩ := I6.loc
      have hn : s6.heap.Ns ce.locals m := hn
      rw [cL] at hn
      exact hRR D s3.heap.objs.size s6 m H5 I7 qq hn (I3.fpOk (Nat.le_refl _) nC)
    · have ti := T.item (X.blk s3 H3 scope ce fp) rfl rfl rfl hc i [] s5 _ H5 (fun _ _ => False) I5 (stat I5 n5) st5 go
      refine thnF ti fun r s6 ⟨u, hr, h6⟩ => ?_
      subst hr
      refine thnF h6 fun _ s7 ⟨x, H7, I7, r7, y7, st7, n7⟩ => ?_
      have I7' := I7.pinned (stat I7 n7) (T.obj _ _ st7)
      refine thnF (pg _ s7 _ H7 x u _ I7' r7 (step x H7 y7)) fun _ s8 ⟨σ8, H8, I8, hw8, q8⟩ => ?_
      refine thnF (pt _ s8 σ8 H8 _ I8 q8) fun b s9 ⟨H9, I9, q9⟩ => ?_
      have fin : ∀ {s' : Shared} {H' : Hp}, Inv (X.blk s3 H3 scope ce fp) ([] ++ pinsAt fp s7.heap) σ8 H' s' → Nx H' → ∃ m, m < n ∧ ∃ i H', Inv (X.blk s3 H3 scope ce fp) [] (wipe σ (own.map (·.2))) H' s' ∧ tn i s'.heap ∧ (∀ b ∈ fp, H' b = none) ∧ W i m H' := fun {s' H'} I' nx => by
        obtain ⟨m', hm, w'⟩ := hNx H' nx
        have pin' : ∀ b ∈ fp, ∀ o, s7.heap.get? b = some o → s'.heap.get? b = some o ∧ H' b = none := fun b hb o e =>
          let z := I'.pin (b, o) (List.mem_append_right _ (List.mem_append_right _ (mem_pinsAt hb e)))
          ⟨z.1, z.2.1⟩
        have hl : (wipe σ (own.map (·.2))).length = σ8.length := by rw [← hw8, wipe_length]
        refine ⟨m', hm, i + 1, H', (I'.unpinned (pins := [])).weak hl (fun j v e => ?_), T.keep _ _ _ st7 fun b hb o e => (pin' b hb o e).1, fun b hb => ?_, w'⟩
        · rw [← hw8] at e
          exact (wipe_some e).1
        · obtain ⟨o, e, _⟩ := T.obj _ _ st7 b hb
          exact (pin' b hb o e).2
      cases b with
      | false =>
        simp only [Bool.false_eq_true, if_false] at q9 ⊢
        exact fin I9 q9
      | true =>
        simp only [if_true] at q9 ⊢
        refine thnF (pe _ s9 σ8 H9 _ I9 q9) fun z s10 ⟨yv, H10, I10, r10, acc, hD10, hz10, nx⟩ => ?_
        exact app_ok (X := X.blk s3 H3 scope ce fp) I10 hD10 hz10 r10 fun s11 I11 => fin I11 nx
  exact codeAny_compStart_list loop (T.self X.A 0 _ _ _ st4 loop)
theorem pe_lc {elt tg iter : Expr} {ifs : List Expr} {scope : Scope} {own : List (Str × Nat)} {pos : Pos} {wi : TI} {g : TG} {tt : TT} {te : TE} (hc : X.calm = true) (hN : X.N.Nodup) (hi : PI X tg iter wi) (ok : BlkOk X.N X.env.scope scope own)
    (hg : ∀ (s : Shared) (H : Hp) (C : Addr) (cl : List (Str × Addr)) (fp : List Addr), PG (X.blk s H scope (compEnvC scope cl C X.env) fp) tg g) (ht : ∀ (s : Shared) (H : Hp) (C : Addr) (cl : List (Str × Addr)) (fp : List Addr), PTs (X.blk s H scope (compEnvC scope cl C X.env) fp) ifs tt)
    (he : ∀ (s : Shared) (H : Hp) (C : Addr) (cl : List (Str × Addr)) (fp : List Addr), PE (X.blk s H scope (compEnvC scope cl C X.env) fp) elt te) (hs : ∀ x, foldedSetIterable iter X.env x = pure x := by intro _; rfl) :
    PE X (.ListComp elt [⟨tg, iter, ifs, 0⟩] scope pos) (tLc wi g tt te (own.map (·.2))) := by
  intro pins s σ H Q I h
  rw [eval_ListComp]
  refine lc_core hc hN I hi ok hg ht he hs h fun D C s' m H' I' q hn f => ⟨m, hn, fun h'' sb => ?_⟩
  obtain ⟨f0, f1, f2, f3, f4, f5⟩ := f
  exact ⟨.ref D, H', I'.turned (t' := s'.toks) (fun b o hb e => (sb.2 b hb).trans e) f0 f1 f3 f4 f5, rfl, q⟩
theorem ps_setLc {i : Nat} {y : Str} {py : Pos} {elt tg iter : Expr} {ifs : List Expr} {scope : Scope} {own : List (Str × Nat)} {pos spos : Pos} {wi : TI} {g : TG} {tt : TT} {te : TE} (hc : X.calm = true) (hN : X.N.Nodup) (hy : X.N[i]? = some y) (hyl : X.env.scope.names.lookup y = some .local)
    (hsw : swapsWith (.ListComp elt [⟨tg, iter, ifs, 0⟩] scope pos) (some (.Name y py)) spos.line X.env = pure true) (hi : PI X tg iter wi) (ok : BlkOk X.N X.env.scope scope own)
    (hg : ∀ (s : Shared) (H : Hp) (C : Addr) (cl : List (Str × Addr)) (fp : List Addr), PG (X.blk s H scope (compEnvC scope cl C X.env) fp) tg g) (ht : ∀ (s : Shared) (H : Hp) (C : Addr) (cl : List (Str × Addr)) (fp : List Addr), PTs (X.blk s H scope (compEnvC scope cl C X.env) fp) ifs tt)
    (he : ∀ (s : Shared) (H : Hp) (C : Addr) (cl : List (Str × Addr)) (fp : List Addr), PE (X.blk s H scope (compEnvC scope cl C X.env) fp) elt te) (hs : ∀ x, foldedSetIterable iter X.env x = pure x := by intro _; rfl) :
    PS X (.Assign [.Name y py] (.ListComp elt [⟨tg, iter, ifs, 0⟩] scope pos) spos) (tAsg (tLc wi g tt te (own.map (·.2))) (gName i)) := by
  intro pins s σ H D I h
  rw [exec_Assign_Name_used _ _ _ _ hsw]
  refine wpAny_bind (wpAny_standAt (wpAny_bind ?_))
  show wpAny _ X.A (do let _ ← comprehension (.ListComp elt [⟨tg, iter, ifs, 0⟩] scope pos) scope X.env (firstIterPos [⟨tg, iter, ifs, 0⟩] pos) (newList []) false (eval iter X.env) (some (assign (.Name y py) X.env))) _ _ s
  have h : tLc wi g tt te (own.map (·.2)) σ H (fun x H1 => gName i x σ H1 D.nx) := h
  refine wpAny_bind (thn (lc_core (Qf := fun _ s' => SP X pins D .next s') hc hN I hi ok hg ht he hs h fun L C s' m H' I' q hn f => ?_) fun _ s' hq => wpAny_pure (wpAny_pure hq))
  show wpAny _ _ (assign (.Name y py) X.env (.ref L)) _ _ _
  refine wpAny_assign_Name (store_ok2 (v := V.ref L) I' hN hy (.inl hyl) rfl (fun s2 I2 ⟨a, sb, ha⟩ => ?_) (.inr hyl))
  obtain ⟨f0, f1, f2, f3, f4, f5⟩ := f
  have haC : C ≠ a := by
    rcases ha with z | z
    · rw [z]; exact f1
    · exact fun e => f4 y a z e.symm
  refine ⟨m, hn.sameBut sb haC, fun h3 sb3 => ?_⟩
  exact ⟨_, H', I2.turned (t' := s2.toks) (fun b o hb e => (sb3.2 b hb).trans e) f0 f1 f3 f4 f5, q⟩
theorem sw_true {elt : Expr} {gs : List Comprehension} {scope : Scope} {pos py : Pos} {y : Str} {l : Nat} {env : Env} (hk : env.scope.kind = .function) (hy : env.scope.names.lookup y = some .local) (hl : (py.line == pos.line) = true)
    (ha : (scope.names.any fun (n, k) => n == y && (k == .local || k == .cell)) = false) : swapsWith (.ListComp elt gs scope pos) (some (.Name y py)) l env = pure true := by
  have ky : env.kindOf y = some .local := hy
  have hb : env.blockKind = .function := by unfold Env.blockKind; rw [hk]; rfl
  unfold swapsWith
  simp only [hb, ky, ha, Expr.pos, hl]
  rfl
end
theorem lc_range {lo : Int} {n : Nat} {g : TG} {tt : TT} {te : TE} {vs : List Nat} {σ : St} {H1 : Hp} {D : Addr} {Qd : Hp → Prop} (Pv : Nat → Hp → Prop) (h0 : Pv 0 (upd H1 D (.lst [])))
    (hs : ∀ i H, i < n → Pv i H → g (.int (lo + i)) (wipe σ vs) H fun σ2 H2 => wipe σ2 vs = wipe σ vs ∧ tt σ2 H2 fun b H3 =>
      if b = true then te σ2 H3 fun y H4 => ∃ acc, H4 D = some (.lst acc) ∧ acc.length < sizeLine ∧ Pv (i + 1) (upd H4 D (.lst (acc ++ [y]))) else Pv (i + 1) H3) (hd : ∀ H, Pv n H → Qd H) :
    ∃ W : Nat → Nat → Hp → Prop, (∃ m, W 0 m (upd H1 D (.lst []))) ∧ ∀ i m H, W i m H →
      ((Itr lo n).stop i H ∧ Qd H) ∨ ((Itr lo n).go i H ∧ ∃ Nx : Hp → Prop, (∀ H', Nx H' → ∃ m', m' < m ∧ W (i + 1) m' H') ∧ ∀ x H', (Itr lo n).yld i H x H' → g x (wipe σ vs) H' fun σ2 H2 => wipe σ2 vs = wipe σ vs ∧ tt σ2 H2 fun b H3 =>
        if b = true then te σ2 H3 fun y H4 => ∃ acc, H4 D = some (.lst acc) ∧ acc.length < sizeLine ∧ Nx (upd H4 D (.lst (acc ++ [y]))) else Nx H3) := by
  refine ⟨fun i m H => m = n - i ∧ i ≤ n ∧ Pv i H, ⟨n, by simp, Nat.zero_le _, h0⟩, ?_⟩
  rintro i m H ⟨rfl, hi, p⟩
  by_cases hlt : i < n
  · refine .inr ⟨hlt, Pv (i + 1), fun H' p' => ⟨n - (i + 1), by omega, rfl, hlt, p'⟩, fun x H' y => ?_⟩
    obtain ⟨e, y⟩ := y
    subst e y
    exact hs i _ hlt p
  · have e : i = n := by omega
    subst e
    exact .inl ⟨Nat.le_refl _, hd H p⟩
theorem lc_list {K : PySem.W.Frag} {a : Addr} {xs : List V} {g : TG} {tt : TT} {te : TE} {vs : List Nat} {σ : St} {H1 : Hp} {D : Addr} {Qd : Hp → Prop} (Pv : Nat → Hp → Prop) (h0 : Pv 0 (upd H1 D (.lst []))) (hl : ∀ i H, i ≤ xs.length → Pv i H → SqL K H a xs)
    (hs : ∀ i x H, xs[i]? = some x → Pv i H → g x (wipe σ vs) H fun σ2 H2 => wipe σ2 vs = wipe σ vs ∧ tt σ2 H2 fun b H3 =>
      if b = true then te σ2 H3 fun y H4 => ∃ acc, H4 D = some (.lst acc) ∧ acc.length < sizeLine ∧ Pv (i + 1) (upd H4 D (.lst (acc ++ [y]))) else Pv (i + 1) H3) (hd : ∀ H, Pv xs.length H → Qd H) :
    ∃ W : Nat → Nat → Hp → Prop, (∃ m, W 0 m (upd H1 D (.lst []))) ∧ ∀ i m H, W i m H →
      ((Itl K a).stop i H ∧ Qd H) ∨ ((Itl K a).go i H ∧ ∃ Nx : Hp → Prop, (∀ H', Nx H' → ∃ m', m' < m ∧ W (i + 1) m' H') ∧ ∀ x H', (Itl K a).yld i H x H' → g x (wipe σ vs) H' fun σ2 H2 => wipe σ2 vs = wipe σ vs ∧ tt σ2 H2 fun b H3 =>
        if b = true then te σ2 H3 fun y H4 => ∃ acc, H4 D = some (.lst acc) ∧ acc.length < sizeLine ∧ Nx (upd H4 D (.lst (acc ++ [y]))) else Nx H3) := by
  refine ⟨fun i m H => m = xs.length - i ∧ i ≤ xs.length ∧ Pv i H, ⟨xs.length, by simp, Nat.zero_le _, h0⟩, ?_⟩
  rintro i m H ⟨rfl, hi, p⟩
  have q := hl i H hi p
  by_cases hlt : i < xs.length
  · refine .inr ⟨⟨xs, xs[i], q, by simp [hlt]⟩, Pv (i + 1), fun H' p' => ⟨xs.length - (i + 1), by omega, rfl, hlt, p'⟩, fun x H' y => ?_⟩
    obtain ⟨e, y⟩ := y
    subst e
    exact hs i x _ (y xs q) p
  · have e : i = xs.length := by omega
    subst e
    exact .inl ⟨⟨xs, q, Nat.le_refl _⟩, hd H p⟩
def blkC (N : List Str) (sc scope : Scope) (own : List (Str × Nat)) : Bool :=
  (match scope.kind with | .function => true | _ => false) && (scope.names.all fun y => decide (scope.names.lookup y.1 = some y.2)) && (own.all fun p => decide (N[p.2]? = some p.1)) &&
    (scope.names.all fun y => match y.2 with
      | .free => (match sc.names.lookup y.1 with | some .cell => true | some .free => true | _ => false)
      | .local => decide (y.1 ∈ own.map (·.1)) || decide (y.1 ∉ N)
      | .cell => decide (y.1 ∈ own.map (·.1)) || decide (y.1 ∉ N)
      | _ => true)
theorem blkOk_by {N : List Str} {sc scope : Scope} {own : List (Str × Nat)} (h : blkC N sc scope own = true) : BlkOk N sc scope own := by
  unfold blkC at h
  simp only [Bool.and_eq_true, List.all_eq_true, decide_eq_true_eq] at h
  obtain ⟨⟨⟨h1, h2⟩, h3⟩, h4⟩ := h
  refine ⟨?_, h2, h3, fun y hy e => ?_, fun y hy e => ?_⟩
  · split at h1
    · assumption
    · cases h1
  · have q := h4 y hy
    simp only [e] at q
    split at q <;> first | exact .inl (by assumption) | exact .inr (by assumption) | cases q
  · have q := h4 y hy
    rcases e with e | e <;> (simp only [e, Bool.or_eq_true, decide_eq_true_eq] at q; exact q)
end L2
namespace L2
open PySem PySem.Spec PyProof.Rows
section
variable {prog : Program} {w : World} {A : Around} {R : Result → Shared → Prop} {s : Shared} {elt t0 i0 t1 i1 : Expr} {ifs0 ifs1 : List Expr} {scope : Scope} {pos : Pos} {it acc : Value} {env : Env}
end
section
variable {X : Cx}
end
end L2
namespace L2
open PySem PySem.Spec PyProof.Rows
section
variable {κ : Type} [DecidableEq κ]
def valV (kvs : List (κ × V)) (k : κ) : Option V := (kvs.find? fun kv => decide (kv.1 = k)).map (·.2)
def putK (kvs : List (κ × V)) (k : κ) (v : V) : List (κ × V) :=
  if (kvs.any fun kv => decide (kv.1 = k)) = true then kvs.map (fun kv => if kv.1 = k then (kv.1, v) else kv) else kvs ++ [(k, v)]
def dropK (kvs : List (κ × V)) (k : κ) : List (κ × V) := kvs.filter fun kv => decide (kv.1 ≠ k)
theorem valV_pos {p : κ × V} {r : List (κ × V)} {k : κ} (e : p.1 = k) : valV (p :: r) k = some p.2 := by simp [valV, List.find?_cons, e]
theorem valV_neg {p : κ × V} {r : List (κ × V)} {k : κ} (e : ¬ p.1 = k) : valV (p :: r) k = valV r k := by simp [valV, List.find?_cons, e]
theorem valV_any (k : κ) : ∀ kvs : List (κ × V), (kvs.any fun kv => decide (kv.1 = k)) = (valV kvs k).isSome
  | [] => rfl
  | p :: r => by
    rw [List.any_cons]
    by_cases e : p.1 = k
    · simp only [valV_pos e, decide_eq_true e, Bool.true_or, Option.isSome_some]
    · rw [valV_neg e, decide_eq_false e, Bool.false_or]; exact valV_any k r
theorem RelO.isSome_eq {o : Option V} {u : Option Value} (r : RelO o u) : o.isSome = u.isSome := by
  cases o with
  | none => cases u with
    | none => rfl
    | some _ => exact (show False from r).elim
  | some _ => cases u with
    | none => exact (show False from r).elim
    | some _ => rfl
theorem RelO.getD {o : Option V} {u : Option Value} {d : V} {d' : Value} (r : RelO o u) (rd : RelV d d') : RelV (o.getD d) (u.getD d') := by
  cases o with
  | none => cases u with
    | none => exact rd
    | some _ => exact (show False from r).elim
  | some _ => cases u with
    | none => exact (show False from r).elim
    | some _ => exact r
theorem KV.val {kvs : List (κ × V)} {vs : List (κ × Value)} (r : KV kvs vs) (k : κ) : RelO (valV kvs k) (valueAt vs k) := by
  unfold KV at r
  induction r with
  | nil => exact True.intro
  | @cons p q ps qs h t ih =>
    obtain ⟨h1, h2⟩ := h
    by_cases e : p.1 = k
    · have e' : q.1 = k := h1.symm.trans e
      have b : valueAt (q :: qs) k = some q.2 := by simp [valueAt, List.find?_cons, e']
      rw [valV_pos e, b]; exact h2
    · have e' : ¬ q.1 = k := fun z => e (h1.trans z)
      have b : valueAt (q :: qs) k = valueAt qs k := by simp [valueAt, List.find?_cons, e']
      rw [valV_neg e, b]; exact ih
theorem KV.any {kvs : List (κ × V)} {vs : List (κ × Value)} (r : KV kvs vs) (k : κ) : (kvs.any fun kv => decide (kv.1 = k)) = vs.any fun kv => decide (kv.1 = k) := by
  unfold KV at r
  induction r with
  | nil => rfl
  | cons h t ih => rw [List.any_cons, List.any_cons, ih, h.1]
theorem KV.repl {kvs : List (κ × V)} {vs : List (κ × Value)} (r : KV kvs vs) (k : κ) {y : V} {u : Value} (ry : RelV y u) :
    KV (kvs.map fun kv => if kv.1 = k then (kv.1, y) else kv) (vs.map fun kv => if kv.1 = k then (kv.1, u) else kv) := by
  unfold KV at r ⊢
  induction r with
  | nil => exact .nil
  | @cons p q ps qs h t ih =>
    rw [List.map_cons, List.map_cons]
    refine .cons ?_ ih
    obtain ⟨h1, h2⟩ := h
    by_cases e : p.1 = k
    · rw [if_pos e, if_pos (h1.symm.trans e)]; exact ⟨h1, ry⟩
    · rw [if_neg e, if_neg (fun z => e (h1.trans z))]; exact ⟨h1, h2⟩
theorem KV.put {kvs : List (κ × V)} {vs : List (κ × Value)} (r : KV kvs vs) (k : κ) {y : V} {u : Value} (ry : RelV y u) : KV (putK kvs k y) (stored vs k u) := by
  unfold putK stored
  rw [r.any k]
  by_cases e : (vs.any fun kv => decide (kv.1 = k)) = true
  · rw [if_pos e, if_pos e]; exact r.repl k ry
  · rw [if_neg e, if_neg e]; exact Paired.snoc r ⟨rfl, ry⟩
theorem KV.drop {kvs : List (κ × V)} {vs : List (κ × Value)} (r : KV kvs vs) (k : κ) : KV (dropK kvs k) (without vs k) := by
  unfold KV at r ⊢
  unfold dropK without
  induction r with
  | nil => exact .nil
  | @cons p q ps qs h t ih =>
    obtain ⟨h1, h2⟩ := h
    rw [List.filter_cons, List.filter_cons]
    by_cases e : p.1 = k
    · have a : ¬ decide (p.1 ≠ k) = true := by simp [e]
      have b : ¬ decide (q.1 ≠ k) = true := by simp [h1.symm.trans e]
      rw [if_neg a, if_neg b]; exact ih
    · have e' : ¬ q.1 = k := fun z => e (h1.trans z)
      have a : decide (p.1 ≠ k) = true := by simp [e]
      have b : decide (q.1 ≠ k) = true := by simp [e']
      rw [if_pos a, if_pos b]; exact .cons ⟨h1, h2⟩ ih
theorem KV.keys {kvs : List (κ × V)} {vs : List (κ × Value)} (r : KV kvs vs) : kvs.map (·.1) = vs.map (·.1) := by
  unfold KV at r
  induction r with
  | nil => rfl
  | cons h t ih => rw [List.map_cons, List.map_cons, ih, h.1]
theorem KV.length {kvs : List (κ × V)} {vs : List (κ × Value)} (r : KV kvs vs) : kvs.length = vs.length := Paired.length r
end
theorem kV_is {P : Program} {w : World} {k : Key} {u : Value} (r : RelV (kV k) u) : (mixKind P w).is k u = true := by
  cases k with
  | inl i => obtain ⟨t, e⟩ := (show ∃ t, u = Value.int i t from r); subst e; exact mixKind_int P w i t
  | inr x => obtain ⟨t, e⟩ := (show ∃ t, u = Value.str x t from r); subst e; exact mixKind_str P w x t
abbrev KT (H : Hp) : List (List Key × V) → List (List Key × Addr × Value) → Prop := Paired fun p q => p.1 = q.1 ∧ H q.2.1 = some (.tup (p.1.map kV)) ∧ RelV p.2 q.2.2
theorem KT.val {H : Hp} {kvs : List (List Key × V)} {xs : List (List Key × Addr × Value)} (r : KT H kvs xs) (k : List Key) : RelO (valV kvs k) ((atKey xs k).map (·.2)) := by
  induction r with
  | nil => exact True.intro
  | @cons p q ps qs h t ih =>
    obtain ⟨h1, _, h2⟩ := h
    by_cases e : p.1 = k
    · have e' : q.1 = k := h1.symm.trans e
      have b : atKey (q :: qs) k = some q.2 := by simp [atKey, List.find?_cons, e']
      rw [valV_pos e, b]; exact h2
    · have e' : ¬ q.1 = k := fun z => e (h1.trans z)
      have b : atKey (q :: qs) k = atKey qs k := by simp [atKey, List.find?_cons, e']
      rw [valV_neg e, b]; exact ih
theorem KT.repl {H : Hp} {kvs : List (List Key × V)} {xs : List (List Key × Addr × Value)} (r : KT H kvs xs) (k : List Key) {y : V} {u : Value} (ry : RelV y u) :
    KT H (kvs.map fun kv => if kv.1 = k then (kv.1, y) else kv) (xs.map (putAt k u)) := by
  induction r with
  | nil => exact .nil
  | @cons p q ps qs h t ih =>
    rw [List.map_cons, List.map_cons]
    refine .cons ?_ ih
    obtain ⟨h1, h2, h3⟩ := h
    unfold putAt
    by_cases e : p.1 = k
    · rw [if_pos e, if_pos (h1.symm.trans e)]; exact ⟨h1, h2, ry⟩
    · rw [if_neg e, if_neg (fun z => e (h1.trans z))]; exact ⟨h1, h2, h3⟩
theorem KT.put {H : Hp} {kvs : List (List Key × V)} {xs : List (List Key × Addr × Value)} (r : KT H kvs xs) (k : List Key) {b : Addr} {y : V} {u : Value} (hb : H b = some (.tup (k.map kV))) (ry : RelV y u) :
    KT H (putK kvs k y) (storedH xs k b u) := by
  have e : (kvs.any fun kv => decide (kv.1 = k)) = (atKey xs k).isSome := by
    rw [valV_any, (r.val k).isSome_eq, Option.isSome_map]
  unfold putK storedH
  rw [e]
  by_cases q : (atKey xs k).isSome = true
  · rw [if_pos q, if_pos q]; exact r.repl k ry
  · rw [if_neg q, if_neg q]; exact Paired.snoc r ⟨rfl, hb, ry⟩
theorem KT.keeps {H H' : Hp} {kvs : List (List Key × V)} {xs : List (List Key × Addr × Value)} (r : KT H kvs xs) (ht : ∀ b ys, H b = some (.tup ys) → H' b = some (.tup ys)) : KT H' kvs xs :=
  Paired.mapP r fun _ _ z => ⟨z.1, ht _ _ z.2.1, z.2.2⟩
section
variable {P : Program} {w : World} {H : Hp} {h : Heap} {a : Addr}
end
def DGet (H : Hp) (a : Addr) (y : V) (r : Option V) : Prop :=
  (∃ kvs k, Rd H a (.dK kvs) ∧ y = kV k ∧ r = valV kvs k) ∨ ∃ kvs k b, Rd H a (.dT kvs) ∧ y = .ref b ∧ H b = some (.tup (k.map kV)) ∧ r = valV kvs k
def DPut (H : Hp) (a : Addr) (y v : V) (H' : Hp) : Prop :=
  (∃ kvs k, H a = some (.dK kvs) ∧ y = kV k ∧ kvs.length < sizeLine ∧ H' = upd H a (.dK (putK kvs k v))) ∨
  ∃ kvs k b, H a = some (.dT kvs) ∧ y = .ref b ∧ H b = some (.tup (k.map kV)) ∧ kvs.length < sizeLine ∧ H' = upd H a (.dT (putK kvs k v))
theorem DGet.k {H : Hp} {a : Addr} {kvs : List (Key × V)} {k : Key} (e : H a = some (.dK kvs)) : DGet H a (kV k) (valV kvs k) := .inl ⟨kvs, k, .inl e, rfl, rfl⟩
theorem DGet.t {H : Hp} {a b : Addr} {kvs : List (List Key × V)} {k : List Key} (e : H a = some (.dT kvs)) (eb : H b = some (.tup (k.map kV))) : DGet H a (.ref b) (valV kvs k) := .inr ⟨kvs, k, b, .inl e, rfl, eb, rfl⟩
theorem DPut.k {H : Hp} {a : Addr} {kvs : List (Key × V)} {k : Key} {v : V} (e : H a = some (.dK kvs)) (hl : kvs.length < sizeLine) : DPut H a (kV k) v (upd H a (.dK (putK kvs k v))) := .inl ⟨kvs, k, e, rfl, hl, rfl⟩
theorem DPut.t {H : Hp} {a b : Addr} {kvs : List (List Key × V)} {k : List Key} {v : V} (e : H a = some (.dT kvs)) (eb : H b = some (.tup (k.map kV))) (hl : kvs.length < sizeLine) :
    DPut H a (.ref b) v (upd H a (.dT (putK kvs k v))) := .inr ⟨kvs, k, b, e, rfl, eb, hl, rfl⟩
section
variable {X : Cx} {pins : List (Addr × Obj)} {σ : St} {H : Hp} {s : Shared} {a : Addr} {y v : V} {u r : Value} {o : Option V} {A : Around} {E : Value → Shared → Prop}
end
section
variable {X : Cx} {pins : List (Addr × Obj)} {σ : St} {H : Hp} {s : Shared} {a : Addr} {kvs : List (Key × V)} {k : Key} {u : Value} {A : Around} {E : Value → Shared → Prop}
end
def NoSl (i : Expr) : Prop := ∀ ov iv, subscripted i false ov iv = operate [ov, iv] (getItem ov iv)
theorem subD_of {prog : Program} {w : World} {A : Around} {E : Value → Shared → Prop} {s : Shared} {env : Env} {value slice : Expr} {pos : Pos} {T id : String} {Q : Value → Shared → Prop}
    (hl : typeLookup (.type T) "__getitem__" = pure (some (.builtin id))) (hs : NoSl slice)
    (h : wpAny (model prog w) A (eval value env) (fun o s₁ => wpAny (model prog w) A (eval slice env) (fun i s₂ => s₂.TypeIs o T ∧ wpAny (model prog w) A (getItem o i) Q E s₂) E s₁) E s) :
    wpAny (model prog w) A (eval (.Subscript value slice pos) env) Q E s := by
  refine Subscript_ (wpAny_mono h (fun o s₁ h₁ => wpAny_mono h₁ (fun i s₂ h₂ => ?_) fun _ _ x => x) fun _ _ x => x)
  obtain ⟨hT, h₂⟩ := h₂
  unfold subscriptTail
  refine wpAny_bind ?_
  rw [getitemInPython_of_ne hT.not_modules]
  refine wpAny_bind (wpAny_specialOf hT hl ?_)
  have fin : wpAny (model prog w) A (subscripted slice false o i) (fun r s₃ => wpAny (model prog w) A (letTemporaryGo value o r >>= fun _ => pure r) Q E s₃) E s₂ := by
    rw [hs o i]
    exact wpAny_operating (wpAny_mono h₂ (fun r s₃ h₃ => wpAny_bind (wpAny_letTemporaryGo (wpAny_pure h₃))) fun _ _ x => x)
  first
    | exact wpAny_pure (wpAny_bind fin)
    | exact wpAny_bind (wpAny_pure (wpAny_bind fin))
    | exact wpAny_bind fin
section
variable {X : Cx} {o i e value : Expr} {pos pos' tpos : Pos} {td ty tv : TE}
end
section
variable {X : Cx} {pos : Pos}
end
section
variable {X : Cx} {pins : List (Addr × Obj)} {σ : St} {H : Hp} {s : Shared} {a : Addr} {y d : V} {u r : Value} {o : Option V} {A : Around} {E : Value → Shared → Prop}
end
section
variable {X : Cx} {o e f : Expr} {apos cpos : Pos} {td ty tx : TE}
end
section
variable {X : Cx} {pins : List (Addr × Obj)} {σ : St} {H : Hp} {s : Shared} {a : Addr} {kvs : List (Key × V)} {A : Around} {E : Value → Shared → Prop}
end
section
variable {X : Cx} {pins : List (Addr × Obj)} {σ : St} {H : Hp} {s : Shared} {a : Addr} {y : V} {u : Value} {A : Around} {E : Value → Shared → Prop}
end
end L2
namespace L2
open PySem PySem.Spec PyProof.Rows
section
variable {prog : Program} {w : World} {A : Around} {E : Value → Shared → Prop}
end
section
variable {X : Cx}
theorem pairs_of {pins : List (Addr × Obj)} {σ : St} {H : Hp} {s : Shared} (I : Inv X pins σ H s) : ∀ {ps : List Addr} {kvs : List (Key × V)}, Paired (fun p kv => SqT X.K H p [kV kv.1, kv.2]) ps kvs →
    ∃ prs : List (Key × Value), KV kvs prs ∧ prs.length = ps.length ∧ ∀ (j : Nat) (q : Key × Value), prs[j]? = some q → ∃ (b : Addr) (u : Value), ps[j]? = some b ∧ IsTup s.heap b #[u, q.2] ∧ keyIs q.1 u = true
  | _, _, .nil => ⟨[], .nil, rfl, fun j q e => by simp at e⟩
  | _, _, .cons (a := p) (b := kv) h t => by
    obtain ⟨prs, r, hl, hp⟩ := pairs_of I t
    obtain ⟨its, rv, ht, _⟩ := I.tuple h
    obtain ⟨u, y, ei, ru, ry⟩ := vals2 rv
    subst ei
    refine ⟨(kv.1, y) :: prs, .cons ⟨rfl, ry⟩ r, by rw [List.length_cons, List.length_cons, hl], fun j q e => ?_⟩
    cases j with
    | zero =>
      have e' : (kv.1, y) = q := Option.some.inj e
      subst e'
      exact ⟨p, u, rfl, ht, kV_is (P := X.prog) (w := X.w) ru⟩
    | succ j =>
      obtain ⟨b, u', e1, e2, e3⟩ := hp j q (by simpa using e)
      exact ⟨b, u', by simpa using e1, e2, e3⟩
end
end L2
namespace L2
open PySem PySem.Spec PyProof.Rows
section
variable {X : Cx} {pins : List (Addr × Obj)} {σ : St} {H : Hp} {s : Shared} {h' : Heap}
theorem Inv.turnedL {t' : Nat} {ch : List Addr} (I : Inv X pins σ H s) (k : ∀ b o, b ∉ ch → s.heap.get? b = some o → h'.get? b = some o) (hf : ∀ b ∈ ch, FpOk X pins H b) : Inv X pins σ H { s with heap := h', toks := t' } := by
  have nit : ∀ b u, H b = some u → b ∉ ch := fun b u e z => by
    have q := (hf b z).1
    rw [q] at e; cases e
  refine I.step (g' := s.gens) (d' := s.drawn) (ch := ch) (fun b hb => ⟨(hf b hb).2.2.2.1, (hf b hb).2.1, (hf b hb).2.2.2.2.1, (hf b hb).2.2.2.2.2⟩) (fun b o _ _ hc e _ => k b o hc e) (fun b o _ _ hc e _ => ⟨o.slots, k b o hc e⟩)
    (fun _ _ _ _ n => n) (fun b o hc e => ⟨o, k b o hc e⟩) (fun _ _ e => e) (fun _ _ _ e => e) (fun b ps e => ⟨#[], by rw [e]; simp⟩) (fun m hm => ?_) (fun b u e => ?_) I.bare
  · obtain ⟨o, es, ep, ho, r⟩ := hm
    exact ⟨o, es, ep, k _ o (fun z => (hf _ z).2.1 rfl) ho, r⟩
  · refine (I.hok b u e).stay (fun c v hc q => k c v ?_ q) (fun _ q => q) fun _ _ q => q
    rcases hc with z | z
    · rw [z]; exact nit b u e
    · exact nit c _ z
theorem Inv.turnedNew {t' : Nat} {ch : List Addr} {T : Addr} {ob : HO} (I : Inv X pins σ H s) (k : ∀ b o, b ∉ ch → s.heap.get? b = some o → h'.get? b = some o) (hf : ∀ b ∈ ch, FpOk X pins H b) (hT : s.heap.objs.size ≤ T)
    (new : ObjOk X.prog X.w (upd H T ob) h' T ob) : Inv X pins σ (upd H T ob) { s with heap := h', toks := t' } := by
  have hn : H T = none := I.hok.fresh hT
  have nit : ∀ b u, H b = some u → b ∉ ch := fun b u e z => by
    have q := (hf b z).1
    rw [q] at e; cases e
  refine I.step (g' := s.gens) (d' := s.drawn) (ch := ch) (fun b hb => ⟨(hf b hb).2.2.2.1, (hf b hb).2.1, (hf b hb).2.2.2.2.1, (hf b hb).2.2.2.2.2⟩) (fun b o _ _ hc e _ => k b o hc e) (fun b o _ _ hc e _ => ⟨o.slots, k b o hc e⟩)
    (fun b o _ e n => ?_) (fun b o hc e => ⟨o, k b o hc e⟩) (fun b xs e => ?_) (fun b o u e => ?_) (fun b ps e => ⟨#[], ?_⟩) (fun m hm => ?_) (fun b u e => ?_) I.bare
  · rw [upd_ne (Nat.ne_of_lt (Nat.lt_of_lt_of_le (Heap.lt_size e) hT))]; exact n
  · rw [upd_ne (ne_of_none e hn)]; exact e
  · rw [upd_ne (ne_of_none e hn)]; exact e
  · rw [upd_ne (ne_of_none e hn), e]; simp
  · obtain ⟨o, es, ep, ho, r⟩ := hm
    exact ⟨o, es, ep, k _ o (fun z => (hf _ z).2.1 rfl) ho, r⟩
  · by_cases hb : b = T
    · subst hb
      rw [upd_same] at e
      cases e
      exact new
    · rw [upd_ne hb] at e
      refine (I.hok b u e).stay (fun c v hc q => k c v ?_ q) (fun c q => by rw [upd_ne (ne_of_none q hn)]; exact q) fun c xs q => by rw [upd_ne (ne_of_none q hn)]; exact q
      rcases hc with z | z
      · rw [z]; exact nit b u e
      · exact nit c _ z
end
section
variable {X : Cx}
end
def RgC (i j c : Int) (n : Nat) : Prop := c ≠ 0 ∧ c.natAbs < 1073741824 ∧ Builtin.Range.small i j c = true ∧ Builtin.Range.rangeSize i j c = n
theorem RgC.neg {i j : Int} (ha : -(2 ^ 62) ≤ i) (ha' : i < 2 ^ 62) (hb : -(2 ^ 62) ≤ j) (hb' : j < 2 ^ 62) : RgC i j (-1) (i - j).toNat :=
  ⟨by decide, by decide, PySem.W.small_down ha ha' hb hb', PySem.W.rangeSize_downNat i j⟩
section
variable {X : Cx} {tg : Expr}
end
section
variable {X : Cx} {tg : Expr}
end
section
variable {prog : Program} {w : World} {A : Around} {E : Value → Shared → Prop} {s : Shared}
end
section
variable {X : Cx} {pins : List (Addr × Obj)} {σ : St} {H : Hp} {s : Shared} {d : Addr} {o : Obj}
end
section
variable {P : Program} {w : World} {K : PySem.W.Frag} {tg : Expr} {d : Addr} {o : Obj} {es : Array DictEntry} {ep : Nat}
end
section
variable {X : Cx} {tg e : Expr} {td : TE} {apos cpos : Pos}
end
def Ite (K : PySem.W.Frag) (a : Addr) : It :=
  ⟨fun i H => ∃ (xs : List V) (x : V), SqL K H a xs ∧ xs[i]? = some x, fun i H v H' => ∃ T x, v = .ref T ∧ H T = none ∧ H' = upd H T (.tup [.int (i : Nat), x]) ∧ ∀ xs, SqL K H a xs → xs[i]? = some x, fun i H => ∃ xs : List V, SqL K H a xs ∧ xs.length ≤ i⟩
theorem turn_enum {P : Program} {w : World} {K : PySem.W.Frag} {elts : List Expr} {kk : Nat} {tpos : Pos} (a e it : Addr) :
    Turn P w K (.Tuple elts kk tpos) (Ite K a) [e, it] e (fun i h => (∃ old, IsEnum h e it ((i : Nat) : Int) old) ∧ h.IsListIter it a i ∧ e ≠ it) where
  mem := by simp
  obj := fun i h st b hb => by
    obtain ⟨⟨old, he⟩, ⟨o, ho, hc, hd⟩, _⟩ := st
    have e' : b = e ∨ b = it := by simpa using hb
    rcases e' with z | z
    · rw [z]; exact ⟨_, he, fun v q => nomatch q⟩
    · rw [z]; exact ⟨o, ho, fun v q => by rw [hd] at q; cases q⟩
  keep := fun i h h' st k => let ⟨⟨old, he⟩, hi, hne⟩ := st; ⟨⟨old, k e (by simp) _ he⟩, hi.at fun o q => k it (by simp) o q, hne⟩
  item := by
    intro X hP hw hK hc i pins s σ H E I hf st hg
    subst hP hw hK
    obtain ⟨⟨old, he⟩, hit, hne⟩ := st
    obtain ⟨xs, x, hq, hx⟩ := hg
    obtain ⟨its, rv, p, hz⟩ := I.list hq
    obtain ⟨u, hu, ru⟩ := rv.get hx
    have hel : e < s.heap.objs.size := Heap.lt_size he
    have hil : it < s.heap.objs.size := by obtain ⟨_, q, _⟩ := hit; exact Heap.lt_size q
    refine wpAny_pyNext_enum_item he hit p.isList (x := u) (by simpa using hu) hne fun h' ho hit' hT hsz hk => ?_
    refine ⟨_, rfl, wpAny_letOwnedTupleGo_enum (s := { s with heap := h', toks := s.toks + 1 }) ho fun h'' he' sb => ?_⟩
    have hT2 : h''.get? s.heap.objs.size = some { cls := .type "tuple", data := .seq #[.int i s.toks, u] } := (sb.2 _ (Nat.ne_of_gt hel)).trans hT
    have new : ObjOk X.prog X.w (upd H s.heap.objs.size (.tup [.int (i : Nat), x])) h'' s.heap.objs.size (.tup [.int (i : Nat), x]) :=
      ⟨by show 2 ≤ sizeLine; decide, [.int i s.toks, u], .cons ⟨_, rfl⟩ (.cons ru .nil), ⟨_, hT2, rfl, _, rfl⟩⟩
    have I1 : Inv X pins σ (upd H s.heap.objs.size (.tup [.int (i : Nat), x])) { s with heap := h'', toks := s.toks + 1 } :=
      I.turnedNew (ch := [e, it]) (fun b ob hb q => (sb.2 b (fun z => hb (by simp [z]))).trans (hk b ob (fun z => hb (by simp [z])) (fun z => hb (by simp [z])) q)) hf (Nat.le_refl _) new
    refine ⟨.ref s.heap.objs.size, _, I1, rfl, ⟨_, x, rfl, I.hok.fresh (Nat.le_refl _), rfl, fun ys hy => by rw [I.list_inj hy hq]; exact hx⟩, ⟨⟨u, ?_⟩, hit'.at fun o q => (sb.2 it (Ne.symm hne)).trans q, hne⟩, fun b hb => ?_⟩
    · have e1 : ((i + 1 : Nat) : Int) = (i : Int) + 1 := by omega
      rw [e1]; exact he'
    · have hb' : b < s.heap.objs.size := by
        have e' : b = e ∨ b = it := by simpa using hb
        rcases e' with z | z
        · rw [z]; exact hel
        · rw [z]; exact hil
      rw [upd_ne (Nat.ne_of_lt hb')]
      exact (hf b hb).1
  done := by
    intro X hP hw hK hc i pins s σ H E I hf st hg
    subst hP hw hK
    obtain ⟨⟨old, he⟩, hit, hne⟩ := st
    obtain ⟨xs, hq, hx⟩ := hg
    obtain ⟨its, rv, p, hz⟩ := I.list hq
    obtain ⟨f0, f1, f2, f3, f4, f5⟩ := hf it (by simp)
    have hl := rv.length
    exact wpAny_pyNext_enum_end (I.ok.hd hc) he hit p.isList (by simp; omega) fun h' eb => ⟨rfl, I.turned (t' := s.toks) (fun b o hb q => eb b o hb q) f0 f1 f3 f4 f5⟩
  self := fun A i s Q E st h => let ⟨⟨_, he⟩, _⟩ := st; wpAny_pyIter_enum he h
def iEnum (K : PySem.W.Frag) (ta : TA) : TI := fun σ H R => ta σ H fun vs H1 => ∃ a xs, vs = [.ref a] ∧ SqL K H1 a xs ∧ R (Ite K a) H1
theorem pi_enum {X : Cx} {e : Expr} {ta : TA} {p pos tpos : Pos} {elts : List Expr} {kk : Nat} (hg : Gl X "enumerate") (hm : X.mg "enumerate" = none) (ha : PA X [e] ta) (hs : starEach [e] X.env = [(false, eval e X.env)] := by rfl) :
    PI X (.Tuple elts kk tpos) (.Call (.Name "enumerate" p) [e] [] pos) (iEnum X.K ta) := by
  intro pins s σ H R I h
  refine Call_ (ld_blt I hg hm boot_enumerate (PyProof.Rows.callWith_type1 (thn (ha pos pins s σ H _ I h) fun us s1 ⟨vs, H1, I1, r1, q1⟩ => ?_) hs rfl))
  obtain ⟨a, xs, ex, hq, q⟩ := q1
  subst ex
  cases r1 with
  | cons r rr =>
    cases rr
    cases r
    obtain ⟨its, rv, p', hz⟩ := I1.list hq
    refine call_enumerate_list p'.isList fun h' he hit hsz hk => wpAny_pyIter_enum he ?_
    have I2 : Inv X pins σ H1 { s1 with heap := h' } := I1.kept (t' := s1.toks) hk
    refine ⟨s1.heap.objs.size + 1, [s1.heap.objs.size + 1, s1.heap.objs.size], _, _, H1, rfl, I2, turn_enum a (s1.heap.objs.size + 1) s1.heap.objs.size, ⟨⟨.none, he⟩, hit, Nat.succ_ne_self _⟩, fun b hb => ?_, q⟩
    have e' : b = s1.heap.objs.size + 1 ∨ b = s1.heap.objs.size := by simpa using hb
    have hle : s1.heap.objs.size ≤ b := by
      rcases e' with z | z
      · rw [z]; exact Nat.le_add_right _ _
      · rw [z]; exact Nat.le_refl _
    exact I1.fpOk hle (I1.hok.fresh hle)
theorem boot_zip5 : bootBuiltins "zip" = some (.type "zip") := by decide +kernel
def Itz (K : PySem.W.Frag) (a b : Addr) : It :=
  ⟨fun i H => ∃ (xs ys : List V) (x y : V), SqL K H a xs ∧ SqL K H b ys ∧ xs[i]? = some x ∧ ys[i]? = some y,
    fun i H v H' => ∃ T x y, v = .ref T ∧ H T = none ∧ H' = upd H T (.tup [x, y]) ∧ (∀ xs, SqL K H a xs → xs[i]? = some x) ∧ ∀ ys, SqL K H b ys → ys[i]? = some y,
    fun i H => ∃ xs ys : List V, SqL K H a xs ∧ SqL K H b ys ∧ (xs.length ≤ i ∨ ys.length ≤ i)⟩
theorem turn_zip {P : Program} {w : World} {K : PySem.W.Frag} {elts : List Expr} {kk : Nat} {tpos : Pos} {a b z TI TO i1 i2 : Addr} (D : ZipApart z TI TO i1 i2 a b) :
    Turn P w K (.Tuple elts kk tpos) (Itz K a b) [z, TI, TO, i1, i2] z (fun i h => IsZip h z TI TO .none ∧ IsPair h TI (.ref i1) (.ref i2) ∧ (∃ x y, IsPair h TO x y) ∧ h.IsListIter i1 a i ∧ h.IsListIter i2 b i) where
  mem := by simp
  obj := fun i h st c hc => by
    obtain ⟨hz, hTI, ⟨x, y, hTO⟩, ⟨o1, e1, _, d1⟩, ⟨o2, e2, _, d2⟩⟩ := st
    have e' : c = z ∨ c = TI ∨ c = TO ∨ c = i1 ∨ c = i2 := by simpa using hc
    rcases e' with q | q | q | q | q
    · rw [q]; exact ⟨_, hz, fun v q => nomatch q⟩
    · rw [q]; exact ⟨_, hTI, fun v q => nomatch q⟩
    · rw [q]; exact ⟨_, hTO, fun v q => nomatch q⟩
    · rw [q]; exact ⟨o1, e1, fun v q => by rw [d1] at q; cases q⟩
    · rw [q]; exact ⟨o2, e2, fun v q => by rw [d2] at q; cases q⟩
  keep := fun i h h' st k => by
    obtain ⟨hz, hTI, ⟨x, y, hTO⟩, h1, h2⟩ := st
    exact ⟨k z (by simp) _ hz, k TI (by simp) _ hTI, ⟨x, y, k TO (by simp) _ hTO⟩, h1.at fun o q => k i1 (by simp) o q, h2.at fun o q => k i2 (by simp) o q⟩
  item := by
    intro X hP hw hK hc i pins s σ H E I hf st hg
    subst hP hw hK
    obtain ⟨hz, hTI, ⟨x0, y0, hTO⟩, h1, h2⟩ := st
    obtain ⟨xs, ys, x, y, hqx, hqy, hx, hy⟩ := hg
    obtain ⟨its, rv, p, _⟩ := I.list hqx
    obtain ⟨its2, rv2, p2, _⟩ := I.list hqy
    obtain ⟨u, hu, ru⟩ := rv.get hx
    obtain ⟨u2, hu2, ru2⟩ := rv2.get hy
    have hzl : z < s.heap.objs.size := Heap.lt_size hz
    refine wpAny_pyNext_zip_item D hz hTI hTO h1 h2 p.isList p2.isList (x := u) (y := u2) (by simpa using hu) (by simpa using hu2) fun h' z' TO' h1' h2' hT hsz hk => ?_
    refine ⟨_, rfl, wpAny_letOwnedTupleGo_zip (s := { s with heap := h' }) z' fun h'' z'' sb => ?_⟩
    have hT2 : h''.get? s.heap.objs.size = some { cls := .type "tuple", data := .seq #[u, u2] } := (sb.2 _ (Nat.ne_of_gt hzl)).trans hT
    have new : ObjOk X.prog X.w (upd H s.heap.objs.size (.tup [x, y])) h'' s.heap.objs.size (.tup [x, y]) :=
      ⟨by show 2 ≤ sizeLine; decide, [u, u2], .cons ru (.cons ru2 .nil), ⟨_, hT2, rfl, _, rfl⟩⟩
    have I1 : Inv X pins σ (upd H s.heap.objs.size (.tup [x, y])) { s with heap := h'' } :=
      I.turnedNew (t' := s.toks) (ch := [z, TI, TO, i1, i2]) (fun c o hb q => (sb.2 c (fun q' => hb (by simp [q']))).trans (hk c o (fun q' => hb (by simp [q'])) (fun q' => hb (by simp [q'])) (fun q' => hb (by simp [q'])) (fun q' => hb (by simp [q'])) q)) hf (Nat.le_refl _) new
    refine ⟨.ref s.heap.objs.size, _, I1, rfl, ⟨_, x, y, rfl, I.hok.fresh (Nat.le_refl _), rfl, fun l hl => by rw [I.list_inj hl hqx]; exact hx, fun l hl => by rw [I.list_inj hl hqy]; exact hy⟩, ⟨z'', ?_, ⟨u, u2, ?_⟩, ?_, ?_⟩, fun c hcm => ?_⟩
    · exact (sb.2 _ D.TIz).trans (hk _ _ D.TIz D.TITO D.TIi1 D.TIi2 hTI)
    · exact (sb.2 _ D.TOz).trans TO'
    · exact h1'.at fun o q => (sb.2 _ D.i1z).trans q
    · exact h2'.at fun o q => (sb.2 _ D.i2z).trans q
    · have hlt : c < s.heap.objs.size := by
        have e' : c = z ∨ c = TI ∨ c = TO ∨ c = i1 ∨ c = i2 := by simpa using hcm
        rcases e' with q | q | q | q | q
        · rw [q]; exact hzl
        · rw [q]; exact Heap.lt_size hTI
        · rw [q]; exact Heap.lt_size hTO
        · rw [q]; obtain ⟨_, e1, _⟩ := h1; exact Heap.lt_size e1
        · rw [q]; obtain ⟨_, e2, _⟩ := h2; exact Heap.lt_size e2
      rw [upd_ne (Nat.ne_of_lt hlt)]
      exact (hf c hcm).1
  done := by
    intro X hP hw hK hc i pins s σ H E I hf st hg
    subst hP hw hK
    obtain ⟨hz, hTI, ⟨x0, y0, hTO⟩, h1, h2⟩ := st
    obtain ⟨xs, ys, hqx, hqy, hend⟩ := hg
    obtain ⟨its, rv, p, _⟩ := I.list hqx
    obtain ⟨its2, rv2, p2, _⟩ := I.list hqy
    have l1 := rv.length
    have l2 := rv2.length
    have he : its.toArray[i]? = none ∨ its2.toArray[i]? = none := by
      rcases hend with q | q
      · exact .inl (by simp; omega)
      · exact .inr (by simp; omega)
    exact wpAny_pyNext_zip_end (I.ok.hd hc) D hz hTI hTO h1 h2 p.isList p2.isList he fun h' hk => ⟨rfl, I.turnedL (t' := s.toks) (ch := [z, TI, TO, i1, i2]) (fun c o hb q =>
      hk c o (fun q' => hb (by simp [q'])) (fun q' => hb (by simp [q'])) (fun q' => hb (by simp [q'])) (fun q' => hb (by simp [q'])) q) hf⟩
  self := fun A i s Q E st h => wpAny_pyIter_zip st.1 h
def iZip (K : PySem.W.Frag) (ta : TA) : TI := fun σ H R => ta σ H fun vs H1 => ∃ a b xs ys, vs = [.ref a, .ref b] ∧ SqL K H1 a xs ∧ SqL K H1 b ys ∧ R (Itz K a b) H1
theorem pi_zip {X : Cx} {e e2 : Expr} {ta : TA} {p pos tpos : Pos} {elts : List Expr} {kk : Nat} (hg : Gl X "zip") (hm : X.mg "zip" = none) (ha : PA X [e, e2] ta)
    (hs : starEach [e, e2] X.env = (false, eval e X.env) :: starEach [e2] X.env := by rfl) (hpl : (backTo pos (starEach [e2] X.env)).any (·.1) = false := by rfl) :
    PI X (.Tuple elts kk tpos) (.Call (.Name "zip" p) [e, e2] [] pos) (iZip X.K ta) := by
  intro pins s σ H R I h
  refine Call_ (ld_blt I hg hm boot_zip5 (PyProof.Rows.callWith_type1 (thn (ha pos pins s σ H _ I h) fun us s1 ⟨vs, H1, I1, r1, q1⟩ => ?_) hs hpl))
  obtain ⟨a, b, xs, ys, ex, hqx, hqy, q⟩ := q1
  subst ex
  cases r1 with
  | cons r rr =>
    cases rr with
    | cons r' rr =>
      cases rr
      cases r
      cases r'
      obtain ⟨its, rv, p1, _⟩ := I1.list hqx
      obtain ⟨its2, rv2, p2, _⟩ := I1.list hqy
      have la : a < s1.heap.objs.size := p1.lt
      have lb : b < s1.heap.objs.size := p2.lt
      refine call_zip_2 p1.isList p2.isList fun h' hz hTI hTO h1 h2 hsz hk => wpAny_pyIter_zip hz ?_
      have I2 : Inv X pins σ H1 { s1 with heap := h' } := I1.kept (t' := s1.toks) hk
      refine ⟨s1.heap.objs.size + 4, [s1.heap.objs.size + 4, s1.heap.objs.size + 2, s1.heap.objs.size + 3, s1.heap.objs.size, s1.heap.objs.size + 1], _, _, H1, rfl, I2, turn_zip (PySem.W.ktu_apart s1.heap.objs.size a b la lb), ⟨hz, hTI, ⟨_, _, hTO⟩, h1, h2⟩, fun c hcm => ?_, q⟩
      have e' : c = s1.heap.objs.size + 4 ∨ c = s1.heap.objs.size + 2 ∨ c = s1.heap.objs.size + 3 ∨ c = s1.heap.objs.size ∨ c = s1.heap.objs.size + 1 := by simpa using hcm
      have hle : s1.heap.objs.size ≤ c := by
        rcases e' with z | z | z | z | z
        · rw [z]; exact Nat.le_add_right _ _
        · rw [z]; exact Nat.le_add_right _ _
        · rw [z]; exact Nat.le_add_right _ _
        · rw [z]; exact Nat.le_refl _
        · rw [z]; exact Nat.le_add_right _ _
      exact I1.fpOk hle (I1.hok.fresh hle)
end L2
section
namespace Bits
open PySem PyProof.Rows
end Bits
end
section
namespace TL
open PySem PySem.Builtin PySem.Builtin.Str PySem.StrLaws
abbrev tl (x : Str) : List Nat := x.cps.toList
theorem len_tl (x : Str) : x.length = (tl x).length := by simp [tl, Str.length]
def pre (S l : List Nat) : Bool := l.take S.length == S
def par (S : List Nat) : List Nat → List Nat → Option (List Nat × List Nat)
  | _, [] => none
  | acc, c :: r => if pre S (c :: r) = true then some (acc, (c :: r).drop S.length) else par S (acc ++ [c]) r
theorem len1 {y : Str} (hy : tl y ≠ []) : 1 ≤ y.length := by
  have e2 : 0 < (tl y).length := List.length_pos_iff.mpr hy
  rw [len_tl y]
  exact e2
end TL
end
namespace L2
open PySem PySem.Spec PyProof.Rows
section
variable {X : Cx} {pins : List (Addr × Obj)} {σ : St} {H : Hp} {s : Shared} {Q : VK}
end
section
variable {X : Cx}
end
section
variable {X : Cx} {o e : Expr} {to te : TE}
end
end L2
namespace L2
open PySem PySem.Spec PyProof.Rows
section
variable {X : Cx}
end
theorem IsPart.raw {v : Value} {o : Option Int} (p : IsPart v o) : ∃ l : Option (Int × Tok), v = partValue l ∧ l.map (·.1) = o := by
  cases p with
  | none => exact ⟨none, rfl, rfl⟩
  | int i t => exact ⟨some (i, t), rfl, rfl⟩
end L2
namespace Att
open PySem PySem.W PySem.Calls PyProof.Rows
section
variable {prog : Program} {w : World} {A : Around} {E : Value → Shared → Prop} {s : Shared} {K : Frag}
end
end Att
namespace L2
open PySem PySem.Spec PyProof.Rows
end L2
namespace L2
open PySem PySem.Spec PyProof.Rows
abbrev KOf {K : PySem.W.Frag} {h : Heap} (_ : K.In h) : PySem.W.Frag := K
end L2
namespace L2
open PySem PySem.Spec PyProof.Rows
def inClass (s : Stmt) (j : Nat) : Stmt := match s with
  | .ClassDef _ _ _ body _ _ _ _ _ _ _ => body.getD j (.Pass ⟨0, 0, 0, 0⟩)
  | _ => .Pass ⟨0, 0, 0, 0⟩
def defArgs (s : Stmt) : Arguments := match s with
  | .FunctionDef _ a _ _ _ _ _ _ _ _ => a
  | _ => { posonlyargs := [], args := [], vararg := none, kwonlyargs := [], kw_defaults := [], kwarg := none, defaults := [] }
def defBody (s : Stmt) : List Stmt := match s with
  | .FunctionDef _ _ b _ _ _ _ _ _ _ => b
  | _ => []
def defScope (s : Stmt) : Scope := match s with
  | .FunctionDef _ _ _ _ _ _ sc _ _ _ => sc
  | _ => { kind := .function, names := [], isGenerator := false, isCoroutine := false }
abbrev CX0 : CXT := fun _ _ _ _ _ _ => False
abbrev E0 : XK := fun _ _ _ => False
theorem pass0 {X : Cx} : Passes CX0 X E0 := fun _ _ _ _ _ _ _ h => h.elim
structure Fun (K : PySem.W.Frag) (x qual : Str) (st : Stmt) (f : Addr) (fd : FuncData) : Prop where
  ex : ∃ (oc : Value) (od : Option Addr) (kV doc pm : Value) (an : Option Addr) (cdv ct : Value) (osl : Array (Option Value)),
    fd = PySem.W.fnOf x qual (defArgs st) (defBody st) (defScope st) .none kV doc pm an cdv ct ∧ K.lookup f = some ⟨oc, od, .func fd, osl⟩ ∧ PySem.W.codeIn K cdv qual = true
  kp : PySem.W.keepIn K (.ref f) = true
section
variable {P : Program} {w : World} {K : PySem.W.Frag} {mg : Str → Option Value} {base : Heap}
theorem Fun.ok {x qual : Str} {st : Stmt} {f : Addr} {fd : FuncData} {N ps : List Str} {k : Nat} {sp : Sp} (F : Fun K x qual st f fd) (S : FnScope N ps (defScope st)) (len : ∀ vs H Q E, sp vs H Q E → vs.length = ps.length)
    (hbody : ∀ (cdv : Value) (A : Around) (outer : List Env) (s : Shared) (H : Hp) (vs : List V) (Q : VK) (E : XK), Room k (A.deeper (envOfC qual (defScope st) s.heap.objs.size f cdv)) → sp vs H Q E →
      ∃ t, PSs (cxOf CX0 P w K mg base N qual (defScope st) f cdv A outer s H E).nox (defBody st) t ∧ t { nx := fun _ H' => Q .non H', rt := Q } (start N vs) H) : FnOk P w K mg base CX0 (k + 1) f fd ps sp := by
  obtain ⟨oc, od, kV, doc, pm, an, cdv, ct, osl, rfl, lk, hcd⟩ := F.ex
  refine fn_of lk hcd S len fun A outer s H vs Q E hr hsp => ?_
  obtain ⟨t, h, q⟩ := hbody cdv A outer s H vs Q E hr hsp
  exact ⟨t, h.nox, q⟩
theorem Fun.binds {x qual : Str} {st : Stmt} {f : Addr} {fd : FuncData} {ps : List Str} (F : Fun K x qual st f fd)
    (h : ∀ (kV doc pm : Value) (an : Option Addr) (cdv ct : Value) (us : List Value), us.length = ps.length → bindArgs (PySem.W.fnOf x qual (defArgs st) (defBody st) (defScope st) .none kV doc pm an cdv ct) ⟨us, []⟩ = pure (ps.zip us)) : Binds K fd ps [] := by
  obtain ⟨oc, od, kV, doc, pm, an, cdv, ct, osl, rfl, lk, hcd⟩ := F.ex
  exact .all (h kV doc pm an cdv ct)
theorem fun_mk {x qual : Str} {st : Stmt} {f : Addr} {oc : Value} {od an : Option Addr} {osl : Array (Option Value)} {kV doc pm cdv ct : Value} (l : K.lookup f = some ⟨oc, od, .func (PySem.W.fnOf x qual (defArgs st) (defBody st) (defScope st) .none kV doc pm an cdv ct), osl⟩)
    (c : PySem.W.codeIn K cdv qual = true) (k : PySem.W.keepIn K (.ref f) = true) : Fun K x qual st f (PySem.W.fnOf x qual (defArgs st) (defBody st) (defScope st) .none kV doc pm an cdv ct) := ⟨⟨oc, od, kV, doc, pm, an, cdv, ct, osl, rfl, l, c⟩, k⟩
end
theorem hu_of {A : Around} {k : Nat} (hr : Room k A) : A.units + 1 < cLine := Nat.lt_of_le_of_lt (Nat.add_le_add_left (by decide : 1 ≤ 64) _) hr.units
theorem small1000 {n : Nat} (h : n ≤ 1000) : n < sizeLine := Nat.lt_of_le_of_lt h (by decide)
section
variable {X : Cx}
theorem pv (i : Nat) {x : Str} {pos : Pos} (hN : X.N[i]? = some x := by rfl) (hv : Vis X.env.scope x := by first | exact Or.inl rfl | exact Or.inr (Or.inl rfl) | exact Or.inr (Or.inr rfl)) (hd : (x == ("__debug__" : Str)) = false := by decide)
    (hcd : (x == ("__classdict__" : Str)) = false := by decide) : PE X (.Name x pos) (tVar i) := pe_var hN hv hd hcd
end
theorem iteF {A B : Prop} (h : B) : if false = true then A else B := by
  rw [if_neg Bool.false_ne_true]
  exact h
theorem iteT {A B : Prop} (h : A) : if true = true then A else B := by
  rw [if_pos rfl]
  exact h
theorem ite2 {c A B : Prop} [Decidable c] (h1 : c → A) (h2 : ¬ c → B) : if c then A else B := by
  by_cases h : c
  · rw [if_pos h]
    exact h1 h
  · rw [if_neg h]
    exact h2 h
def Same (H H' : Hp) : Prop := ∀ b o, H b = some o → H' b = some o
theorem Same.refl (H : Hp) : Same H H := fun _ _ h => h
theorem Same.trans {H H1 H2 : Hp} (a : Same H H1) (b : Same H1 H2) : Same H H2 := fun c o h => b c o (a c o h)
theorem Same.free {H H' : Hp} (e : Same H H') {l : Addr} (h : H' l = Option.none) : H l = Option.none := by
  cases q : H l with
  | none => rfl
  | some o =>
    rw [e l o q] at h
    cases h
theorem Same.seq {K : PySem.W.Frag} {H H' : Hp} {a : Addr} {xs : List V} (e : Same H H') (h : SqL K H a xs) : SqL K H' a xs := by
  rcases h with (h | ⟨o, h⟩) | h
  · exact .inl (.inl (e _ _ h))
  · exact .inl (.inr ⟨o, e _ _ h⟩)
  · exact .inr h
section
variable {κ : Type} [DecidableEq κ]
end
theorem at_of {xs : List V} {z : Int} {j : Nat} {v : V} (e : z = (j : Int)) (h : xs[j]? = some v) : atI xs z = some v := by
  rw [e]
  exact atI_nat h
theorem Same.made {H H1 : Hp} {x dx C : Addr} (nx : H x = Option.none) (nd : H dx = Option.none) (k : ∀ b o, (upd (upd H dx (.own x)) x (.ins C dx [])) b = some o → b ≠ x → H1 b = some o) : Same H H1 := fun b o e =>
  k b o (by rw [upd_ne (ne_of_none e nx), upd_ne (ne_of_none e nd)]; exact e) (ne_of_none e nx)
end L2
end

section
section
set_option Elab.async false
set_option linter.all false
set_option maxRecDepth 100000
set_option maxHeartbeats 2000000
namespace L2
open PySem PySem.Spec PyProof.Rows
open PySem.W (WData Codec OpenSpec Well WellAll ReadsW ReadsAllW)
/-! ### an answer as data -/
mutual
/-- x stands for the datum d, lists and tuples all the way -/
inductive Dw (K : PySem.W.Frag) (H : Hp) : V → WData → Prop
  | non : Dw K H .non .none
  | bl (b : Bool) : Dw K H (.bl b) (.bool b)
  | int (i : Int) : Dw K H (.int i) (.int i)
  | str (x : Str) : Dw K H (.str x) (.str x)
  | byt (b : Array UInt8) : Dw K H (.byt b) (.bytes b.toList)
  | lst {a : Addr} {xs : List V} {ds : List WData} : SqL K H a xs → DwAll K H xs ds → Dw K H (.ref a) (.list ds)
  | tup {a : Addr} {xs : List V} {ds : List WData} : SqT K H a xs → DwAll K H xs ds → Dw K H (.ref a) (.tuple ds)
inductive DwAll (K : PySem.W.Frag) (H : Hp) : List V → List WData → Prop
  | nil : DwAll K H [] []
  | cons {v : V} {vs : List V} {d : WData} {ds : List WData} : Dw K H v d → DwAll K H vs ds → DwAll K H (v :: vs) (d :: ds)
end
theorem dw_ints {K : PySem.W.Frag} {H : Hp} : ∀ ns : List Int, DwAll K H (ns.map V.int) (ns.map WData.int)
  | [] => .nil
  | n :: r => .cons (.int n) (dw_ints r)
theorem ints_dw {K : PySem.W.Frag} {H : Hp} : ∀ (ns : List Int) (xs : List V), DwAll K H xs (ns.map WData.int) → xs = ns.map V.int
  | [], xs, h => by
    cases h
    rfl
  | n :: r, xs, h => by
    cases h with
    | cons h1 h2 =>
      cases h1
      rw [ints_dw r _ h2] <;> rfl
section
variable {P : Program} {w : World} {K : PySem.W.Frag} {H : Hp} {h : Heap} {R : PySem.W.WRecords} {cl : Str → Option Addr}
theorem sqL_at {a : Addr} {xs : List V} (hok : HOk P w H h) (KX : K.In h) (q : SqL K H a xs) : ∃ (its : List Value) (o : Obj) (n : Nat), Vals xs its ∧ h.get? a = some o ∧ o.cls = .type "list" ∧ o.data = .seq its.toArray n := by
  rcases q with q | ⟨o, its, n, e, hc, _, hd, _, hv⟩
  · obtain ⟨_, its, n, hv, e⟩ := (show ObjOk P w H h a (.lst xs) from q.ok hok)
    exact ⟨its, _, n, hv, e, rfl, rfl⟩
  · exact ⟨its.toList, o, n, hv, KX _ _ e, hc, by simp [hd]⟩
theorem sqT_at {a : Addr} {xs : List V} (hok : HOk P w H h) (KX : K.In h) (q : SqT K H a xs) : ∃ (its : List Value) (o : Obj) (n : Nat), Vals xs its ∧ h.get? a = some o ∧ o.cls = .type "tuple" ∧ o.data = .seq its.toArray n := by
  rcases q with q | ⟨o, its, n, e, hc, hd, _, hv⟩
  · obtain ⟨_, its, hv, o, e, hc, n, hd⟩ := (show ObjOk P w H h a (.tup xs) from q.ok hok)
    exact ⟨its, o, n, hv, e, hc, hd⟩
  · exact ⟨its.toList, o, n, hv, KX _ _ e, hc, by simp [hd]⟩
mutual
theorem Dw.reads (hok : HOk P w H h) (KX : K.In h) : ∀ (d : WData) (v : V) (u : Value), Dw K H v d → RelV v u → ∃ as, ReadsW R cl h u d as
  | .none, _, _, x, r => by
    cases x
    cases r
    exact ⟨_, ReadsW.none⟩
  | .bool b, _, _, x, r => by
    cases x
    cases r
    exact ⟨_, ReadsW.bool b⟩
  | .int i, _, _, x, r => by
    cases x
    obtain ⟨t, rfl⟩ := r
    exact ⟨_, ReadsW.int i t⟩
  | .str s, _, _, x, r => by
    cases x
    obtain ⟨t, rfl⟩ := r
    exact ⟨_, ReadsW.str s t⟩
  | .bytes b, _, _, x, r => by
    cases x
    obtain ⟨t, rfl⟩ := r
    exact ⟨_, ReadsW.bytes _ t⟩
  | .list ds, _, _, x, r => by
    cases x with
    | lst hs ha =>
      cases r
      obtain ⟨its, o, n, rv, ho, hc, hd⟩ := sqL_at hok KX hs
      obtain ⟨as, hr⟩ := Dw.readsAll hok KX ds _ its ha rv
      exact ⟨_, ReadsW.list ho hc hd hr⟩
  | .tuple ds, _, _, x, r => by
    cases x with
    | tup hs ha =>
      cases r
      obtain ⟨its, o, n, rv, ho, hc, hd⟩ := sqT_at hok KX hs
      obtain ⟨as, hr⟩ := Dw.readsAll hok KX ds _ its ha rv
      exact ⟨_, ReadsW.tuple ho hc hd hr⟩
  | .float _, _, _, x, _ => by cases x
  | .dict _, _, _, x, _ => by cases x
  | .bytearray _, _, _, x, _ => by cases x
  | .set _, _, _, x, _ => by cases x
  | .frozenset _, _, _, x, _ => by cases x
  | .obj _ _, _, _, x, _ => by cases x
theorem Dw.readsAll (hok : HOk P w H h) (KX : K.In h) : ∀ (ds : List WData) (vs : List V) (us : List Value), DwAll K H vs ds → Vals vs us → ∃ as, ReadsAllW R cl h us ds as
  | [], _, _, x, r => by
    cases x
    cases r
    exact ⟨_, ReadsAllW.nil⟩
  | d :: ds, _, _, x, r => by
    cases x with
    | cons h1 h2 =>
      cases r with
      | cons r1 r2 =>
        obtain ⟨as, q1⟩ := Dw.reads hok KX d _ _ h1 r1
        obtain ⟨bs, q2⟩ := Dw.readsAll hok KX ds _ _ h2 r2
        exact ⟨_, ReadsAllW.cons q1 q2⟩
end
end
/-! ### the arguments -/
mutual
/-- data that a codec tells -/
def plW : WData → Bool
  | .none => true
  | .bool _ => true
  | .int _ => true
  | .str _ => true
  | .bytes _ => true
  | .list xs => plWs xs
  | .tuple xs => plWs xs
  | _ => false
def plWs : List WData → Bool
  | [] => true
  | x :: r => plW x && plWs r
end
theorem plWs_map {α : Type} {f : α → WData} (h : ∀ a, plW (f a) = true) : ∀ l : List α, plWs (l.map f) = true
  | [] => rfl
  | x :: r => by
    show (plW (f x) && plWs (r.map f)) = true
    rw [h x, plWs_map h r] <;> rfl
theorem pl_enc : ∀ (c : Codec) (a : c.denote), plW (c.enc a) = true
  | .unit, _ => rfl
  | .bool, _ => rfl
  | .int _ _, _ => rfl
  | .nat _ _, _ => rfl
  | .u8, _ => rfl
  | .bytes _ _, _ => rfl
  | .text _ _ _ _, _ => rfl
  | .list _ _ c, a => plWs_map (fun x => pl_enc c x) a
  | .pair c d, a => by
    show (plW (c.enc a.1) && (plW (d.enc a.2) && true)) = true
    rw [pl_enc c a.1, pl_enc d a.2] <;> rfl
  | .triple c d e, a => by
    show (plW (c.enc a.1) && (plW (d.enc a.2.1) && (plW (e.enc a.2.2) && true))) = true
    rw [pl_enc c a.1, pl_enc d a.2.1, pl_enc e a.2.2] <;> rfl
  | .option c, none => rfl
  | .option c, some x => pl_enc c x
theorem pl_encAll : ∀ (cs : List Codec) (a : Codec.denoteAll cs), plWs (Codec.encAll cs a) = true
  | [], _ => rfl
  | c :: cs, a => by
    show (plW (c.enc a.1) && plWs (Codec.encAll cs a.2)) = true
    rw [pl_enc c a.1, pl_encAll cs a.2] <;> rfl
theorem weight_mem : ∀ {xs : List WData} {d : WData}, d ∈ xs → d.weight ≤ WData.weightAll xs
  | [], d, h => absurd h (by simp)
  | x :: r, d, h => by
    show d.weight ≤ x.weight + 1 + WData.weightAll r
    rcases List.mem_cons.mp h with e | m
    · rw [e]
      omega
    · have z := weight_mem m
      omega
def toV : Value → V
  | .none => .non
  | .bool b => .bl b
  | .int i _ => .int i
  | .str x _ => .str x
  | .bytes b _ => .byt b
  | .ref a => .ref a
  | _ => .non
/-- a value of the arguments, its objects among A -/
def OkU (A : List Addr) : Value → Prop
  | .none => True
  | .bool _ => True
  | .int _ _ => True
  | .str _ _ => True
  | .bytes _ _ => True
  | .ref a => a ∈ A
  | _ => False
theorem OkU.mono {A B : List Addr} (h : ∀ a ∈ A, a ∈ B) : ∀ {u : Value}, OkU A u → OkU B u := fun {u} x => by
  cases u with
  | ref a => exact h a x
  | none => trivial
  | bool b => trivial
  | int i t => trivial
  | str s t => trivial
  | bytes b t => trivial
  | _ => exact False.elim x
theorem relV_toV {A : List Addr} {u : Value} (x : OkU A u) : RelV (toV u) u := by
  cases u with
  | ref a => rfl
  | none => rfl
  | bool b => rfl
  | int i t => exact ⟨t, rfl⟩
  | str s t => exact ⟨t, rfl⟩
  | bytes b t => exact ⟨t, rfl⟩
  | _ => exact False.elim x
theorem vals_toV {A : List Addr} : ∀ {vs : List Value}, (∀ u ∈ vs, OkU A u) → Vals (vs.map toV) vs
  | [], _ => .nil
  | u :: r, h => .cons (relV_toV (h u (List.mem_cons_self ..))) (vals_toV fun x hx => h x (List.mem_cons_of_mem _ hx))
/-- an object of the arguments -/
def ArgOb (h : Heap) (A : List Addr) (a : Addr) : Prop := ∃ vs : List Value, vs.length ≤ sizeLine ∧ (∀ u ∈ vs, OkU A u) ∧
  (h.get? a = some { cls := .type "list", data := .seq vs.toArray } ∨ h.get? a = some { cls := .type "tuple", data := .seq vs.toArray })
theorem ArgOb.mono {h : Heap} {A B : List Addr} {a : Addr} (k : ∀ a ∈ A, a ∈ B) (x : ArgOb h A a) : ArgOb h B a := by
  obtain ⟨vs, h1, h2, h3⟩ := x
  exact ⟨vs, h1, fun u hu => (h2 u hu).mono k, h3⟩
theorem wellAll_len {P : Params} {h : Heap} : ∀ {vs : List Value} {ds : List WData}, WellAll P h vs ds → vs.length = ds.length
  | _, _, .nil => rfl
  | _, _, .cons _ b => by
    show _ + 1 = _ + 1
    rw [wellAll_len b]
theorem well_list {P : Params} {h : Heap} {v : Value} {ds : List WData} (x : Well P h v (.list ds)) : ∃ (a : Addr) (vs : List Value), v = .ref a ∧ h.get? a = some { cls := .type "list", data := .seq vs.toArray } ∧ WellAll P h vs ds := by
  cases x with
  | list ho hall => exact ⟨_, _, rfl, ho, hall⟩
theorem well_tuple {P : Params} {h : Heap} {v : Value} {ds : List WData} (x : Well P h v (.tuple ds)) : ∃ (a : Addr) (vs : List Value), v = .ref a ∧ h.get? a = some { cls := .type "tuple", data := .seq vs.toArray } ∧ WellAll P h vs ds := by
  cases x with
  | tuple ho hall => exact ⟨_, _, rfl, ho, hall⟩
theorem well_cons {P : Params} {h : Heap} {us : List Value} {d : WData} {ds : List WData} (x : WellAll P h us (d :: ds)) : ∃ (v : Value) (vs : List Value), us = v :: vs ∧ Well P h v d ∧ WellAll P h vs ds := by
  cases x with
  | cons a b => exact ⟨_, _, rfl, a, b⟩
theorem line_of {n : Nat} (h : n ≤ 1048576) : n ≤ sizeLine := Nat.le_trans h (by decide)
section
variable {P : Params} {h : Heap}
mutual
theorem area_one : ∀ (d : WData) (v : Value), Well P h v d → plW d = true → d.weight ≤ 1048576 → ∃ A : List Addr, OkU A v ∧ ∀ a ∈ A, ArgOb h A a
  | .none, _, x, _, _ => by
    cases x
    exact ⟨[], trivial, fun a m => absurd m (by simp)⟩
  | .bool b, _, x, _, _ => by
    cases x
    exact ⟨[], trivial, fun a m => absurd m (by simp)⟩
  | .int i, _, x, _, _ => by
    cases x
    exact ⟨[], trivial, fun a m => absurd m (by simp)⟩
  | .str s, _, x, _, _ => by
    cases x
    exact ⟨[], trivial, fun a m => absurd m (by simp)⟩
  | .bytes b, _, x, _, _ => by
    cases x
    exact ⟨[], trivial, fun a m => absurd m (by simp)⟩
  | .list ds, _, x, p, z => by
    obtain ⟨a, vs, rfl, ho, hall⟩ := well_list x
    have z2 : WData.weightAll ds ≤ 1048576 := z
    obtain ⟨A, h1, h2⟩ := area_all ds _ hall p fun d hd => Nat.le_trans (weight_mem hd) z2
    have k : ∀ b ∈ A, b ∈ a :: A := fun b hb => List.mem_cons_of_mem _ hb
    refine ⟨a :: A, List.mem_cons_self .., fun b hb => ?_⟩
    rcases List.mem_cons.mp hb with e | m
    · rw [e]
      exact ⟨vs, line_of (by rw [wellAll_len hall]; exact Nat.le_trans (PySem.W.length_le_weightAllW ds) z2), fun u hu => (h1 u hu).mono k, .inl ho⟩
    · exact (h2 b m).mono k
  | .tuple ds, _, x, p, z => by
    obtain ⟨a, vs, rfl, ho, hall⟩ := well_tuple x
    have z2 : WData.weightAll ds ≤ 1048576 := z
    obtain ⟨A, h1, h2⟩ := area_all ds _ hall p fun d hd => Nat.le_trans (weight_mem hd) z2
    have k : ∀ b ∈ A, b ∈ a :: A := fun b hb => List.mem_cons_of_mem _ hb
    refine ⟨a :: A, List.mem_cons_self .., fun b hb => ?_⟩
    rcases List.mem_cons.mp hb with e | m
    · rw [e]
      exact ⟨vs, line_of (by rw [wellAll_len hall]; exact Nat.le_trans (PySem.W.length_le_weightAllW ds) z2), fun u hu => (h1 u hu).mono k, .inr ho⟩
    · exact (h2 b m).mono k
  | .float _, _, _, p, _ => Bool.noConfusion (show false = true from p)
  | .dict _, _, _, p, _ => Bool.noConfusion (show false = true from p)
  | .bytearray _, _, _, p, _ => Bool.noConfusion (show false = true from p)
  | .set _, _, _, p, _ => Bool.noConfusion (show false = true from p)
  | .frozenset _, _, _, p, _ => Bool.noConfusion (show false = true from p)
  | .obj _ _, _, _, p, _ => Bool.noConfusion (show false = true from p)
theorem area_all : ∀ (ds : List WData) (vs : List Value), WellAll P h vs ds → plWs ds = true → (∀ d ∈ ds, d.weight ≤ 1048576) → ∃ A : List Addr, (∀ u ∈ vs, OkU A u) ∧ ∀ a ∈ A, ArgOb h A a
  | [], _, x, _, _ => by
    cases x
    exact ⟨[], fun u m => absurd m (by simp), fun a m => absurd m (by simp)⟩
  | d :: ds, _, x, p, z => by
    obtain ⟨v, vs, rfl, x1, x2⟩ := well_cons x
    have q : plW d = true ∧ plWs ds = true := Bool.and_eq_true_iff.mp p
    obtain ⟨A, a1, a2⟩ := area_one d v x1 q.1 (z d (List.mem_cons_self ..))
    obtain ⟨B, b1, b2⟩ := area_all ds vs x2 q.2 fun e he => z e (List.mem_cons_of_mem _ he)
    have kA : ∀ b ∈ A, b ∈ A ++ B := fun b hb => List.mem_append.mpr (.inl hb)
    have kB : ∀ b ∈ B, b ∈ A ++ B := fun b hb => List.mem_append.mpr (.inr hb)
    refine ⟨A ++ B, fun u hu => ?_, fun b hb => ?_⟩
    · rcases List.mem_cons.mp hu with e | m
      · rw [e]
        exact a1.mono kA
      · exact (b1 u m).mono kB
    · rcases List.mem_append.mp hb with m | m
      · exact (a2 b m).mono kA
      · exact (b2 b m).mono kB
end
end
/-- what is tracked of an argument's object -/
def hoOf (o : Obj) : Option HO := match o.data with
  | .seq vs _ => if (o.cls == Value.type "list") = true then some (.frz o (.lst (vs.toList.map toV))) else some (.frz o (.tup (vs.toList.map toV)))
  | _ => none
def argH (K : PySem.W.Frag) (h : Heap) (A : List Addr) : Hp := fun b => if b ∈ A then (if (K.lookup b).isNone = true then (h.get? b).bind hoOf else none) else none
/-- nothing is tracked but what is known to the object -/
def OnlyF (H : Hp) : Prop := ∀ b, H b = none ∨ ∃ o u, H b = some (.frz o u)
theorem hoOf_lst (vs : List Value) : hoOf { cls := .type "list", data := .seq vs.toArray } = some (.frz { cls := .type "list", data := .seq vs.toArray } (.lst (vs.map toV))) := by
  show (if (Value.type "list" == Value.type "list") = true then some (HO.frz { cls := .type "list", data := .seq vs.toArray } (.lst (vs.toArray.toList.map toV))) else some (HO.frz { cls := .type "list", data := .seq vs.toArray } (.tup (vs.toArray.toList.map toV)))) = _
  rw [if_pos (beq_self_eq_true _)]
theorem hoOf_tup (vs : List Value) : hoOf { cls := .type "tuple", data := .seq vs.toArray } = some (.frz { cls := .type "tuple", data := .seq vs.toArray } (.tup (vs.map toV))) := by
  show (if (Value.type "tuple" == Value.type "list") = true then some (HO.frz { cls := .type "tuple", data := .seq vs.toArray } (.lst (vs.toArray.toList.map toV))) else some (HO.frz { cls := .type "tuple", data := .seq vs.toArray } (.tup (vs.toArray.toList.map toV)))) = _
  rw [if_neg (by decide)]
section
variable {P : Program} {w : World} {K : PySem.W.Frag} {h : Heap} {A : List Addr}
theorem argH_at {b : Addr} {o : Obj} (hb : b ∈ A) (hk : K.lookup b = none) (e : h.get? b = some o) : argH K h A b = hoOf o := by
  unfold argH
  rw [if_pos hb, hk, if_pos (show (none : Option Obj).isNone = true from rfl), e] <;> rfl
theorem of_argH {b : Addr} {u : HO} (q : argH K h A b = some u) : b ∈ A ∧ K.lookup b = none := by
  unfold argH at q
  by_cases hb : b ∈ A
  · rw [if_pos hb] at q
    cases hk : K.lookup b with
    | none => exact ⟨hb, rfl⟩
    | some o =>
      rw [hk, if_neg (by simp)] at q
      cases q
  · rw [if_neg hb] at q
    cases q
/-- what stands tracked -/
theorem argH_is (ar : ∀ a ∈ A, ArgOb h A a) {b : Addr} {u : HO} (q : argH K h A b = some u) : K.lookup b = none ∧ ∃ vs : List Value, vs.length ≤ sizeLine ∧ (∀ u ∈ vs, OkU A u) ∧
    ((h.get? b = some { cls := .type "list", data := .seq vs.toArray } ∧ u = .frz { cls := .type "list", data := .seq vs.toArray } (.lst (vs.map toV))) ∨
     (h.get? b = some { cls := .type "tuple", data := .seq vs.toArray } ∧ u = .frz { cls := .type "tuple", data := .seq vs.toArray } (.tup (vs.map toV)))) := by
  obtain ⟨hb, hk⟩ := of_argH q
  obtain ⟨vs, h1, h2, h3⟩ := ar b hb
  refine ⟨hk, vs, h1, h2, ?_⟩
  rcases h3 with e | e
  · rw [argH_at hb hk e, hoOf_lst] at q
    exact .inl ⟨e, (Option.some.inj q).symm⟩
  · rw [argH_at hb hk e, hoOf_tup] at q
    exact .inr ⟨e, (Option.some.inj q).symm⟩
theorem argH_only (ar : ∀ a ∈ A, ArgOb h A a) : OnlyF (argH K h A) := fun b => by
  cases q : argH K h A b with
  | none => exact .inl rfl
  | some u =>
    obtain ⟨_, vs, _, _, ⟨_, e⟩ | ⟨_, e⟩⟩ := argH_is ar q
    · exact .inr ⟨_, _, by rw [e]⟩
    · exact .inr ⟨_, _, by rw [e]⟩
theorem argH_ok (ar : ∀ a ∈ A, ArgOb h A a) : HOk P w (argH K h A) h := fun b u q => by
  obtain ⟨_, vs, h1, h2, ⟨e, rfl⟩ | ⟨e, rfl⟩⟩ := argH_is ar q
  · exact ⟨e, by rw [List.length_map]; exact h1, vs, _, vals_toV h2, e⟩
  · exact ⟨e, by rw [List.length_map]; exact h1, vs, vals_toV h2, _, e, rfl, _, rfl⟩
theorem seq_inj {c c' : Value} {vs us : List Value} (e : (some { cls := c, data := .seq vs.toArray } : Option Obj) = some { cls := c', data := .seq us.toArray }) : c = c' ∧ vs = us := by
  have e1 := Option.some.inj e
  have e2 : c = c' := congrArg Obj.cls e1
  have e3 : Data.seq vs.toArray = Data.seq us.toArray := congrArg Obj.data e1
  injection e3 with e4
  refine ⟨e2, ?_⟩
  have e5 := congrArg Array.toList e4
  simpa using e5
/-- a list argument -/
theorem argL (KX : K.In h) (ar : ∀ a ∈ A, ArgOb h A a) {a : Addr} {vs : List Value} (ha : a ∈ A) (e : h.get? a = some { cls := .type "list", data := .seq vs.toArray }) : (∀ u ∈ vs, OkU A u) ∧ SqL K (argH K h A) a (vs.map toV) := by
  obtain ⟨us, h1, h2, h3⟩ := ar a ha
  have hu : us = vs := by
    rcases h3 with q | q
    · rw [e] at q
      exact (seq_inj q).2.symm
    · rw [e] at q
      exact absurd (Value.type.inj (seq_inj q).1) (by decide)
  subst hu
  refine ⟨h2, ?_⟩
  cases hk : K.lookup a with
  | none => exact .inl (.inr ⟨_, by rw [argH_at ha hk e, hoOf_lst]⟩)
  | some o =>
    have e2 := KX a o hk
    rw [e] at e2
    obtain rfl := Option.some.inj e2
    exact .inr ⟨_, us.toArray, _, hk, rfl, rfl, rfl, by rw [List.size_toArray]; exact h1, by simpa using vals_toV h2⟩
theorem argT (KX : K.In h) (ar : ∀ a ∈ A, ArgOb h A a) {a : Addr} {vs : List Value} (ha : a ∈ A) (e : h.get? a = some { cls := .type "tuple", data := .seq vs.toArray }) : (∀ u ∈ vs, OkU A u) ∧ SqT K (argH K h A) a (vs.map toV) := by
  obtain ⟨us, h1, h2, h3⟩ := ar a ha
  have hu : us = vs := by
    rcases h3 with q | q
    · rw [e] at q
      exact absurd (Value.type.inj (seq_inj q).1) (by decide)
    · rw [e] at q
      exact (seq_inj q).2.symm
  subst hu
  refine ⟨h2, ?_⟩
  cases hk : K.lookup a with
  | none => exact .inl (.inr ⟨_, by rw [argH_at ha hk e, hoOf_tup]⟩)
  | some o =>
    have e2 := KX a o hk
    rw [e] at e2
    obtain rfl := Option.some.inj e2
    exact .inr ⟨_, us.toArray, _, hk, rfl, rfl, by rw [List.size_toArray]; exact h1, by simpa using vals_toV h2⟩
mutual
theorem dw_one {Pm : Params} (KX : K.In h) (ar : ∀ a ∈ A, ArgOb h A a) : ∀ (d : WData) (v : Value), Well Pm h v d → plW d = true → OkU A v → Dw K (argH K h A) (toV v) d
  | .none, _, x, _, _ => by
    cases x
    exact .non
  | .bool b, _, x, _, _ => by
    cases x
    exact .bl b
  | .int i, _, x, _, _ => by
    cases x
    exact .int i
  | .str s, _, x, _, _ => by
    cases x
    exact .str s
  | .bytes b, _, x, _, _ => by
    cases x
    have z := Dw.byt (K := K) (H := argH K h A) b.toArray
    exact z
  | .list ds, _, x, p, hu => by
    obtain ⟨a, vs, rfl, ho, hall⟩ := well_list x
    obtain ⟨h2, hs⟩ := argL KX ar hu ho
    exact .lst hs (dw_all KX ar ds _ hall p h2)
  | .tuple ds, _, x, p, hu => by
    obtain ⟨a, vs, rfl, ho, hall⟩ := well_tuple x
    obtain ⟨h2, hs⟩ := argT KX ar hu ho
    exact .tup hs (dw_all KX ar ds _ hall p h2)
  | .float _, _, _, p, _ => Bool.noConfusion (show false = true from p)
  | .dict _, _, _, p, _ => Bool.noConfusion (show false = true from p)
  | .bytearray _, _, _, p, _ => Bool.noConfusion (show false = true from p)
  | .set _, _, _, p, _ => Bool.noConfusion (show false = true from p)
  | .frozenset _, _, _, p, _ => Bool.noConfusion (show false = true from p)
  | .obj _ _, _, _, p, _ => Bool.noConfusion (show false = true from p)
theorem dw_all {Pm : Params} (KX : K.In h) (ar : ∀ a ∈ A, ArgOb h A a) : ∀ (ds : List WData) (vs : List Value), WellAll Pm h vs ds → plWs ds = true → (∀ u ∈ vs, OkU A u) → DwAll K (argH K h A) (vs.map toV) ds
  | [], _, x, _, _ => by
    cases x
    exact .nil
  | d :: ds, _, x, p, hu => by
    obtain ⟨v, vs, rfl, x1, x2⟩ := well_cons x
    have q : plW d = true ∧ plWs ds = true := Bool.and_eq_true_iff.mp p
    exact .cons (dw_one KX ar d v x1 q.1 (hu _ (List.mem_cons_self ..))) (dw_all KX ar ds vs x2 q.2 fun u m => hu u (List.mem_cons_of_mem _ m))
end
end
/-! ### the call -/
theorem spec_call {P : Program} {w : World} {K : PySem.W.Frag} {mg mb : Str → Option Value} {CX : CXT} {k : Nat} {fa : Addr} {fd : FuncData} {ps : List Str} {sp : Sp} {s₁ : Shared} {vals : List Value} {ds : List WData} {R : PySem.W.WRecords} {cl : Str → Option Addr} {d0 : WData}
    (KX : K.In s₁.heap) (hns : s₁.heap.Ns mainGlobals mg) (hb : s₁.heap.Ns builtinsNs mb) (hbb : ∀ x : Str, x ≠ "__name__" → mb x = bootBuiltins x) (hlim : s₁.heap.NoLimit) (hg : s₁.gens = #[])
    (hwl : WellAll w.params s₁.heap vals ds) (hpl : plWs ds = true) (hwt : ∀ d ∈ ds, d.weight ≤ 1048576) (hr : Room k callerA)
    (F : ∀ base : Heap, K.In base → base.Ns mainGlobals mg → FnOk P w K mg base CX k fa fd ps sp) (hbind : ∀ (s : Shared) (us : List Value), us.length = ps.length → BindsTo s fd ⟨us, []⟩ (ps.zip us)) (hlen : ds.length = ps.length)
    (hsp : ∀ (H : Hp) (xs : List V), OnlyF H → DwAll K H xs ds → sp xs H (fun v H' => Dw K H' v d0) fun _ _ _ => False)
    (hCX : ∀ H e s', CX [] H s₁ (fun _ _ _ => False) e s' → False) :
    codeAny (model P w) callerA (.call (.ref fa) ⟨vals, []⟩) (fun r s' => ∃ u as, r = .ok (.ret u) ∧ ReadsW R cl s'.heap u d0 as ∧ OldK s₁.heap s'.heap ∧ s'.os = s₁.os ∧ AllBare s'.gens) s₁ := by
  obtain ⟨A, ho, ar⟩ := area_all ds vals hwl hpl hwt
  have hO : OnlyF (argH K s₁.heap A) := argH_only ar
  have hok : HOk P w (argH K s₁.heap A) s₁.heap := argH_ok ar
  have hS := dw_all KX ar ds vals hwl hpl ho
  have hV := vals_toV ho
  have hK : ∀ b u, argH K s₁.heap A b = some u → K.lookup b = none := fun b u q => (argH_is ar q).1
  have noA : ∀ {b : Addr} {o : Obj} {es : Array DictEntry} {ep : Nat}, s₁.heap.get? b = some o → o.data = .dict es ep → argH K s₁.heap A b = none := fun {b o es ep} e d => by
    cases q : argH K s₁.heap A b with
    | none => rfl
    | some u =>
      obtain ⟨_, vs, _, _, ⟨e2, _⟩ | ⟨e2, _⟩⟩ := argH_is ar q
      · rw [e2] at e
        cases e
        have d' : Data.seq vs.toArray _ = Data.dict es ep := d
        cases d'
      · rw [e2] at e
        cases e
        have d' : Data.seq vs.toArray _ = Data.dict es ep := d
        cases d'
  generalize argH K s₁.heap A = H at hO hok hS hK noA
  have base_of : ∀ {b : Addr} {o : Obj}, s₁.heap.get? b = some o → H b = none → (hidT s₁.heap H).get? b = some o := fun e n => hidT_get e n
  have nsK : ∀ {b : Addr} {m : Str → Option Value}, s₁.heap.Ns b m → (hidT s₁.heap H).Ns b m := fun {b m} ⟨o, es, ep, e, d, r⟩ => ⟨o, es, ep, base_of e (noA e d), d, r⟩
  have nK : ∀ b o, K.lookup b = some o → H b = none := fun b o e => by
    cases q : H b with
    | none => rfl
    | some u =>
      rw [hK b u q] at e
      cases e
  have hKb : K.In (hidT s₁.heap H) := fun b o e => base_of (KX b o e) (nK b o e)
  have hM : Mod K mg (hidT s₁.heap H) := ⟨hKb, nsK hns, ⟨mb, nsK hb, hbb⟩, let ⟨mc, h1, h2⟩ := hlim; ⟨mc, nsK h1, h2⟩⟩
  have e0 : Env0 P w K mg (hidT s₁.heap H) callerA [] s₁ H := ⟨rfl, hM, fun b o e => of_hidT e, Nat.le_of_eq (hidT_size _ _), trivial, fun b hb => absurd (show b ∈ ([] : List Addr) from hb) (by simp), hok, .of_eq hg⟩
  have hl : vals.length = ps.length := by rw [wellAll_len hwl]; exact hlen
  refine codeAny_mono ((F _ hKb (nsK hns)).run callerA [] s₁ H ⟨vals, []⟩ vals (vals.map toV) _ _ hr e0 (hbind s₁ vals hl) hV (hsp H _ hO hS)) fun r s' x => ?_
  cases r with
  | error e => exact (hCX H e s' x).elim
  | ok fl =>
    cases fl with
    | next => exact False.elim x
    | brk => exact False.elim x
    | cont => exact False.elim x
    | ret u =>
      obtain ⟨v, H', os, bare, un, hok', r', q⟩ := x
      have kept : ∀ b o, s₁.heap.get? b = some o → s'.heap.get? b = some o := fun b o e => by
        cases q2 : H b with
        | none => exact un.keep b o e q2 (by intro z; exact absurd (show b ∈ ([] : List Addr) from z) (by simp)) (by simp)
        | some u2 =>
          rcases hO b with z | ⟨ob, u3, z⟩
          · rw [q2] at z
            cases z
          · have z2 := un.frzs b ob _ z
            obtain ⟨e1, _⟩ := hok b _ z
            obtain ⟨e2, _⟩ := hok' b _ z2
            rw [e] at e1
            cases e1
            exact e2
      have KX' : K.In s'.heap := fun b o e => kept b o (KX b o e)
      obtain ⟨as, hrd⟩ := Dw.reads (R := R) (cl := cl) hok' KX' d0 v u q r'
      exact ⟨u, as, rfl, hrd, OldK.of_keep kept, os, bare⟩
/-! ### the row -/
theorem layable_weight {ds : List WData} (h : WData.layableAll ds = true) : ∀ d ∈ ds, d.weight ≤ 1048576 := fun d hd =>
  (PySem.W.layableW_iff.mp (List.all_eq_true.mp h d hd)).2.2
theorem encAll_len : ∀ (cs : List Codec) (a : Codec.denoteAll cs), (Codec.encAll cs a).length = cs.length
  | [], _ => rfl
  | c :: cs, a => by
    show (Codec.encAll cs a.2).length + 1 = cs.length + 1
    rw [encAll_len cs a.2]
/-- the goal that k_headS leaves (case hc), from the promise of the row's def: whatever the arguments that the codecs let and the row asks for, the def gives what stands for enc (f ..) -/
theorem walk_spec {r : OpenSpec} {k : Nat} {q : Program} {loose : List Str} {XP : (Str → Option Value) → Heap → Prop} {YP : World → Heap → Prop} {d : DefRec} {K : Params → PySem.W.Frag} {CX : World → CXT} {ps : List Str} {sp : World → Sp}
    (hwell : r.wellSaid = true) (hdf : d.params.defaults = []) (hlen : r.args.length = ps.length) (hr : Room k callerA)
    (hY : ∀ (w : World) (h : Heap), YP w h → (K w.params).In h)
    (F : ∀ (w : World) (mg : Str → Option Value) (fa : Addr) (h : Heap), YP w h → (K w.params).In h → h.Ns mainGlobals mg → mg d.name = some (.ref fa) →
      ∃ fd : FuncData, (∀ (s : Shared) (us : List Value), us.length = ps.length → BindsTo s fd ⟨us, []⟩ (ps.zip us)) ∧
        ∀ base : Heap, (K w.params).In base → base.Ns mainGlobals mg → FnOk r.prog w (K w.params) mg base (CX w) k fa fd ps (sp w))
    (hsp : ∀ (w : World) (H : Hp) (xs : List V) (a : Codec.denoteAll r.args), OnlyF H → Codec.withinAll r.args a = true → Codec.app r.args r.asked a = true → DwAll (K w.params) H xs (Codec.encAll r.args a) →
      sp w xs H (fun v H' => Dw (K w.params) H' v (r.ret.enc (Codec.app r.args r.f a))) fun _ _ _ => False)
    (hCX : ∀ (w : World) (H : Hp) (s : Shared) (e : Value) (s' : Shared), CX w [] H s (fun _ _ _ => False) e s' → False) :
    PySem.W.WalkOS q loose XP YP r d [] (fun f vs => PySem.call f vs) := by
  intro w s_0 s₁ mg mb G Y fa o pm cd doc dV kV ho hd hcd hD hmg hg args vals as hpre hlay hrd hwl hlo
  obtain ⟨a, e1, e2⟩ := PySem.W.os_pre_some hpre
  obtain ⟨e3, hwi⟩ := Codec.encAll_of_decAll r.args args a e1
  subst e3
  have KX := hY w _ Y
  obtain ⟨fd, hb, hF⟩ := F w mg fa _ Y KX G.T.g hmg
  refine PySem.W.enter_call (codeAny_mono (spec_call (R := []) (cl := classAt s_0.heap) (d0 := r.ret.enc (Codec.app r.args r.f a)) KX G.T.g G.T.b G.T.builtins G.T.nolimit hg hwl (pl_encAll _ _) (layable_weight hlay) hr hF hb (by rw [encAll_len]; exact hlen)
    (fun H xs hO hS => hsp w H xs a hO hwi e2 hS) fun H e s' => hCX w H s₁ e s') fun r' s' hq => ?_)
  obtain ⟨u, as', rfl, h1, h2, h3, h4⟩ := hq
  exact ⟨.inl ⟨u, _, as', rfl, fun _ => rfl, h1, (OpenSpec.post_iff hwell hwi _ _).mpr rfl, fun z => Bool.noConfusion (show false = true from z)⟩, h2, h3, h4⟩
/-- the same where the promise hangs on the written part alone -/
theorem walk_specK {r : OpenSpec} {k : Nat} {q : Program} {loose : List Str} {XP : (Str → Option Value) → Heap → Prop} {YP : World → Heap → Prop} {d : DefRec} {K : Params → PySem.W.Frag} {CX : CXT} {ps : List Str} {sp : PySem.W.Frag → Sp}
    (hwell : r.wellSaid = true) (hdf : d.params.defaults = []) (hlen : r.args.length = ps.length) (hr : Room k callerA)
    (hY : ∀ (w : World) (h : Heap), YP w h → (K w.params).In h)
    (F : ∀ (w : World) (mg : Str → Option Value) (fa : Addr) (h : Heap), YP w h → (K w.params).In h → h.Ns mainGlobals mg → mg d.name = some (.ref fa) →
      ∃ fd : FuncData, (∀ (s : Shared) (us : List Value), us.length = ps.length → BindsTo s fd ⟨us, []⟩ (ps.zip us)) ∧
        ∀ base : Heap, (K w.params).In base → base.Ns mainGlobals mg → FnOk r.prog w (K w.params) mg base CX k fa fd ps (sp (K w.params)))
    (hsp : ∀ (K : PySem.W.Frag) (H : Hp) (xs : List V) (a : Codec.denoteAll r.args), OnlyF H → Codec.withinAll r.args a = true → Codec.app r.args r.asked a = true → DwAll K H xs (Codec.encAll r.args a) →
      sp K xs H (fun v H' => Dw K H' v (r.ret.enc (Codec.app r.args r.f a))) fun _ _ _ => False)
    (hCX : ∀ (H : Hp) (s : Shared) (e : Value) (s' : Shared), CX [] H s (fun _ _ _ => False) e s' → False) :
    PySem.W.WalkOS q loose XP YP r d [] (fun f vs => PySem.call f vs) :=
  walk_spec (K := K) (CX := fun _ => CX) (sp := fun w => sp (K w.params)) hwell hdf hlen hr hY F (fun w H xs a h1 h2 h3 h4 => hsp (K w.params) H xs a h1 h2 h3 h4) fun _ H s e s' => hCX H s e s'
end L2
-- rests on (row put in by the clerk, for the bench that shows a file only what it spells): KE.SpHead KE.OsShapes
end

end

section
namespace TW
open Su124

/-- One comes from a strip to another. -/
inductive Path (e : List (Nat × Nat)) : Nat → Nat → Prop
  | refl (s : Nat) : Path e s s
  | step {s t u : Nat} : Path e s t → (t, u) ∈ e → Path e s u
theorem Path.trans {e : List (Nat × Nat)} {s t u : Nat} (h1 : Path e s t) (h2 : Path e t u) : Path e s u := by
  induction h2 with
  | refl => exact h1
  | step _ hx ih => exact .step ih hx
theorem Path.mono {e f : List (Nat × Nat)} {s t : Nat} (hs : ∀ x, x ∈ e → x ∈ f) (h : Path e s t) : Path f s t := by
  induction h with
  | refl => exact .refl _
  | step _ hx ih => exact .step ih (hs _ hx)
/-- the least closed set -/
theorem Path.least {e : List (Nat × Nat)} {s t : Nat} {p : Nat → Prop} (h : Path e s t) (h0 : p s) (hc : ∀ x y, (x, y) ∈ e → p x → p y) : p t := by
  induction h with
  | refl => exact h0
  | step _ hx ih => exact hc _ _ hx ih
theorem Path.lt {e : List (Nat × Nat)} {n s t : Nat} (he : ∀ x, x ∈ e → x.1 < n ∧ x.2 < n) (hs : s < n) (h : Path e s t) : t < n :=
  h.least (p := fun t => t < n) hs fun x y hx _ => (he (x, y) hx).2

theorem filter_lt {α : Type} {p q : α → Bool} : ∀ {l : List α}, (∀ x, x ∈ l → p x = true → q x = true) → (∃ x, x ∈ l ∧ q x = true ∧ p x = false) → (l.filter p).length < (l.filter q).length
  | [], _, ⟨x, hx, _⟩ => by cases hx
  | a :: l, hm, hx => by
    have hle : (l.filter p).length ≤ (l.filter q).length := by
      clear hx
      induction l with
      | nil => exact Nat.le_refl _
      | cons b l ih =>
        have ih' := ih fun x hx => hm x (by
          rcases List.mem_cons.mp hx with h | h
          · exact List.mem_cons.mpr (.inl h)
          · exact List.mem_cons.mpr (.inr (List.mem_cons.mpr (.inr h))))
        cases ep : p b with
        | true => 
          have eq := hm b (by simp) ep
          simp [List.filter_cons, ep, eq]; exact ih'
        | false =>
          cases eq : q b <;> simp [List.filter_cons, ep, eq] <;> omega
    cases ep : p a with
    | true =>
      have eq := hm a (by simp) ep
      simp only [List.filter_cons, ep, eq, if_true, List.length_cons]
      refine Nat.succ_lt_succ (filter_lt (fun x hx => hm x (List.mem_cons.mpr (.inr hx))) ?_)
      obtain ⟨x, h1, h2, h3⟩ := hx
      rcases List.mem_cons.mp h1 with h | h
      · subst h; rw [ep] at h3; cases h3
      · exact ⟨x, h, h2, h3⟩
    | false =>
      cases eq : q a with
      | true => simp [List.filter_cons, ep, eq]; omega
      | false =>
        simp only [List.filter_cons, ep, eq, if_false, Bool.false_eq_true]
        refine filter_lt (fun x hx => hm x (List.mem_cons.mpr (.inr hx))) ?_
        obtain ⟨x, h1, h2, h3⟩ := hx
        rcases List.mem_cons.mp h1 with h | h
        · subst h; rw [eq] at h2; cases h2
        · exact ⟨x, h, h2, h3⟩

/-- one turn of grow -/
def gro (a : Abs) (e : List (Nat × Nat)) (l : List Nat) : List Nat := a.ss.filter fun s => l.contains s || e.any fun x => l.contains x.1 && x.2 == s
theorem grow_succ (a : Abs) (e : List (Nat × Nat)) (k : Nat) (l : List Nat) : a.grow e (k + 1) l = a.grow e k (gro a e l) := rfl
theorem mem_ss {a : Abs} {t : Nat} : t ∈ a.ss ↔ t < a.size := by unfold Abs.ss; exact List.mem_range
theorem mem_gro {a : Abs} {e : List (Nat × Nat)} {l : List Nat} {t : Nat} : t ∈ gro a e l ↔ t < a.size ∧ (t ∈ l ∨ ∃ x, x ∈ l ∧ (x, t) ∈ e) := by
  unfold gro
  rw [List.mem_filter, mem_ss]
  constructor
  · rintro ⟨h1, h2⟩
    refine ⟨h1, ?_⟩
    rw [Bool.or_eq_true] at h2
    rcases h2 with h | h
    · exact .inl (by simpa using h)
    · rw [List.any_eq_true] at h
      obtain ⟨⟨x, y⟩, hx, h⟩ := h
      simp at h
      obtain ⟨h3, rfl⟩ := h
      exact .inr ⟨x, h3, hx⟩
  · rintro ⟨h1, h2⟩
    refine ⟨h1, ?_⟩
    rw [Bool.or_eq_true]
    rcases h2 with h | ⟨x, hx, he⟩
    · exact .inl (by simpa using h)
    · refine .inr (List.any_eq_true.mpr ⟨(x, t), he, ?_⟩)
      simp [hx]
def Closed (e : List (Nat × Nat)) (l : List Nat) : Prop := ∀ x y, (x, y) ∈ e → x ∈ l → y ∈ l
theorem grow_sound {a : Abs} {e : List (Nat × Nat)} {s : Nat} : ∀ (k : Nat) (l : List Nat), (∀ x, x ∈ l → Path e s x) → ∀ t, t ∈ a.grow e k l → Path e s t
  | 0, l, h, t, ht => h t ht
  | k + 1, l, h, t, ht => by
    rw [grow_succ] at ht
    refine grow_sound k _ (fun x hx => ?_) t ht
    rcases (mem_gro.mp hx).2 with h1 | ⟨y, hy, he⟩
    · exact h x h1
    · exact .step (h y hy) he
theorem grow_keeps {a : Abs} {e : List (Nat × Nat)} : ∀ (k : Nat) (l : List Nat), (∀ x, x ∈ l → x < a.size) → ∀ t, t ∈ l → t ∈ a.grow e k l
  | 0, _, _, _, ht => ht
  | k + 1, l, h, t, ht => by
    rw [grow_succ]
    exact grow_keeps k _ (fun x hx => (mem_gro.mp hx).1) t (mem_gro.mpr ⟨h t ht, .inl ht⟩)
theorem grow_closed_of {a : Abs} {e : List (Nat × Nat)} : ∀ (k : Nat) (l : List Nat), (∀ x, x ∈ l → x < a.size) → Closed e l → Closed e (a.grow e k l)
  | 0, _, _, hc => hc
  | k + 1, l, h, hc => by
    rw [grow_succ]
    refine grow_closed_of k _ (fun x hx => (mem_gro.mp hx).1) fun x y he hx => ?_
    have hxl : x ∈ l := by
      rcases (mem_gro.mp hx).2 with h1 | ⟨z, hz, he'⟩
      · exact h1
      · exact hc z x he' hz
    have hy := hc x y he hxl
    exact mem_gro.mpr ⟨h y hy, .inl hy⟩
def cnt (a : Abs) (l : List Nat) : Nat := (a.ss.filter fun t => l.contains t).length
theorem cnt_le (a : Abs) (l : List Nat) : cnt a l ≤ a.size := by
  unfold cnt
  have h := List.length_filter_le (fun t => l.contains t) a.ss
  have e : a.ss.length = a.size := List.length_range
  omega
theorem grow_or {a : Abs} {e : List (Nat × Nat)} (he : ∀ x, x ∈ e → x.1 < a.size ∧ x.2 < a.size) : ∀ (k : Nat) (l : List Nat), (∀ x, x ∈ l → x < a.size) → Closed e (a.grow e k l) ∨ cnt a l + k ≤ cnt a (a.grow e k l)
  | 0, l, _ => .inr (Nat.le_refl _)
  | k + 1, l, h => by
    by_cases hc : Closed e l
    · exact .inl (grow_closed_of (k + 1) l h hc)
    · rw [grow_succ]
      have hg : ∀ x, x ∈ gro a e l → x < a.size := fun x hx => (mem_gro.mp hx).1
      rcases grow_or he k (gro a e l) hg with h1 | h1
      · exact .inl h1
      · refine .inr ?_
        have : cnt a l < cnt a (gro a e l) := by
          unfold cnt
          refine filter_lt (fun x hx hp => ?_) ?_
          · have hx1 : x ∈ l := by simpa using hp
            have : x ∈ gro a e l := mem_gro.mpr ⟨mem_ss.mp hx, .inl hx1⟩
            simpa using this
          · apply Classical.byContradiction
            intro hno
            refine hc fun x y hxy hx => ?_
            apply Classical.byContradiction
            intro hy
            refine hno ⟨y, mem_ss.mpr (he _ hxy).2, ?_, ?_⟩
            · have : y ∈ gro a e l := mem_gro.mpr ⟨(he _ hxy).2, .inr ⟨x, hx, hxy⟩⟩
              simpa using this
            · simpa using hy
        omega

/-- the arrows lie within the wall -/
def ArrOk (a : Abs) : Prop := ∀ x, x ∈ a.arrows → x.1 < a.size ∧ x.2 < a.size
theorem mem_reach {a : Abs} (ho : ArrOk a) {s t : Nat} (hs : s < a.size) : t ∈ a.reach s ↔ Path a.arrows s t := by
  have h1 : ∀ x, x ∈ [s] → x < a.size := fun x hx => by simp at hx; omega
  constructor
  · exact grow_sound a.size [s] (fun x hx => by simp at hx; subst hx; exact .refl _) t
  · intro hp
    have hin : s ∈ a.reach s := grow_keeps a.size [s] h1 s (by simp)
    have hcl : Closed a.arrows (a.reach s) := by
      rcases grow_or ho a.size [s] h1 with h | h
      · exact h
      · have h2 := cnt_le a (a.grow a.arrows a.size [s])
        have h3 : 0 < cnt a [s] := by
          unfold cnt
          refine List.length_pos_of_mem (a := s) (List.mem_filter.mpr ⟨mem_ss.mpr hs, by simp⟩)
        omega
    exact hp.least hin hcl
theorem grow_filter {a : Abs} {e : List (Nat × Nat)} : ∀ (k : Nat) (l : List Nat), ∃ q : Nat → Bool, a.grow e (k + 1) l = a.ss.filter q
  | 0, l => ⟨_, rfl⟩
  | k + 1, l => by
    rw [grow_succ]
    exact grow_filter k _
def R (a : Abs) (s t : Nat) : Bool := (a.reach s).contains t
theorem reach_eq {a : Abs} (h0 : 0 < a.size) (s : Nat) : a.reach s = a.ss.filter (R a s) := by
  obtain ⟨q, hq⟩ : ∃ q, a.reach s = a.ss.filter q := by
    obtain ⟨k, hk⟩ : ∃ k, a.size = k + 1 := ⟨a.size - 1, by omega⟩
    unfold Abs.reach
    rw [hk]
    exact grow_filter k _
  have e : ∀ t, t ∈ a.ss → R a s t = q t := fun t ht => by
    unfold R
    rw [hq]
    cases eq : q t with
    | true => simpa using ⟨ht, eq⟩
    | false =>
      have : ¬ t ∈ a.ss.filter q := fun hm => by
        have := (List.mem_filter.mp hm).2
        rw [eq] at this; cases this
      simpa using fun _ => eq
  rw [List.filter_congr e]
  exact hq
theorem R_iff {a : Abs} (ho : ArrOk a) {s t : Nat} (hs : s < a.size) : R a s t = true ↔ Path a.arrows s t := by
  unfold R
  rw [← mem_reach ho hs]
  simp
theorem R_refl {a : Abs} (ho : ArrOk a) {s : Nat} (hs : s < a.size) : R a s s = true := (R_iff ho hs).mpr (.refl _)
theorem R_trans {a : Abs} (ho : ArrOk a) {s t u : Nat} (hs : s < a.size) (ht : t < a.size) (h1 : R a s t = true) (h2 : R a t u = true) : R a s u = true :=
  (R_iff ho hs).mpr (((R_iff ho hs).mp h1).trans ((R_iff ho ht).mp h2))
theorem back_eq (a : Abs) (s t : Nat) : a.back s t = (R a s t && R a t s) := rfl

/-! the parts -/
def tog (n : Nat) (r : Nat → Nat → Bool) (s : Nat) : List Nat := (List.range n).filter fun t => r s t && r t s
def fst (n : Nat) (r : Nat → Nat → Bool) (s : Nat) : Nat := (tog n r s).headD s
def fsts (n : Nat) (r : Nat → Nat → Bool) : List Nat := (List.range n).filter fun s => fst n r s == s
def outs (n : Nat) (r : Nat → Nat → Bool) (s : Nat) : Bool := (List.range n).any fun t => r s t && !(r t s)
def ins (n : Nat) (r : Nat → Nat → Bool) (s : Nat) : Bool := (List.range n).any fun t => r t s && !(r s t)
theorem part_eq (a : Abs) (s : Nat) : a.part s = tog a.size (R a) s := rfl
theorem first_eq (a : Abs) (s : Nat) : a.first s = fst a.size (R a) s := rfl
theorem parts_eq (a : Abs) : a.parts = fsts a.size (R a) := rfl
theorem ends_eq {a : Abs} (h0 : 0 < a.size) : a.ends = (fsts a.size (R a)).filter fun s => !(outs a.size (R a) s) := by
  unfold Abs.ends
  rw [parts_eq]
  refine List.filter_congr fun s hs => ?_
  rw [reach_eq h0]
  unfold outs
  rw [List.not_any_eq_all_not, List.all_filter]
  refine congrArg (fun f => List.all (List.range a.size) f) (funext fun t => ?_)
  rw [back_eq]
  cases R a s t <;> cases R a t s <;> rfl
theorem starts_eq {a : Abs} : a.starts = (fsts a.size (R a)).filter fun s => !(ins a.size (R a) s) := by
  unfold Abs.starts
  rw [parts_eq]
  refine List.filter_congr fun s hs => ?_
  unfold ins
  rw [List.not_any_eq_all_not]
  refine congrArg (fun f => List.all (List.range a.size) f) (funext fun t => ?_)
  rw [back_eq]
  show (!R a t s || _) = _
  cases R a s t <;> cases R a t s <;> rfl

/-- what the wall must be -/
structure Inv (a : Abs) : Prop where
  m1 : 1 ≤ a.m
  m5 : a.m ≤ 5
  n1 : 1 ≤ a.n
  n5 : a.n ≤ 5
  nd : a.ties.Nodup
  ok : ∀ x, x ∈ a.ties → x.1 < a.m ∧ x.2.1 < a.n ∧ x.2.2 < 2
def arr (m : Nat) (x : Nat × Nat × Nat) : Nat × Nat := if x.2.2 = 0 then (x.1, m + x.2.1) else (m + x.2.1, x.1)
theorem arrows_eq (a : Abs) : a.arrows = a.ties.map (arr a.m) := rfl
theorem arrOk_of {a : Abs} (h : ∀ x, x ∈ a.ties → x.1 < a.m ∧ x.2.1 < a.n ∧ x.2.2 < 2) : ArrOk a := by
  intro y hy
  rw [arrows_eq] at hy
  obtain ⟨x, hx, rfl⟩ := List.mem_map.mp hy
  have h1 := h x hx
  unfold arr Abs.size
  split <;> dsimp only <;> omega
theorem Inv.arr {a : Abs} (h : Inv a) : ArrOk a := arrOk_of h.ok
theorem Inv.pos {a : Abs} (h : Inv a) : 0 < a.size := by have := h.m1; unfold Abs.size; omega
theorem Inv.size {a : Abs} (h : Inv a) : a.size ≤ 10 := by have := h.m5; have := h.n5; unfold Abs.size; omega
end TW

end

section
namespace TW
open Su124

theorem headD_mem {α : Type} {l : List α} {d : α} (h : l ≠ []) : l.headD d ∈ l := by
  cases l with
  | nil => exact absurd rfl h
  | cons x l => simp
/-- what a table of a wall keeps -/
structure Eqv (n : Nat) (r : Nat → Nat → Bool) : Prop where
  rf : ∀ s, s < n → r s s = true
  tr : ∀ s t u, s < n → t < n → u < n → r s t = true → r t u = true → r s u = true
theorem mem_tog {n : Nat} {r : Nat → Nat → Bool} {s t : Nat} : t ∈ tog n r s ↔ t < n ∧ r s t = true ∧ r t s = true := by
  unfold tog
  rw [List.mem_filter, List.mem_range, Bool.and_eq_true]
theorem tog_ne {n : Nat} {r : Nat → Nat → Bool} (E : Eqv n r) {s : Nat} (hs : s < n) : tog n r s ≠ [] :=
  List.ne_nil_of_mem (mem_tog.mpr ⟨hs, E.rf s hs, E.rf s hs⟩)
theorem fst_mem {n : Nat} {r : Nat → Nat → Bool} (E : Eqv n r) {s : Nat} (hs : s < n) : fst n r s ∈ tog n r s := headD_mem (tog_ne E hs)
theorem tog_get0 {n : Nat} {r : Nat → Nat → Bool} (E : Eqv n r) {s : Nat} (hs : s < n) : (tog n r s)[0]? = some (fst n r s) := by
  have h := tog_ne E hs
  unfold fst
  cases e : tog n r s with
  | nil => exact absurd e h
  | cons x l => rfl
theorem tog_congr {n : Nat} {r : Nat → Nat → Bool} (E : Eqv n r) {s t : Nat} (hs : s < n) (ht : t ∈ tog n r s) : tog n r t = tog n r s := by
  obtain ⟨h1, h2, h3⟩ := mem_tog.mp ht
  unfold tog
  refine List.filter_congr fun u hu => ?_
  have hu := List.mem_range.mp hu
  rw [Bool.eq_iff_iff, Bool.and_eq_true, Bool.and_eq_true]
  constructor
  · rintro ⟨a, b⟩
    exact ⟨E.tr s t u hs h1 hu h2 a, E.tr u t s hu h1 hs b h3⟩
  · rintro ⟨a, b⟩
    exact ⟨E.tr t s u h1 hs hu h3 a, E.tr u s t hu hs h1 b h2⟩
theorem fst_fst {n : Nat} {r : Nat → Nat → Bool} (E : Eqv n r) {s : Nat} (hs : s < n) : fst n r (fst n r s) = fst n r s := by
  have h := fst_mem E hs
  have e := tog_congr E hs h
  have hl := (mem_tog.mp h).1
  have h2 : (tog n r (fst n r s))[0]? = some (fst n r (fst n r s)) := tog_get0 E hl
  rw [e, tog_get0 E hs] at h2
  exact (Option.some.inj h2).symm
theorem mem_fsts {n : Nat} {r : Nat → Nat → Bool} {s : Nat} : s ∈ fsts n r ↔ s < n ∧ fst n r s = s := by
  unfold fsts
  rw [List.mem_filter, List.mem_range]
  simp
theorem firm_iff {n : Nat} {r : Nat → Nat → Bool} (E : Eqv n r) (h0 : 0 < n) : (fsts n r).length = 1 ↔ ∀ s t, s < n → t < n → r s t = true := by
  constructor
  · intro h s t hs ht
    obtain ⟨f, hf⟩ := List.length_eq_one_iff.mp h
    have one : ∀ s, s < n → fst n r s = f := fun s hs => by
      have hm : fst n r s ∈ fsts n r := mem_fsts.mpr ⟨(mem_tog.mp (fst_mem E hs)).1, fst_fst E hs⟩
      rw [hf] at hm
      simpa using hm
    obtain ⟨a1, a2, a3⟩ := mem_tog.mp (fst_mem E hs)
    obtain ⟨b1, b2, b3⟩ := mem_tog.mp (fst_mem E ht)
    rw [one s hs] at a1 a2 a3
    rw [one t ht] at b1 b2 b3
    exact E.tr s f t hs a1 ht a2 b3
  · intro h
    have hz : ∀ s, s < n → fst n r s = 0 := fun s hs => by
      have e : tog n r s = List.range n := by
        unfold tog
        rw [List.filter_eq_self]
        intro t ht
        have ht := List.mem_range.mp ht
        rw [h s t hs ht, h t s ht hs]; rfl
      have h2 := tog_get0 E hs
      rw [e, List.getElem?_range h0] at h2
      exact (Option.some.inj h2).symm
    have e : fsts n r = [0] := by
      obtain ⟨k, rfl⟩ : ∃ k, n = k + 1 := ⟨n - 1, by omega⟩
      unfold fsts
      rw [List.range_succ_eq_map, List.filter_cons, hz 0 h0]
      simp only [beq_self_eq_true, if_true]
      refine congrArg (fun l => 0 :: l) (List.filter_eq_nil_iff.mpr fun x hx => ?_)
      obtain ⟨y, hy, rfl⟩ := List.mem_map.mp hx
      have hy := List.mem_range.mp hy
      rw [hz (y + 1) (by omega)]
      simp
    rw [e]; rfl
theorem Inv.eqv {a : Abs} (h : Inv a) : Eqv a.size (R a) :=
  ⟨fun _ hs => R_refl h.arr hs, fun _ _ _ hs ht _ h1 h2 => R_trans h.arr hs ht h1 h2⟩
theorem eqv_of {a : Abs} (h : ArrOk a) : Eqv a.size (R a) :=
  ⟨fun _ hs => R_refl h hs, fun _ _ _ hs ht _ h1 h2 => R_trans h hs ht h1 h2⟩
theorem firm_all {a : Abs} (h0 : 0 < a.size) : a.firm = true ↔ ∀ s t, s < a.size → t < a.size → R a s t = true := by
  unfold Abs.firm
  rw [List.all_eq_true]
  constructor
  · intro h s t hs ht
    have h1 := h s (mem_ss.mpr hs)
    rw [reach_eq h0] at h1
    have h2 : (a.ss.filter (R a s)).length = a.ss.length := by
      rw [show a.ss.length = a.size from List.length_range]
      simpa using h1
    exact List.length_filter_eq_length_iff.mp h2 t (mem_ss.mpr ht)
  · intro h s hs
    rw [reach_eq h0]
    have h2 : (a.ss.filter (R a s)).length = a.ss.length := List.length_filter_eq_length_iff.mpr fun t ht => h s t (mem_ss.mp hs) (mem_ss.mp ht)
    rw [h2, show a.ss.length = a.size from List.length_range]
    simp
theorem firm_eq {a : Abs} (ho : ArrOk a) (h0 : 0 < a.size) : a.firm = decide ((fsts a.size (R a)).length = 1) := by
  rw [Bool.eq_iff_iff, firm_all h0, decide_eq_true_iff, firm_iff (eqv_of ho) h0]

/-! more ties, fewer ways to lean -/
theorem R_mono {a b : Abs} (hm : a.m = b.m) (hn : a.n = b.n) (ha : ArrOk a) (hb : ArrOk b) (hs : ∀ x, x ∈ a.ties → x ∈ b.ties) {s t : Nat} (h : s < a.size) (hr : R a s t = true) : R b s t = true := by
  have e : a.size = b.size := by unfold Abs.size; omega
  refine (R_iff hb (by omega)).mpr (((R_iff ha h).mp hr).mono fun x hx => ?_)
  rw [arrows_eq] at hx ⊢
  obtain ⟨y, hy, rfl⟩ := List.mem_map.mp hx
  rw [hm]
  exact List.mem_map_of_mem (hs y hy)
theorem leans_eq (a : Abs) (i j d : Nat) : a.leans i j d = !(R a (arr a.m (i, j, d)).1 (arr a.m (i, j, d)).2) := by
  unfold Abs.leans arr R Abs.col
  dsimp only
  split <;> rfl
theorem arr_lt {a : Abs} {i j d : Nat} (hi : i < a.m) (hj : j < a.n) : (arr a.m (i, j, d)).1 < a.size ∧ (arr a.m (i, j, d)).2 < a.size := by
  unfold arr Abs.size
  dsimp only
  split <;> constructor <;> dsimp only <;> omega
theorem mem_all3 {a : Abs} {x : Nat × Nat × Nat} : x ∈ a.all3 ↔ x.1 < a.m ∧ x.2.1 < a.n ∧ x.2.2 < 2 := by
  obtain ⟨i, j, d⟩ := x
  unfold Abs.all3
  simp only [List.mem_flatMap, List.mem_range, List.mem_cons, List.not_mem_nil, or_false, Prod.mk.injEq]
  constructor
  · rintro ⟨i', hi, j', hj, h | h⟩ <;> omega
  · rintro ⟨hi, hj, hd⟩
    refine ⟨i, hi, j, hj, ?_⟩
    omega
theorem count_mono {a b : Abs} (hm : a.m = b.m) (hn : a.n = b.n) (ha : ArrOk a) (hb : ArrOk b) (hs : ∀ x, x ∈ a.ties → x ∈ b.ties) : b.count ≤ a.count := by
  unfold Abs.count
  have e : b.all3 = a.all3 := by unfold Abs.all3; rw [hm, hn]
  rw [e, ← List.countP_eq_length_filter, ← List.countP_eq_length_filter]
  refine List.countP_mono_left fun x hx h => ?_
  obtain ⟨h1, h2, h3⟩ := mem_all3.mp hx
  rw [leans_eq] at h ⊢
  cases e2 : R a (arr a.m (x.1, x.2.1, x.2.2)).1 (arr a.m (x.1, x.2.1, x.2.2)).2 with
  | false => rfl
  | true =>
    have := R_mono hm hn ha hb hs (arr_lt h1 h2).1 e2
    rw [hm] at this
    rw [this] at h
    cases h
theorem count_sum (a : Abs) : (a.count : Int) = ((a.all3.map fun x => bit (a.leans x.1 x.2.1 x.2.2)).map (fun (n : Nat) => (n : Int))).sum := by
  unfold Abs.count
  generalize a.all3 = l
  induction l with
  | nil => rfl
  | cons x l ih =>
    rw [List.filter_cons, List.map_cons, List.map_cons, List.sum_cons, ← ih]
    cases a.leans x.1 x.2.1 x.2.2
    · simp [bit]
    · simp [bit]; omega

/-! the wall stays a wall -/
theorem has_iff {a : Abs} {i j d : Nat} : a.has i j d = true ↔ (i, j, d) ∈ a.ties := by unfold Abs.has; simp
theorem isS_iff {a : Abs} {i j d : Nat} : a.isS i j d = true ↔ i < a.m ∧ j < a.n ∧ d < 2 := by
  unfold Abs.isS
  simp
  omega
theorem Inv.begin {m n : Nat} (h : okB m n = true) : Inv ⟨m, n, []⟩ := by
  unfold okB SIDE at h
  simp at h
  exact ⟨h.1, h.2.1, h.2.2.1, h.2.2.2, List.nodup_nil, fun x hx => by cases hx⟩
theorem Inv.with_ {a : Abs} (h : Inv a) {i j d : Nat} (hs : a.isS i j d = true) (hh : a.has i j d = false) : Inv (a.with_ i j d) := by
  have hn : ¬ (i, j, d) ∈ a.ties := fun hm => by rw [has_iff.mpr hm] at hh; cases hh
  refine ⟨h.m1, h.m5, h.n1, h.n5, ?_, fun x hx => ?_⟩
  · refine List.nodup_append.mpr ⟨h.nd, (List.nodup_cons.mpr ⟨by simp, List.nodup_nil⟩), fun x hx y hy e => ?_⟩
    simp at hy
    subst hy e
    exact hn hx
  · rcases List.mem_append.mp hx with hx | hx
    · exact h.ok x hx
    · simp at hx
      subst hx
      exact isS_iff.mp hs
theorem Inv.without {a : Abs} (h : Inv a) (i j d : Nat) : Inv (a.without i j d) :=
  ⟨h.m1, h.m5, h.n1, h.n5, h.nd.filter _, fun x hx => h.ok x (List.mem_filter.mp hx).1⟩
def flipped (a : Abs) (i j d : Nat) : Abs := { a with ties := a.ties.map fun x => if x = (i, j, d) then (i, j, 1 - d) else x }
theorem Inv.flip {a : Abs} (h : Inv a) {i j d : Nat} (hs : a.isS i j d = true) (hh : a.has i j (1 - d) = false) : Inv (flipped a i j d) := by
  have hn : ¬ (i, j, 1 - d) ∈ a.ties := fun hm => by rw [has_iff.mpr hm] at hh; cases hh
  obtain ⟨h1, h2, h3⟩ := isS_iff.mp hs
  refine ⟨h.m1, h.m5, h.n1, h.n5, ?_, fun x hx => ?_⟩
  · have nd := h.nd
    show (a.ties.map _).Nodup
    revert hn nd
    generalize a.ties = l
    intro hn nd
    unfold List.Nodup at nd ⊢
    rw [List.pairwise_map]
    refine List.Pairwise.imp_of_mem (fun {x y} hx hy hxy => ?_) nd
    intro e
    split at e <;> split at e
    · rename_i e1 e2; exact hxy (e1.trans e2.symm)
    · rename_i e1 e2; exact hn (e ▸ hy)
    · rename_i e1 e2; exact hn (e ▸ hx)
    · exact hxy e
  · obtain ⟨y, hy, rfl⟩ := List.mem_map.mp hx
    split
    · exact ⟨h1, h2, by show 1 - d < 2; omega⟩
    · exact h.ok y hy
theorem erase_without {a : Abs} (h : Inv a) (i j d : Nat) : a.ties.erase (i, j, d) = (a.without i j d).ties := h.nd.erase_eq_filter _
theorem Inv.with_arr {a : Abs} (h : Inv a) {i j d : Nat} (hs : a.isS i j d = true) : ArrOk (a.with_ i j d) := arrOk_of fun x hx => by
  rcases List.mem_append.mp hx with hx | hx
  · exact h.ok x hx
  · simp at hx
    subst hx
    exact isS_iff.mp hs
end TW

end

section
namespace TW
open Su124
variable (a : Abs)
theorem does_begin (m n : Nat) : does a (.begin_ m n) = if okB m n = false then (a, no (-22)) else (⟨m, n, []⟩, no 0) := rfl
theorem does_tie (i j d : Nat) : does a (.tie i j d) = if a.isS i j d = false then (a, no (-2)) else if a.has i j d = true then (a, no (-17)) else (a.with_ i j d, num (a.with_ i j d).parts.length []) := rfl
theorem does_free (i j d : Nat) : does a (.free i j d) = if a.isS i j d = false then (a, no (-2)) else if a.has i j d = false then (a, no (-6)) else (a.without i j d, num (a.without i j d).parts.length []) := rfl
theorem does_firm : does a .firm = (a, num (bit a.firm) [a.parts.length]) := rfl
theorem does_reach (s : Nat) : does a (.reach s) = if a.size ≤ s then (a, no (-2)) else (a, list (a.reach s)) := rfl
theorem does_part (s : Nat) : does a (.part s) = if a.size ≤ s then (a, no (-2)) else (a, list (a.part s)) := rfl
theorem does_parts : does a .parts = (a, list (a.ss.map a.first)) := rfl
theorem does_ends : does a .ends = (a, num a.ends.length (a.starts.length :: (a.ends ++ a.starts))) := rfl
theorem does_leans (i j d : Nat) : does a (.leans i j d) = if a.isS i j d = false then (a, no (-2)) else (a, num (bit (a.leans i j d)) []) := rfl
theorem does_all : does a .all = (a, num a.count (a.all3.map fun x => bit (a.leans x.1 x.2.1 x.2.2))) := rfl
theorem does_lean (i j d : Nat) : does a (.lean i j d) = if a.isS i j d = false then (a, no (-2)) else if a.leans i j d = false then (a, no (-33)) else (a, list (a.lean i j d)) := rfl
theorem does_turn (l : List Nat) : does a (.turn l) = if l.length ≠ a.size then (a, no (-22)) else (a, num (bit (a.turns l)) [((List.range a.m).flatMap fun i => (List.range a.n).filter fun j => l.getD i 0 != l.getD (a.col j) 0).length]) := rfl
theorem does_spare (i j d : Nat) : does a (.spare i j d) = if a.isS i j d = false then (a, no (-2)) else if a.has i j d = false then (a, no (-6)) else (a, num (bit (a.spare i j d)) []) := rfl
theorem does_spares : does a .spares = (a, num (a.ties.filter fun x => a.spare x.1 x.2.1 x.2.2).length (three (a.ties.filter fun x => a.spare x.1 x.2.1 x.2.2))) := rfl
theorem does_put : does a .put = if 9 < a.m * a.n then (a, no (-28)) else (match a.put with | none => (a, no (-33)) | some s => (a, num s.length (three s))) := rfl
theorem does_would (i j d : Nat) : does a (.would i j d) = if a.isS i j d = false then (a, no (-2)) else if a.has i j d = true then (a, no (-17)) else (a, num (a.with_ i j d).parts.length [a.count - (a.with_ i j d).count]) := rfl
theorem does_falls (i j d : Nat) : does a (.falls i j d) = if a.isS i j d = false then (a, no (-2)) else if a.has i j d = false then (a, no (-6)) else (a, num (a.without i j d).parts.length [(a.without i j d).count - a.count]) := rfl
theorem does_stiff (i j : Nat) : does a (.stiff i j) = if a.isS i j 0 = false then (a, no (-2)) else (a, num (bit (a.back i (a.col j))) [bit (a.has i j 0 && a.has i j 1)]) := rfl
theorem does_flip (i j d : Nat) : does a (.flip i j d) = if a.isS i j d = false then (a, no (-2)) else if a.has i j d = false then (a, no (-6)) else if a.has i j (1 - d) = true then (a, no (-17)) else (flipped a i j d, num (flipped a i j d).parts.length []) := rfl
theorem does_ties : does a .ties = (a, num a.ties.length (three a.ties)) := rfl
theorem does_state : does a .state = (a, num a.m [a.n, a.ties.length, a.bound]) := rfl
end TW

end

section
namespace TW
open Su124
/-- a call's number, its numbers, the call -/
inductive Dec : Int → List Nat → Su124.Call → Prop
  | begin_ (m n : Nat) : Dec 0 [m, n] (.begin_ m n)
  | tie (i j d : Nat) : Dec 1 [i, j, d] (.tie i j d)
  | free (i j d : Nat) : Dec 2 [i, j, d] (.free i j d)
  | firm : Dec 3 [] .firm
  | reach (s : Nat) : Dec 4 [s] (.reach s)
  | part (s : Nat) : Dec 5 [s] (.part s)
  | parts : Dec 6 [] .parts
  | ends : Dec 7 [] .ends
  | leans (i j d : Nat) : Dec 8 [i, j, d] (.leans i j d)
  | all : Dec 9 [] .all
  | lean (i j d : Nat) : Dec 10 [i, j, d] (.lean i j d)
  | turn (l : List Nat) : Dec 11 l (.turn l)
  | spare (i j d : Nat) : Dec 12 [i, j, d] (.spare i j d)
  | spares : Dec 13 [] .spares
  | put : Dec 14 [] .put
  | would (i j d : Nat) : Dec 15 [i, j, d] (.would i j d)
  | falls (i j d : Nat) : Dec 16 [i, j, d] (.falls i j d)
  | stiff (i j : Nat) : Dec 17 [i, j] (.stiff i j)
  | flip (i j d : Nat) : Dec 18 [i, j, d] (.flip i j d)
  | ties : Dec 19 [] .ties
  | state : Dec 20 [] .state
def nat (is : List Nat) : List Int := is.map fun (n : Nat) => (n : Int)
/-- the numbers of a call as they stand in the list -/
def enc (k : Int) (is : List Nat) : List Int := if k = 11 then k :: (is.length : Int) :: nat is else k :: nat is
def ansI (r : Ans) : List Int := r.value :: nat r.out
def play (s : Option Abs) (cs : List (List (List Int))) : List Int := PyFlat.told (PyFlat.played (fun s c => Su124Neutral.step s (c.headD [])) s (cs.map PySu124.whole))
theorem nat_of : ∀ {l : List Int}, (∀ z, z ∈ l → 0 ≤ z) → ∃ is : List Nat, l = nat is
  | [], _ => ⟨[], rfl⟩
  | z :: l, h => by
    obtain ⟨is, e⟩ := nat_of (l := l) fun y hy => h y (List.mem_cons.mpr (.inr hy))
    have h0 := h z (by simp)
    refine ⟨z.toNat :: is, ?_⟩
    rw [e]
    show z :: _ = (z.toNat : Int) :: _
    rw [Int.toNat_of_nonneg h0]
    rfl
theorem nat_len (is : List Nat) : (nat is).length = is.length := List.length_map _
theorem toNat_nat (is : List Nat) : (nat is).map Int.toNat = is := by
  unfold nat
  rw [List.map_map]
  conv => rhs; rw [← List.map_id is]
  exact List.map_congr_left fun n _ => Int.toNat_natCast n
theorem calls_cons {f : Nat} {p : Int} {r : List Int} {cs : List (List (List Int))} (h : PyFlat.calls PySu124.shape f (p :: r) = some cs) : ∃ f' c t cs', PyFlat.call PySu124.shape (p :: r) = some (c, t) ∧ PyFlat.calls PySu124.shape f' t = some cs' ∧ cs = c :: cs' := by
  cases f with
  | zero => cases h
  | succ f =>
    unfold PyFlat.calls at h
    cases e : PyFlat.call PySu124.shape (p :: r) with
    | none =>
      rw [e] at h
      cases h
    | some q =>
      obtain ⟨c, t⟩ := q
      rw [e] at h
      dsimp only at h
      cases e2 : PyFlat.calls PySu124.shape f t with
      | none =>
        rw [e2] at h
        cases h
      | some cs' =>
        rw [e2] at h
        exact ⟨f, c, t, cs', rfl, e2, (Option.some.inj h).symm⟩
theorem call_plain {p : Int} {r : List Int} {c : List (List Int)} {t : List Int} {n : Nat} (hs : PySu124.shape p = some (n, 0)) (h : PyFlat.call PySu124.shape (p :: r) = some (c, t)) : ∃ xs, xs.length = n ∧ r = xs ++ t ∧ c = [p :: xs] := by
  unfold PyFlat.call at h
  dsimp only at h
  rw [hs] at h
  dsimp only at h
  by_cases hl : r.length < n
  · rw [if_pos hl] at h
    cases h
  · rw [if_neg hl] at h
    have h : some ([p :: r.take n], r.drop n) = some (c, t) := h
    injection h with h
    injection h with h1 h2
    subst h1 h2
    exact ⟨r.take n, by rw [List.length_take]; omega, (List.take_append_drop n r).symm, rfl⟩
theorem call_row {r : List Int} {c : List (List Int)} {t : List Int} (h : PyFlat.call PySu124.shape (11 :: r) = some (c, t)) : ∃ xs : List Int, r = (xs.length : Int) :: (xs ++ t) ∧ c = [[11], xs] := by
  have hs : PySu124.shape 11 = some (0, 1) := by decide +kernel
  unfold PyFlat.call at h
  dsimp only at h
  rw [hs] at h
  dsimp only at h
  rw [if_neg (Nat.not_lt_zero _), List.drop_zero] at h
  cases r with
  | nil => cases h
  | cons k r =>
    unfold PyFlat.rows PyFlat.row at h
    dsimp only at h
    by_cases hc : 0 ≤ k ∧ k.toNat ≤ r.length
    · rw [if_pos hc] at h
      have h : some ([[11], r.take k.toNat], r.drop k.toNat) = some (c, t) := h
      injection h with h
      injection h with h1 h2
      subst h1 h2
      refine ⟨r.take k.toNat, ?_, rfl⟩
      rw [List.take_append_drop, List.length_take, Nat.min_eq_left hc.2, Int.toNat_of_nonneg hc.1]
    · rw [if_neg hc] at h
      cases h
theorem shape_some {p : Int} {x : Nat × Nat} (h : PySu124.shape p = some x) : 0 ≤ p ∧ p ≤ 20 := by
  apply Classical.byContradiction
  intro hn
  unfold PySu124.shape at h
  repeat rw [if_neg (by omega)] at h
  cases h
theorem play_cons (s : Option Abs) (c : List (List Int)) (cs : List (List (List Int))) {x : Su124.Call} (h : Su124Neutral.callOf ((PySu124.whole c).headD []) = some x) :
    play s (c :: cs) = ((ansI (Su124.step s x).2).length : Int) :: ansI (Su124.step s x).2 ++ play (Su124.step s x).1 cs := by
  have e : Su124Neutral.step s ((PySu124.whole c).headD []) = ((Su124.step s x).1, ansI (Su124.step s x).2) := by
    unfold Su124Neutral.step
    rw [h]
    rfl
  unfold play
  rw [List.map_cons]
  show PyFlat.told ((Su124Neutral.step s ((PySu124.whole c).headD [])).2 :: PyFlat.played _ (Su124Neutral.step s ((PySu124.whole c).headD [])).1 (cs.map PySu124.whole)) = _
  rw [e]
  rfl
theorem len2 {l : List Int} (h : l.length = 2) : ∃ a b, l = [a, b] := by
  match l, h with
  | [a, b], _ => exact ⟨a, b, rfl⟩
theorem len3 {l : List Int} (h : l.length = 3) : ∃ a b c, l = [a, b, c] := by
  match l, h with
  | [a, b, c], _ => exact ⟨a, b, c, rfl⟩
theorem len1 {l : List Int} (h : l.length = 1) : ∃ a, l = [a] := by
  match l, h with
  | [a], _ => exact ⟨a, rfl⟩
/-- one call taken off the list -/
theorem split {f : Nat} {p : Int} {r : List Int} {cs : List (List (List Int))} (h : PyFlat.calls PySu124.shape f (p :: r) = some cs) (h0 : ∀ z, z ∈ p :: r → 0 ≤ z) :
    ∃ (is : List Nat) (x : Su124.Call) (f' : Nat) (t : List Int) (cs' : List (List (List Int))), Dec p is x ∧ p :: r = enc p is ++ t ∧ PyFlat.calls PySu124.shape f' t = some cs' ∧ cs.length = cs'.length + 1 ∧
      ∀ s, play s cs = ((ansI (Su124.step s x).2).length : Int) :: ansI (Su124.step s x).2 ++ play (Su124.step s x).1 cs' := by
  obtain ⟨f', c, t, cs', hc, ht, rfl⟩ := calls_cons h
  have hp : 0 ≤ p ∧ p ≤ 20 := by
    unfold PyFlat.call at hc
    dsimp only at hc
    cases e : PySu124.shape p with
    | none =>
      rw [e] at hc
      cases hc
    | some x => exact shape_some e
  have plain : ∀ {n : Nat}, PySu124.shape p = some (n, 0) → p ≠ 11 → ∃ is : List Nat, is.length = n ∧ p :: r = enc p is ++ t ∧ c = [p :: nat is] := fun {n} hs hne => by
    obtain ⟨xs, h1, h2, h3⟩ := call_plain hs hc
    obtain ⟨is, hi⟩ := nat_of (l := xs) fun z hz => h0 z (by rw [h2]; simp [hz])
    subst hi
    refine ⟨is, by rw [← h1, nat_len], ?_, h3⟩
    unfold enc
    rw [if_neg hne, h2]
    rfl
  have fin : ∀ (is : List Nat) (x : Su124.Call), Dec p is x → p :: r = enc p is ++ t → Su124Neutral.callOf ((PySu124.whole c).headD []) = some x → ∃ (is : List Nat) (x : Su124.Call) (f' : Nat) (t : List Int) (cs'' : List (List (List Int))), Dec p is x ∧ p :: r = enc p is ++ t ∧ PyFlat.calls PySu124.shape f' t = some cs'' ∧ (c :: cs').length = cs''.length + 1 ∧
      ∀ s, play s (c :: cs') = ((ansI (Su124.step s x).2).length : Int) :: ansI (Su124.step s x).2 ++ play (Su124.step s x).1 cs'' :=
    fun is x hd he hx => ⟨is, x, f', t, cs', hd, he, ht, rfl, fun s => play_cons s c cs' hx⟩
  have l0 : ∀ {is : List Nat}, is.length = 0 → is = [] := fun h => List.length_eq_zero_iff.mp h
  have l1 : ∀ {is : List Nat}, is.length = 1 → ∃ a, is = [a] := fun {is} h => by match is, h with | [a], _ => exact ⟨a, rfl⟩
  have l2 : ∀ {is : List Nat}, is.length = 2 → ∃ a b, is = [a, b] := fun {is} h => by match is, h with | [a, b], _ => exact ⟨a, b, rfl⟩
  have l3 : ∀ {is : List Nat}, is.length = 3 → ∃ a b c, is = [a, b, c] := fun {is} h => by match is, h with | [a, b, c], _ => exact ⟨a, b, c, rfl⟩
  have cs21 : p = 0 ∨ p = 1 ∨ p = 2 ∨ p = 3 ∨ p = 4 ∨ p = 5 ∨ p = 6 ∨ p = 7 ∨ p = 8 ∨ p = 9 ∨ p = 10 ∨ p = 11 ∨ p = 12 ∨ p = 13 ∨ p = 14 ∨ p = 15 ∨ p = 16 ∨ p = 17 ∨ p = 18 ∨ p = 19 ∨ p = 20 := by omega
  rcases cs21 with rfl | rfl | rfl | rfl | rfl | rfl | rfl | rfl | rfl | rfl | rfl | rfl | rfl | rfl | rfl | rfl | rfl | rfl | rfl | rfl | rfl
  · obtain ⟨is, h1, h2, rfl⟩ := plain (n := 2) (by decide +kernel) (by decide)
    obtain ⟨a, b, rfl⟩ := l2 h1
    exact fin _ _ (.begin_ a b) h2 rfl
  · obtain ⟨is, h1, h2, rfl⟩ := plain (n := 3) (by decide +kernel) (by decide)
    obtain ⟨a, b, d, rfl⟩ := l3 h1
    exact fin _ _ (.tie a b d) h2 rfl
  · obtain ⟨is, h1, h2, rfl⟩ := plain (n := 3) (by decide +kernel) (by decide)
    obtain ⟨a, b, d, rfl⟩ := l3 h1
    exact fin _ _ (.free a b d) h2 rfl
  · obtain ⟨is, h1, h2, rfl⟩ := plain (n := 0) (by decide +kernel) (by decide)
    obtain rfl := l0 h1
    exact fin _ _ .firm h2 rfl
  · obtain ⟨is, h1, h2, rfl⟩ := plain (n := 1) (by decide +kernel) (by decide)
    obtain ⟨a, rfl⟩ := l1 h1
    exact fin _ _ (.reach a) h2 rfl
  · obtain ⟨is, h1, h2, rfl⟩ := plain (n := 1) (by decide +kernel) (by decide)
    obtain ⟨a, rfl⟩ := l1 h1
    exact fin _ _ (.part a) h2 rfl
  · obtain ⟨is, h1, h2, rfl⟩ := plain (n := 0) (by decide +kernel) (by decide)
    obtain rfl := l0 h1
    exact fin _ _ .parts h2 rfl
  · obtain ⟨is, h1, h2, rfl⟩ := plain (n := 0) (by decide +kernel) (by decide)
    obtain rfl := l0 h1
    exact fin _ _ .ends h2 rfl
  · obtain ⟨is, h1, h2, rfl⟩ := plain (n := 3) (by decide +kernel) (by decide)
    obtain ⟨a, b, d, rfl⟩ := l3 h1
    exact fin _ _ (.leans a b d) h2 rfl
  · obtain ⟨is, h1, h2, rfl⟩ := plain (n := 0) (by decide +kernel) (by decide)
    obtain rfl := l0 h1
    exact fin _ _ .all h2 rfl
  · obtain ⟨is, h1, h2, rfl⟩ := plain (n := 3) (by decide +kernel) (by decide)
    obtain ⟨a, b, d, rfl⟩ := l3 h1
    exact fin _ _ (.lean a b d) h2 rfl
  · obtain ⟨xs, h1, rfl⟩ := call_row hc
    obtain ⟨is, hi⟩ := nat_of (l := xs) fun z hz => h0 z (by rw [h1]; simp [hz])
    subst hi
    refine fin is _ (.turn is) ?_ ?_
    · unfold enc
      rw [if_pos rfl, h1, nat_len]
      rfl
    · show some (Su124.Call.turn ((nat is).map Int.toNat)) = _
      rw [toNat_nat]
  · obtain ⟨is, h1, h2, rfl⟩ := plain (n := 3) (by decide +kernel) (by decide)
    obtain ⟨a, b, d, rfl⟩ := l3 h1
    exact fin _ _ (.spare a b d) h2 rfl
  · obtain ⟨is, h1, h2, rfl⟩ := plain (n := 0) (by decide +kernel) (by decide)
    obtain rfl := l0 h1
    exact fin _ _ .spares h2 rfl
  · obtain ⟨is, h1, h2, rfl⟩ := plain (n := 0) (by decide +kernel) (by decide)
    obtain rfl := l0 h1
    exact fin _ _ .put h2 rfl
  · obtain ⟨is, h1, h2, rfl⟩ := plain (n := 3) (by decide +kernel) (by decide)
    obtain ⟨a, b, d, rfl⟩ := l3 h1
    exact fin _ _ (.would a b d) h2 rfl
  · obtain ⟨is, h1, h2, rfl⟩ := plain (n := 3) (by decide +kernel) (by decide)
    obtain ⟨a, b, d, rfl⟩ := l3 h1
    exact fin _ _ (.falls a b d) h2 rfl
  · obtain ⟨is, h1, h2, rfl⟩ := plain (n := 2) (by decide +kernel) (by decide)
    obtain ⟨a, b, rfl⟩ := l2 h1
    exact fin _ _ (.stiff a b) h2 rfl
  · obtain ⟨is, h1, h2, rfl⟩ := plain (n := 3) (by decide +kernel) (by decide)
    obtain ⟨a, b, d, rfl⟩ := l3 h1
    exact fin _ _ (.flip a b d) h2 rfl
  · obtain ⟨is, h1, h2, rfl⟩ := plain (n := 0) (by decide +kernel) (by decide)
    obtain rfl := l0 h1
    exact fin _ _ .ties h2 rfl
  · obtain ⟨is, h1, h2, rfl⟩ := plain (n := 0) (by decide +kernel) (by decide)
    obtain rfl := l0 h1
    exact fin _ _ .state h2 rfl
theorem answers_play {l : List Int} {raw : List (List (List Int))} (h : PyFlat.calls PySu124.shape l.length l = some raw) : PySu124.answers l = play none raw := by
  unfold PySu124.answers PySu124.calls
  rw [h]
  rfl
theorem asked_raw {l : List Int} (h : PySu124.answers_asked l = true) : ∃ raw, PyFlat.calls PySu124.shape l.length l = some raw ∧ raw.length ≤ 400 ∧ PyInside.calls PySu124.bound raw = true ∧ (PySu124.answers l).length ≤ 10000000 := by
  unfold PySu124.answers_asked at h
  cases e : PyFlat.calls PySu124.shape l.length l with
  | none =>
    rw [e] at h
    cases h
  | some raw =>
    rw [e] at h
    dsimp only at h
    simp only [Bool.and_eq_true] at h
    exact ⟨raw, rfl, of_decide_eq_true h.1.1.1.2, h.1.1.2, of_decide_eq_true h.2⟩
end TW

end

section
namespace TW
open Su124
/-- flip: the tie changed at its place -/
theorem map_set {α : Type} [DecidableEq α] {x z : α} : ∀ {l : List α} {j : Nat}, l.Nodup → l[j]? = some x → l.map (fun y => if y = x then z else y) = l.set j z
  | [], j, _, h => by cases h
  | a :: l, 0, nd, h => by
    have e : a = x := Option.some.inj h
    subst e
    obtain ⟨h1, _⟩ := List.nodup_cons.mp nd
    rw [List.map_cons, if_pos rfl]
    show z :: l.map _ = z :: l
    refine congrArg (fun r => z :: r) ?_
    conv => rhs; rw [← List.map_id l]
    refine List.map_congr_left fun y hy => ?_
    have ne : ¬ y = a := fun e => by
      subst e
      exact h1 hy
    rw [if_neg ne]
    rfl
  | a :: l, j + 1, nd, h => by
    obtain ⟨h1, h2⟩ := List.nodup_cons.mp nd
    have hx : l[j]? = some x := h
    have ne : ¬ a = x := fun e => h1 (e ▸ List.mem_of_getElem? hx)
    rw [List.map_cons, if_neg ne, map_set h2 hx]
    rfl
theorem flipped_set {a : Abs} (h : Inv a) {i j d k : Nat} (hk : a.ties[k]? = some (i, j, d)) : (flipped a i j d).ties = a.ties.set k (i, j, 1 - d) := map_set h.nd hk
/-- put: the first set, taken apart by its first member -/
theorem sets_find {α : Type} (p : List α → Bool) (k : Nat) (x : α) (l : List α) : (sets (k + 1) (x :: l)).find? p = (((sets k l).find? fun s => p (x :: s)).map fun s => x :: s).or ((sets (k + 1) l).find? p) := by
  show ((sets k l).map (fun s => x :: s) ++ sets (k + 1) l).find? p = _
  rw [List.find?_append, List.find?_map]
  rfl
theorem sets_zero {α : Type} (l : List α) : sets 0 l = [[]] := by cases l <;> rfl
theorem sets_nil {α : Type} (k : Nat) : sets (k + 1) ([] : List α) = [] := rfl
theorem sets_short {α : Type} : ∀ (k : Nat) (l : List α), l.length < k → sets k l = []
  | 0, _, h => absurd h (Nat.not_lt_zero _)
  | _ + 1, [], _ => rfl
  | k + 1, x :: l, h => by
    show (sets k l).map _ ++ sets (k + 1) l = []
    rw [sets_short k l (by simpa using h), sets_short (k + 1) l (by simp at h; omega)]
    rfl
theorem sets_mem {α : Type} : ∀ (k : Nat) (l : List α) (s : List α), s ∈ sets k l → s.length = k ∧ s.Sublist l
  | 0, l, s, h => by
    rw [sets_zero] at h
    have e : s = [] := by simpa using h
    subst e
    exact ⟨rfl, List.nil_sublist _⟩
  | _ + 1, [], s, h => by cases h
  | k + 1, x :: l, s, h => by
    rcases List.mem_append.mp (show s ∈ (sets k l).map (fun s => x :: s) ++ sets (k + 1) l from h) with h | h
    · obtain ⟨t, ht, rfl⟩ := List.mem_map.mp h
      obtain ⟨h1, h2⟩ := sets_mem k l t ht
      exact ⟨by rw [List.length_cons, h1], h2.cons_cons x⟩
    · obtain ⟨h1, h2⟩ := sets_mem (k + 1) l s h
      exact ⟨h1, h2.cons x⟩
/-- the ties with a set more -/
def plus (a : Abs) (s : List (Nat × Nat × Nat)) : Abs := { a with ties := a.ties ++ s }
def missing (a : Abs) : List (Nat × Nat × Nat) := a.all3.filter fun x => !(a.has x.1 x.2.1 x.2.2)
theorem put_eq (a : Abs) : a.put = (List.range 5).findSome? fun k => (sets k (missing a)).find? fun s => (plus a s).firm := rfl
theorem plus_arr {a : Abs} (h : Inv a) {s : List (Nat × Nat × Nat)} (hs : ∀ x, x ∈ s → x ∈ missing a) : ∀ x, x ∈ (plus a s).ties → x.1 < a.m ∧ x.2.1 < a.n ∧ x.2.2 < 2 := fun x hx => by
  rcases List.mem_append.mp hx with hx | hx
  · exact h.ok x hx
  · exact mem_all3.mp (List.mem_filter.mp (hs x hx)).1
/-- how many squares turn unlike: a sum over the rows -/
theorem unlike_len (m n : Nat) (q : Nat → Nat → Bool) : ((List.range m).flatMap fun i => (List.range n).filter fun j => q i j).length = ((List.range m).map fun i => ((List.range n).filter fun j => q i j).length).sum := by
  rw [List.length_flatMap]
theorem bound_eq {a : Abs} (h0 : 0 < a.size) : a.bound = if (fsts a.size (R a)).length = 1 then 0 else max ((fsts a.size (R a)).filter fun s => !(outs a.size (R a) s)).length ((fsts a.size (R a)).filter fun s => !(ins a.size (R a) s)).length := by
  unfold Abs.bound
  rw [ends_eq h0, starts_eq, parts_eq]
theorem spare_eq (a : Abs) (i j d : Nat) : a.spare i j d = R (a.without i j d) (arr a.m (i, j, d)).1 (arr a.m (i, j, d)).2 := by
  unfold Abs.spare
  rw [leans_eq, Bool.not_not]
  rfl
end TW

end

section
namespace TW
open Su124
theorem nodup_le {α : Type} [DecidableEq α] : ∀ {l L : List α}, l.Nodup → (∀ x, x ∈ l → x ∈ L) → l.length ≤ L.length
  | [], L, _, _ => Nat.zero_le _
  | x :: l, L, nd, h => by
    obtain ⟨h1, h2⟩ := List.nodup_cons.mp nd
    have hx := h x (by simp)
    have q := nodup_le (l := l) (L := L.erase x) h2 fun y hy => (List.mem_erase_of_ne (fun e => by subst e; exact h1 hy)).mpr (h y (List.mem_cons.mpr (.inr hy)))
    rw [List.length_erase_of_mem hx] at q
    have := List.length_pos_of_mem hx
    show l.length + 1 ≤ L.length
    omega
/-! paths with an arrow more -/
theorem Path.sub {e f : List (Nat × Nat)} {s t : Nat} (hs : ∀ x y, (x, y) ∈ e → Path f x y) (h : Path e s t) : Path f s t := by
  induction h with
  | refl => exact .refl _
  | step _ hx ih => exact ih.trans (hs _ _ hx)
theorem Path.one {e : List (Nat × Nat)} {x y : Nat} (h : (x, y) ∈ e) : Path e x y := .step (.refl _) h
theorem path_snoc {e : List (Nat × Nat)} {u v s t : Nat} : Path (e ++ [(u, v)]) s t ↔ Path e s t ∨ (Path e s u ∧ Path e v t) := by
  constructor
  · intro h
    induction h with
    | refl => exact .inl (.refl _)
    | step _ hx ih =>
      rcases List.mem_append.mp hx with hx | hx
      · rcases ih with ih | ⟨i1, i2⟩
        · exact .inl (.step ih hx)
        · exact .inr ⟨i1, .step i2 hx⟩
      · simp at hx
        obtain ⟨rfl, rfl⟩ := hx
        rcases ih with ih | ⟨i1, _⟩
        · exact .inr ⟨ih, .refl _⟩
        · exact .inr ⟨i1, .refl _⟩
  · have m : ∀ {s t}, Path e s t → Path (e ++ [(u, v)]) s t := fun h => h.mono fun x hx => List.mem_append.mpr (.inl hx)
    rintro (h | ⟨h1, h2⟩)
    · exact m h
    · exact (Path.step (m h1) (List.mem_append.mpr (.inr (by simp)))).trans (m h2)
/-- the ties lie within the wall -/
def In (a : Abs) (l : List (Nat × Nat × Nat)) : Prop := ∀ x, x ∈ l → x.1 < a.m ∧ x.2.1 < a.n ∧ x.2.2 < 2
theorem plus_in {b : Abs} {s : List (Nat × Nat × Nat)} (hb : In b b.ties) (hs : In b s) : In (plus b s) (plus b s).ties := fun x hx => by
  rcases List.mem_append.mp hx with hx | hx
  · exact hb x hx
  · exact hs x hx
theorem plus_size (b : Abs) (s : List (Nat × Nat × Nat)) : (plus b s).size = b.size := rfl
theorem plus_cons (b : Abs) (x : Nat × Nat × Nat) (s : List (Nat × Nat × Nat)) : plus (plus b [x]) s = plus b (x :: s) := by
  unfold plus
  show (⟨b.m, b.n, (b.ties ++ [x]) ++ s⟩ : Abs) = ⟨b.m, b.n, b.ties ++ x :: s⟩
  rw [List.append_assoc]
  rfl
theorem plus_nil (b : Abs) : plus b [] = b := by
  unfold plus
  rw [List.append_nil]
theorem plus_arrows (b : Abs) (s : List (Nat × Nat × Nat)) : (plus b s).arrows = b.arrows ++ s.map (arr b.m) := by
  rw [arrows_eq, arrows_eq]
  show (b.ties ++ s).map (arr b.m) = _
  rw [List.map_append]
theorem arr_in {a : Abs} {x : Nat × Nat × Nat} (h : x.1 < a.m ∧ x.2.1 < a.n ∧ x.2.2 < 2) : (arr a.m x).1 < a.size ∧ (arr a.m x).2 < a.size := arr_lt (a := a) (i := x.1) (j := x.2.1) (d := x.2.2) h.1 h.2.1
theorem R_snoc {b : Abs} {x : Nat × Nat × Nat} (hb : In b b.ties) (hx : x.1 < b.m ∧ x.2.1 < b.n ∧ x.2.2 < 2) {s t : Nat} (hs : s < b.size) : R (plus b [x]) s t = (R b s t || (R b s (arr b.m x).1 && R b (arr b.m x).2 t)) := by
  have h1 : In (plus b [x]) (plus b [x]).ties := plus_in hb fun y hy => by simp at hy; subst hy; exact hx
  have ho := arrOk_of (a := b) hb
  rw [Bool.eq_iff_iff, R_iff (arrOk_of h1) hs, plus_arrows, Bool.or_eq_true, Bool.and_eq_true, R_iff ho hs, R_iff ho hs, R_iff ho (arr_in hx).2]
  exact path_snoc
/-! at least so many -/
def need (n : Nat) (r : Nat → Nat → Bool) : Nat := if (fsts n r).length = 1 then 0 else max ((fsts n r).filter fun s => !(outs n r s)).length ((fsts n r).filter fun s => !(ins n r s)).length
theorem bound_need {a : Abs} (h0 : 0 < a.size) : a.bound = need a.size (R a) := bound_eq h0
theorem outs_no {n : Nat} {r : Nat → Nat → Bool} {s : Nat} (h : (!(outs n r s)) = true) : ∀ t, t < n → r s t = true → r t s = true := fun t ht hr => by
  cases e : r t s with
  | true => rfl
  | false =>
    have : outs n r s = true := List.any_eq_true.mpr ⟨t, List.mem_range.mpr ht, by rw [hr, e]; rfl⟩
    rw [this] at h
    cases h
theorem ins_no {n : Nat} {r : Nat → Nat → Bool} {s : Nat} (h : (!(ins n r s)) = true) : ∀ t, t < n → r t s = true → r s t = true := fun t ht hr => by
  cases e : r s t with
  | true => rfl
  | false =>
    have : ins n r s = true := List.any_eq_true.mpr ⟨t, List.mem_range.mpr ht, by rw [hr, e]; rfl⟩
    rw [this] at h
    cases h
theorem fst_eq {n : Nat} {r : Nat → Nat → Bool} (E : Eqv n r) {s t : Nat} (hs : s < n) (ht : t ∈ tog n r s) : fst n r t = fst n r s := by
  have e := tog_congr E hs ht
  have h1 := tog_get0 E (mem_tog.mp ht).1
  rw [e, tog_get0 E hs] at h1
  exact (Option.some.inj h1).symm
theorem fsts_nodup (n : Nat) (r : Nat → Nat → Bool) : (fsts n r).Nodup := List.Pairwise.filter _ List.nodup_range
theorem not_closed {e : List (Nat × Nat)} {s t : Nat} {p : Nat → Prop} (h : Path e s t) (h0 : p s) (h1 : ¬ p t) : ∃ x y, (x, y) ∈ e ∧ p x ∧ ¬ p y := by
  apply Classical.byContradiction
  intro hn
  refine h1 (h.least h0 fun x y hx hp => ?_)
  apply Classical.byContradiction
  intro hy
  exact hn ⟨x, y, hx, hp, hy⟩
theorem lt_need {b : Abs} {s : List (Nat × Nat × Nat)} (hb : In b b.ties) (hs : In b s) (h0 : 0 < b.size) (hf : (plus b s).firm = true) : need b.size (R b) ≤ s.length := by
  unfold need
  split
  · exact Nat.zero_le _
  · rename_i hne
    have ho := arrOk_of (a := b) hb
    have ho2 := arrOk_of (a := plus b s) (plus_in hb hs)
    have E := eqv_of ho
    have all := (firm_all (a := plus b s) h0).mp hf
    have path : ∀ u v, u < b.size → v < b.size → Path (b.arrows ++ s.map (arr b.m)) u v := fun u v hu hv => by
      rw [← plus_arrows]
      exact (R_iff ho2 hu).mp (all u v hu hv)
    have lt_of : ∀ {x y}, (x, y) ∈ b.arrows ++ s.map (arr b.m) → x < b.size ∧ y < b.size := fun {x y} h => by
      rw [← plus_arrows] at h
      exact ho2 _ h
    refine Nat.max_le.mpr ⟨?_, ?_⟩
    · rw [← List.length_map (as := s) (fun x => fst b.size (R b) (arr b.m x).1)]
      refine nodup_le ((fsts_nodup _ _).filter _) fun f hf => ?_
      obtain ⟨h1, h2⟩ := List.mem_filter.mp hf
      obtain ⟨hfn, hff⟩ := mem_fsts.mp h1
      have hend := outs_no h2
      obtain ⟨t, ht, htr⟩ : ∃ t, t < b.size ∧ ¬ R b f t = true := by
        apply Classical.byContradiction
        intro hno
        have ra : ∀ t, t < b.size → R b f t = true := fun t ht => by
          apply Classical.byContradiction
          intro hn
          exact hno ⟨t, ht, hn⟩
        exact hne ((firm_iff E h0).mpr fun u v hu hv => E.tr u f v hu hfn hv (hend u hu (ra u hu)) (ra v hv))
      obtain ⟨x, y, hxy, hx, hy⟩ := not_closed (p := fun u => R b f u = true) (path f t hfn ht) (E.rf f hfn) htr
      obtain ⟨hxn, hyn⟩ := lt_of hxy
      rcases List.mem_append.mp hxy with hm | hm
      · refine absurd ?_ hy
        exact E.tr f x y hfn hxn hyn hx ((R_iff ho hxn).mpr (Path.one hm))
      · obtain ⟨z, hz, ez⟩ := List.mem_map.mp hm
        refine List.mem_map.mpr ⟨z, hz, ?_⟩
        show fst b.size (R b) (arr b.m z).1 = f
        rw [ez, fst_eq E hfn (mem_tog.mpr ⟨hxn, hx, hend x hxn hx⟩)]
        exact hff
    · rw [← List.length_map (as := s) (fun x => fst b.size (R b) (arr b.m x).2)]
      refine nodup_le ((fsts_nodup _ _).filter _) fun f hf => ?_
      obtain ⟨h1, h2⟩ := List.mem_filter.mp hf
      obtain ⟨hfn, hff⟩ := mem_fsts.mp h1
      have hend := ins_no h2
      obtain ⟨t, ht, htr⟩ : ∃ t, t < b.size ∧ ¬ R b t f = true := by
        apply Classical.byContradiction
        intro hno
        have ra : ∀ t, t < b.size → R b t f = true := fun t ht => by
          apply Classical.byContradiction
          intro hn
          exact hno ⟨t, ht, hn⟩
        exact hne ((firm_iff E h0).mpr fun u v hu hv => E.tr u f v hu hfn hv (ra u hu) (hend v hv (ra v hv)))
      obtain ⟨x, y, hxy, hx, hy⟩ := not_closed (p := fun u => ¬ R b u f = true) (path t f ht hfn) htr (fun z => z (E.rf f hfn))
      have hy : R b y f = true := Classical.byContradiction hy
      obtain ⟨hxn, hyn⟩ := lt_of hxy
      rcases List.mem_append.mp hxy with hm | hm
      · exact absurd (E.tr x y f hxn hyn hfn ((R_iff ho hxn).mpr (Path.one hm)) hy) hx
      · obtain ⟨z, hz, ez⟩ := List.mem_map.mp hm
        refine List.mem_map.mpr ⟨z, hz, ?_⟩
        show fst b.size (R b) (arr b.m z).2 = f
        rw [ez, fst_eq E hfn (mem_tog.mpr ⟨hyn, hend y hyn hy, hy⟩)]
        exact hff
/-! there is an end -/
theorem some_end {n : Nat} {r : Nat → Nat → Bool} (E : Eqv n r) : ∀ (k s : Nat), s < n → ((List.range n).filter (r s)).length ≤ k → ∃ t, t < n ∧ outs n r t = false
  | 0, s, hs, h => by
    have : 0 < ((List.range n).filter (r s)).length := List.length_pos_of_mem (List.mem_filter.mpr ⟨List.mem_range.mpr hs, E.rf s hs⟩)
    omega
  | k + 1, s, hs, h => by
    cases e : outs n r s with
    | false => exact ⟨s, hs, e⟩
    | true =>
      obtain ⟨t, ht, h2⟩ := List.any_eq_true.mp e
      have ht := List.mem_range.mp ht
      rw [Bool.and_eq_true] at h2
      have hts : r t s = false := by
        cases z : r t s with
        | false => rfl
        | true => rw [z] at h2; cases h2.2
      have lt : ((List.range n).filter (r t)).length < ((List.range n).filter (r s)).length :=
        filter_lt (fun u hu hr => E.tr s t u hs ht (List.mem_range.mp hu) h2.1 hr) ⟨s, List.mem_range.mpr hs, E.rf s hs, hts⟩
      exact some_end E k t ht (by omega)
theorem need_pos {n : Nat} {r : Nat → Nat → Bool} (E : Eqv n r) (h0 : 0 < n) (h : (fsts n r).length ≠ 1) : 0 < need n r := by
  unfold need
  rw [if_neg h]
  obtain ⟨t, ht, ho⟩ := some_end E _ 0 h0 (Nat.le_refl _)
  obtain ⟨f1, f2, f3⟩ := mem_tog.mp (fst_mem E ht)
  have hno : outs n r (fst n r t) = false := by
    cases z : outs n r (fst n r t) with
    | false => rfl
    | true =>
      obtain ⟨u, hu, h2⟩ := List.any_eq_true.mp z
      have hu := List.mem_range.mp hu
      rw [Bool.and_eq_true] at h2
      have q := outs_no (r := r) (s := t) (by rw [ho]; rfl) u hu (E.tr t _ u ht f1 hu f2 h2.1)
      have q2 := E.tr u t _ hu ht f1 q f2
      rw [q2] at h2
      cases h2.2
  have hm : fst n r t ∈ (fsts n r).filter fun s => !(outs n r s) := List.mem_filter.mpr ⟨mem_fsts.mpr ⟨f1, fst_fst E ht⟩, by rw [hno]; rfl⟩
  have := List.length_pos_of_mem hm
  exact Nat.lt_of_lt_of_le this (Nat.le_max_left _ _)
theorem need_firm {b : Abs} (hb : In b b.ties) (h0 : 0 < b.size) : b.firm = !(decide (0 < need b.size (R b))) := by
  have ho := arrOk_of (a := b) hb
  rw [firm_eq ho h0]
  by_cases h : (fsts b.size (R b)).length = 1
  · rw [decide_eq_true h]
    unfold need
    rw [if_pos h]
    rfl
  · rw [decide_eq_false h, decide_eq_true (need_pos (eqv_of ho) h0 h)]
    rfl
/-! a useless tie -/
theorem firm_drop {b : Abs} {x : Nat × Nat × Nat} {s : List (Nat × Nat × Nat)} (hb : In b b.ties) (hx : x.1 < b.m ∧ x.2.1 < b.n ∧ x.2.2 < 2) (hs : In b s) (h0 : 0 < b.size) (hr : R b (arr b.m x).1 (arr b.m x).2 = true) (hf : (plus b (x :: s)).firm = true) : (plus b s).firm = true := by
  have ho := arrOk_of (a := b) hb
  have o1 := arrOk_of (a := plus b s) (plus_in hb hs)
  have o2 := arrOk_of (a := plus b (x :: s)) (plus_in hb fun y hy => by
    rcases List.mem_cons.mp hy with rfl | hy
    · exact hx
    · exact hs y hy)
  refine (firm_all (a := plus b s) h0).mpr fun u v hu hv => (R_iff o1 hu).mpr ?_
  have p := (R_iff o2 hu).mp ((firm_all (a := plus b (x :: s)) h0).mp hf u v hu hv)
  refine p.sub fun y z hyz => ?_
  rw [plus_arrows] at hyz ⊢
  rcases List.mem_append.mp hyz with h | h
  · exact Path.one (List.mem_append.mpr (.inl h))
  · rw [List.map_cons] at h
    rcases List.mem_cons.mp h with h | h
    · have q := (R_iff ho (arr_in hx).1).mp hr
      rw [← h] at q
      exact q.mono fun w hw => List.mem_append.mpr (.inl hw)
    · exact Path.one (List.mem_append.mpr (.inr h))
/-! the search -/
def floop (g : Abs → List (Nat × Nat × Nat) → Option (List (Nat × Nat × Nat))) (b : Abs) : List (Nat × Nat × Nat) → Option (List (Nat × Nat × Nat))
  | [] => none
  | x :: l => if R b (arr b.m x).1 (arr b.m x).2 = true then floop g b l else (match g (plus b [x]) l with
    | some r => some (x :: r)
    | none => floop g b l)
def fos : Nat → Abs → List (Nat × Nat × Nat) → Option (List (Nat × Nat × Nat))
  | 0, b, _ => if 0 < need b.size (R b) then none else some []
  | k + 1, b, l => if k + 1 < need b.size (R b) then none else floop (fos k) b l
theorem mem_sets {α : Type} : ∀ {l s : List α}, s.Sublist l → s ∈ sets s.length l
  | l, [], _ => by rw [show ([] : List α).length = 0 from rfl, sets_zero]; simp
  | _, x :: s, h => by
    cases h with
    | cons y h' => exact List.mem_append.mpr (.inr (mem_sets h'))
    | cons_cons _ h' => exact List.mem_append.mpr (.inl (List.mem_map_of_mem (mem_sets h')))
theorem fos_eq (q : Nat × Nat × Nat → Bool) : ∀ (k : Nat) (b : Abs) (l : List (Nat × Nat × Nat)), In b b.ties → 0 < b.size → In b l → (∀ x, x ∈ l → q x = false → R b (arr b.m x).1 (arr b.m x).2 = true) →
    (∀ s : List (Nat × Nat × Nat), s.Sublist (l.filter q) → s.length < k → (plus b s).firm = false) → fos k b l = (sets k (l.filter q)).find? fun s => (plus b s).firm
  | 0, b, l, hb, h0, hl, hq, H => by
    rw [sets_zero, List.find?_cons, plus_nil, need_firm hb h0]
    unfold fos
    by_cases h : 0 < need b.size (R b)
    · rw [if_pos h, decide_eq_true h]
      rfl
    · rw [if_neg h, decide_eq_false h]
      rfl
  | k + 1, b, l, hb, h0, hl, hq, H => by
    unfold fos
    by_cases h : k + 1 < need b.size (R b)
    · rw [if_pos h]
      symm
      rw [List.find?_eq_none]
      intro s hs hf
      obtain ⟨h1, h2⟩ := sets_mem _ _ _ hs
      have := lt_need hb (fun x hx => hl x (List.mem_filter.mp (h2.subset hx)).1) h0 hf
      omega
    · rw [if_neg h]
      clear h
      induction l with
      | nil => rfl
      | cons x l ih =>
        have hxw := hl x (by simp)
        have hlw : In b l := fun y hy => hl y (List.mem_cons.mpr (.inr hy))
        have hql : ∀ y, y ∈ l → q y = false → R b (arr b.m y).1 (arr b.m y).2 = true := fun y hy => hq y (List.mem_cons.mpr (.inr hy))
        have hfw : In b (l.filter q) := fun y hy => hlw y (List.mem_filter.mp hy).1
        unfold floop
        by_cases hr : R b (arr b.m x).1 (arr b.m x).2 = true
        · rw [if_pos hr]
          cases e : q x with
          | false =>
            rw [List.filter_cons, e, if_neg Bool.false_ne_true] at H ⊢
            exact ih hlw hql H
          | true =>
            rw [List.filter_cons, e, if_pos rfl] at H ⊢
            rw [ih hlw hql fun s hs hk => H s (hs.cons x) hk, sets_find]
            have no : (sets k (l.filter q)).find? (fun s => (plus b (x :: s)).firm) = none := by
              rw [List.find?_eq_none]
              intro s hs hf
              obtain ⟨h1, h2⟩ := sets_mem _ _ _ hs
              have f1 := firm_drop hb hxw (fun y hy => hfw y (h2.subset hy)) h0 hr hf
              rw [H s (h2.cons x) (by omega)] at f1
              cases f1
            rw [no]
            rfl
        · rw [if_neg hr]
          have e : q x = true := by
            cases e : q x with
            | true => rfl
            | false => exact absurd (hq x (by simp) e) hr
          rw [List.filter_cons, e, if_pos rfl] at H ⊢
          rw [sets_find, ih hlw hql fun s hs hk => H s (hs.cons x) hk]
          have hb' : In (plus b [x]) (plus b [x]).ties := plus_in hb fun y hy => by simp at hy; subst hy; exact hxw
          have IH := fos_eq q k (plus b [x]) l hb' h0 hlw (fun y hy hn => by
            show R (plus b [x]) (arr b.m y).1 (arr b.m y).2 = true
            rw [R_snoc hb hxw (arr_in (hlw y hy)).1]
            show (R b (arr b.m y).1 (arr b.m y).2 || _) = true
            rw [hql y hy hn]
            rfl) (fun s hs hk => by
            rw [plus_cons]
            exact H (x :: s) (hs.cons_cons x) (by rw [List.length_cons]; omega))
          rw [IH]
          simp only [plus_cons]
          cases (sets k (l.filter q)).find? (fun s => (plus b (x :: s)).firm) with
          | none => rfl
          | some r => rfl
/-- put, size by size -/
def pput (a : Abs) (k : Nat) : Option (List (Nat × Nat × Nat)) := (sets k (missing a)).find? fun s => (plus a s).firm
theorem pput_low {a : Abs} (h : Inv a) {k : Nat} (hk : k < need a.size (R a)) : pput a k = none := by
  unfold pput
  rw [List.find?_eq_none]
  intro s hs hf
  obtain ⟨h1, h2⟩ := sets_mem _ _ _ hs
  have := lt_need (b := a) (s := s) h.ok (fun x hx => mem_all3.mp (List.mem_filter.mp (h2.subset hx)).1) h.pos hf
  omega
theorem pput_fos {a : Abs} (h : Inv a) {k : Nat} (hk : ∀ j, j < k → pput a j = none) : fos k a a.all3 = pput a k := by
  refine fos_eq (fun x => !(a.has x.1 x.2.1 x.2.2)) k a a.all3 h.ok h.pos (fun x hx => mem_all3.mp hx) (fun x hx hn => ?_) (fun s hs hl => ?_)
  · have hh : a.has x.1 x.2.1 x.2.2 = true := by
      cases e : a.has x.1 x.2.1 x.2.2 with
      | true => rfl
      | false => rw [e] at hn; cases hn
    have hm := has_iff.mp hh
    refine (R_iff h.arr (arr_in (h.ok _ hm)).1).mpr (Path.one ?_)
    rw [arrows_eq]
    exact List.mem_map_of_mem (f := arr a.m) hm
  · have z := hk s.length hl
    unfold pput at z
    rw [List.find?_eq_none] at z
    exact Bool.eq_false_iff.mpr (z s (mem_sets hs))
theorem find_range {α : Type} (f : Nat → Option α) : ∀ {n k : Nat} {r : α}, k < n → (∀ j, j < k → f j = none) → f k = some r → (List.range n).findSome? f = some r
  | n + 1, k, r, hk, h1, h2 => by
    rw [List.range_succ, List.findSome?_append]
    by_cases e : k = n
    · subst e
      have z : (List.range k).findSome? f = none := by
        rw [List.findSome?_eq_none_iff]
        exact fun j hj => h1 j (List.mem_range.mp hj)
      rw [z, List.findSome?_cons, h2]
      rfl
    · rw [find_range f (by omega) h1 h2]
      rfl
theorem put_some {a : Abs} {k : Nat} {r : List (Nat × Nat × Nat)} (hk : k < 5) (h1 : ∀ j, j < k → pput a j = none) (h2 : pput a k = some r) : a.put = some r := by
  rw [put_eq]
  exact find_range (pput a) hk h1 h2
theorem put_none {a : Abs} (h1 : ∀ j, j < 5 → pput a j = none) : a.put = none := by
  rw [put_eq, List.findSome?_eq_none_iff]
  exact fun j hj => h1 j (List.mem_range.mp hj)
end TW

end

section
set_option Elab.async false
set_option linter.all false
set_option maxRecDepth 100000
set_option maxHeartbeats 4000000
namespace TR
open PySem PySem.Spec PyProof.Rows L2
open AutoSeq1 (wpAny_loadPart')
open MeetsSeq MeetsSeq2 MeetsSeq3 SeqRoads2
/-! ### list.remove where equality hangs on the heap -/
theorem rem_loop (l : Addr) (us : Array Value) (c : Nat) (x : Value) (e : Value → Bool) (j : Nat) (hj : j < us.size) (yes : e us[j] = true) (hz : us.size ≤ sizeLine) (k : Nat) :
    ∀ i : Nat, j - i = k → i ≤ j → (∀ m (hm : m < us.size), i ≤ m → m < j → e us[m] = false) →
      Meets (Builtin.«list.remove.loop» ⟨[.ref l, x, rawInt i], []⟩)
        (fun A R s => s.heap.get? l = some { cls := .type "list", dict := none, data := .seq us c, slots := #[] } ∧ (∀ y, y ∈ us → SeqAt.EqAt A.in1 s y x (e y)) ∧
          R (.ok (.ret .none)) { s with heap := s.heap.update l (Obj.mapSeq fun zs => zs.eraseIdxIfInBounds j) }) := by
  induction k with
  | zero =>
    intro i h0 h1 no prog w A R s h
    obtain ⟨hp, g, d, tk, os⟩ := s
    obtain ⟨hl, he, h⟩ := h
    obtain rfl : i = j := by omega
    wp_walk using wpAny_loadPart' hl
    rw [show us[((i : Nat) : Int).toNat]? = some us[i] by simp [hj]]
    refine wpAny_bind (he _ (Array.getElem_mem hj) prog w _ _ ?_)
    rw [yes]
    have z2 : (us.eraseIdxIfInBounds i).size ≤ sizeLine + 1 := Nat.le_trans (size_erased us _) (by omega)
    wp_walk using (wpAny_updateSeq hl rfl (hz := hz) (_hz' := z2)), wpAny_loadPart' hl
    simpa using h
  | succ k ih =>
    intro i h0 h1 no prog w A R s h
    obtain ⟨hp, g, d, tk, os⟩ := s
    obtain ⟨hl, he, h⟩ := h
    have hi : i < us.size := by omega
    wp_walk using wpAny_loadPart' hl
    rw [show us[((i : Nat) : Int).toNat]? = some us[i] by simp [hi]]
    refine wpAny_bind (he _ (Array.getElem_mem hi) prog w _ _ ?_)
    rw [no i hi (Nat.le_refl _) (by omega)]
    wp_walk
    rw [show ((i : Int) + 1) = ((i + 1 : Nat) : Int) by push_cast; rfl]
    refine ⟨plainId_quiet plain_remove_loop _, codeAny_builtin entry_remove_loop ?_⟩
    rw [Around.under_plainId plain_remove_loop _]
    exact ih (i + 1) (by omega) (by omega) (fun m hm q1 q2 => no m hm (by omega) q2) prog w A R _ ⟨hl, he, h⟩
theorem rem_list (l : Addr) (us : Array Value) (c : Nat) (x : Value) (e : Value → Bool) (j : Nat) (hj : j < us.size) (yes : e us[j] = true) (no : ∀ m (hm : m < us.size), m < j → e us[m] = false) (hz : us.size ≤ sizeLine) :
    Meets (Builtin.«list.remove» ⟨[.ref l, x], []⟩)
      (fun A R s => s.heap.get? l = some { cls := .type "list", dict := none, data := .seq us c, slots := #[] } ∧ (∀ y, y ∈ us → SeqAt.EqAt A.in1 s y x (e y)) ∧
        R (.ok (.ret .none)) { s with heap := s.heap.update l (Obj.mapSeq fun zs => zs.eraseIdxIfInBounds j) }) := by
  intro prog w A R s h
  obtain ⟨hp, g, d, tk, os⟩ := s
  obtain ⟨hl, he, h⟩ := h
  wp_walk using wpAny_loadPart' hl
  refine ⟨plainId_quiet plain_remove_loop _, codeAny_builtin entry_remove_loop ?_⟩
  rw [Around.under_plainId plain_remove_loop _]
  exact rem_loop l us c x e j hj yes hz _ 0 rfl (Nat.zero_le _) (fun m hm _ q => no m hm q) prog w A R _ ⟨hl, he, h⟩
/-! ### tuples of ints are equal if their ints are -/
def tupIs (H : Hp) (is : List Int) (u : Value) : Bool := match u with
  | .ref b => (match H b with | some (.tup xs) => decide (xs = is.map V.int) | _ => false)
  | _ => false
theorem map_int_inj : ∀ {js is : List Int}, js.map V.int = is.map V.int → js = is
  | [], [], _ => rfl
  | [], _ :: _, h => by cases h
  | _ :: _, [], h => by cases h
  | a :: js, b :: is, h => by
    rw [List.map_cons, List.map_cons] at h
    injection h with h1 h2
    injection h1 with h1
    rw [h1, map_int_inj h2]
theorem erase_map {α β : Type} (f : α → β) : ∀ (l : List α) (j : Nat), (l.map f).eraseIdx j = (l.eraseIdx j).map f
  | [], _ => rfl
  | _ :: _, 0 => rfl
  | a :: l, j + 1 => by
    show f a :: (l.map f).eraseIdx j = f a :: (l.eraseIdx j).map f
    rw [erase_map f l j]
theorem tupIs_of {H : Hp} {b : Addr} {is js : List Int} (h : H b = some (.tup (js.map V.int))) : tupIs H is (.ref b) = decide (js = is) := by
  show (match H b with | some (.tup xs) => decide (xs = is.map V.int) | _ => false) = decide (js = is)
  rw [h]
  show decide (js.map V.int = is.map V.int) = decide (js = is)
  by_cases e : js = is
  · subst e; rw [decide_eq_true rfl, decide_eq_true rfl]
  · rw [decide_eq_false e, decide_eq_false fun q => e ?_]
    exact map_int_inj q
theorem ints_eq : ∀ {js is : List Int}, (((List.range (min js.length is.length)).all fun j => decide (js[j]? = is[j]?)) && js.length == is.length) = decide (js = is)
  | js, is => by
    by_cases e : js = is
    · subst e
      rw [decide_eq_true rfl, beq_self_eq_true, Bool.and_true, List.all_eq_true]
      intro j _
      exact decide_eq_true rfl
    · rw [decide_eq_false e]
      by_cases hl : js.length = is.length
      · rw [Bool.and_eq_false_iff]
        refine .inl (Bool.eq_false_iff.mpr fun h => e ?_)
        rw [List.all_eq_true] at h
        refine List.ext_getElem? fun j => ?_
        by_cases hj : j < js.length
        · exact of_decide_eq_true (h j (List.mem_range.mpr (by omega)))
        · rw [List.getElem?_eq_none (by omega), List.getElem?_eq_none (by omega)]
      · rw [beq_eq_false_iff_ne.mpr hl, Bool.and_false]
section
variable {X : Cx} {pins : List (Addr × Obj)} {σ : L2.St} {H : Hp} {s : Shared}
theorem vals_int : ∀ {js : List Int} {us : List Value}, Vals (js.map V.int) us → ∀ j : Nat, ∀ hj : j < us.length, ∃ n t, js[j]? = some n ∧ us[j] = Value.int n t
  | [], _, .nil, j, hj => absurd hj (Nat.not_lt_zero _)
  | n :: js, u :: us, .cons r _, 0, _ => by
    obtain ⟨t, e⟩ := r
    exact ⟨n, t, rfl, e⟩
  | n :: js, u :: us, .cons _ t, j + 1, hj => by
    obtain ⟨m, t', h1, h2⟩ := vals_int (js := js) (us := us) t j (Nat.lt_of_succ_lt_succ hj)
    exact ⟨m, t', h1, h2⟩
theorem eq_tups {A : Around} {a b : Addr} {is js : List Int} (hu : A.units < cLine) (I : Inv X pins σ H s) (ha : H a = some (.tup (is.map V.int))) (hb : H b = some (.tup (js.map V.int))) : SeqAt.EqAt A s (.ref b) (.ref a) (tupIs H is (.ref b)) := by
  rw [tupIs_of hb]
  by_cases hab : b = a
  · subst hab
    rw [ha] at hb
    have e : js = is := by
      injection hb with hb
      injection hb with hb
      exact (map_int_inj hb).symm
    rw [decide_eq_true e]
    exact SeqAt.EqAt.same _
  · refine SeqAt.EqAt.of_refs hab ?_
    obtain ⟨us, rb, tb, _⟩ := I.tuple (SqT.of (K := X.K) hb)
    obtain ⟨vs, ra, ta, _⟩ := I.tuple (SqT.of (K := X.K) ha)
    have lb : us.toArray.size = js.length := by rw [List.size_toArray, ← rb.length, List.length_map]
    have la : vs.toArray.size = is.length := by rw [List.size_toArray, ← ra.length, List.length_map]
    have q := SeqAt.RcAt.tuples (A := A) (s := s) (e := fun j => decide (js[j]? = is[j]?)) tb ta hu fun j h1 h2 => by
      obtain ⟨n, t, e1, e2⟩ := vals_int rb j (by simpa using h1)
      obtain ⟨m, t', e3, e4⟩ := vals_int ra j (by simpa using h2)
      show SeqAt.EqAt _ _ us[j] vs[j] _
      rw [e2, e4, e1, e3]
      have z : decide (some n = some m) = (n == m) := by
        by_cases y : n = m
        · subst y; rw [decide_eq_true rfl, beq_self_eq_true]
        · rw [decide_eq_false (fun x => y (Option.some.inj x)), beq_eq_false_iff_ne.mpr y]
      rw [z]
      exact SeqAt.EqAt.int_int n t m t'
    rw [lb, la, ints_eq] at q
    exact q
end
/-- a list of tuples of ints -/
def TupsAt (H : Hp) (l : Addr) (as : List Addr) (tss : List (List Int)) : Prop := H l = some (.lst (as.map V.ref)) ∧ as.length = tss.length ∧ ∀ (i : Nat) (js : List Int), tss[i]? = some js → ∃ a, as[i]? = some a ∧ H a = some (.tup (js.map V.int))
theorem vals_ref : ∀ {as : List Addr} {us : List Value}, Vals (as.map V.ref) us → us = as.map Value.ref
  | [], _, .nil => rfl
  | a :: as, u :: us, .cons r t => by
    have e : u = Value.ref a := r
    rw [e, vals_ref t]
    rfl
theorem TupsAt.at_ {H : Hp} {l : Addr} {as : List Addr} {tss : List (List Int)} (T : TupsAt H l as tss) {i : Nat} {a : Addr} (h : as[i]? = some a) : ∃ js, tss[i]? = some js ∧ H a = some (.tup (js.map V.int)) := by
  obtain ⟨_, h2, h3⟩ := T
  have hi : i < tss.length := by
    have := (List.getElem?_eq_some_iff.mp h).1
    omega
  obtain ⟨b, e1, e2⟩ := h3 i _ (List.getElem?_eq_getElem hi)
  rw [h] at e1
  cases e1
  exact ⟨_, List.getElem?_eq_getElem hi, e2⟩
theorem any_tups {H : Hp} {is : List Int} : ∀ {as : List Addr} {tss : List (List Int)}, as.length = tss.length → (∀ (i : Nat) (js : List Int), tss[i]? = some js → ∃ a, as[i]? = some a ∧ H a = some (.tup (js.map V.int))) → (as.map Value.ref).any (tupIs H is) = decide (is ∈ tss)
  | [], [], _, _ => rfl
  | [], _ :: _, h, _ => by cases h
  | _ :: _, [], h, _ => by cases h
  | a :: as, js :: tss, hl, h => by
    obtain ⟨b, e1, e2⟩ := h 0 js rfl
    have e : a = b := Option.some.inj e1
    subst e
    rw [List.map_cons, List.any_cons, tupIs_of e2, any_tups (as := as) (tss := tss) (by simpa using hl) (fun i ks q => h (i + 1) ks q)]
    by_cases z : js = is
    · subst z; simp
    · have z' : ¬ is = js := fun q => z q.symm
      by_cases y : is ∈ tss <;> simp [z, z', y]
def rInT (neg : Bool) : R2 := fun x y H Q => ∃ (a l : Addr) (is : List Int) (as : List Addr) (tss : List (List Int)), x = .ref a ∧ y = .ref l ∧ H a = some (.tup (is.map V.int)) ∧ TupsAt H l as tss ∧ Q (.bl (if neg = true then !(decide (is ∈ tss)) else decide (is ∈ tss))) H
section
variable {X : Cx}
theorem op_inT (hu : X.A.units + 1 < cLine) : OpR X (compareOp .In) (rInT false) := by
  intro pins s σ H x y v u Q I rx ry h
  obtain ⟨a, l, is, as, tss, rfl, rfl, ha, T, q⟩ := h
  cases rx
  cases ry
  obtain ⟨its, r, pl, _⟩ := I.list (SqL.of (K := X.K) T.1)
  have ei := vals_ref r
  subst ei
  refine SeqAt.in_listAt (tupIs H is) pl.isList (fun z hz => ?_) ⟨.bl _, H, I, rfl, ?_⟩
  · obtain ⟨b, hb, rfl⟩ := List.mem_map.mp (show z ∈ as.map Value.ref by simpa using hz)
    obtain ⟨i, hi⟩ := List.getElem?_of_mem hb
    obtain ⟨js, _, hjs⟩ := T.at_ hi
    exact eq_tups hu I ha hjs
  · rw [show (as.map Value.ref).toArray.any (tupIs H is) = (as.map Value.ref).any (tupIs H is) by simp, any_tups T.2.1 T.2.2]
    exact q
theorem op_notInT (hu : X.A.units + 1 < cLine) : OpR X (compareOp .NotIn) (rInT true) := by
  intro pins s σ H x y v u Q I rx ry h
  obtain ⟨a, l, is, as, tss, rfl, rfl, ha, T, q⟩ := h
  cases rx
  cases ry
  obtain ⟨its, r, pl, _⟩ := I.list (SqL.of (K := X.K) T.1)
  have ei := vals_ref r
  subst ei
  refine SeqAt.notIn_listAt (tupIs H is) pl.isList (fun z hz => ?_) ⟨.bl _, H, I, rfl, ?_⟩
  · obtain ⟨b, hb, rfl⟩ := List.mem_map.mp (show z ∈ as.map Value.ref by simpa using hz)
    obtain ⟨i, hi⟩ := List.getElem?_of_mem hb
    obtain ⟨js, _, hjs⟩ := T.at_ hi
    exact eq_tups hu I ha hjs
  · rw [show (as.map Value.ref).toArray.any (tupIs H is) = (as.map Value.ref).any (tupIs H is) by simp, any_tups T.2.1 T.2.2]
    exact q
/-- xs.remove(t): t is there, first at j -/
def rRemove : V → List V → Hp → VK → Prop := fun x vs H Q => ∃ (a l : Addr) (is : List Int) (as : List Addr) (tss : List (List Int)) (j : Nat), x = .ref l ∧ vs = [.ref a] ∧ H a = some (.tup (is.map V.int)) ∧ TupsAt H l as tss ∧ tss[j]? = some is ∧ (∀ m, m < j → tss[m]? ≠ some is) ∧ Q .non (L2.upd H l (.lst ((as.eraseIdx j).map V.ref)))
theorem mt_remove (hu : X.A.units + 1 < cLine) : MtR X "list.remove" rRemove := by
  intro pins s σ H x vs v us Q I rx rv h
  obtain ⟨a, l, is, as, tss, j, rfl, rfl, ha, T, hj, hno, q⟩ := h
  cases rx
  obtain ⟨u, rfl, ru⟩ := rv.one
  cases ru
  obtain ⟨z, its, n, r, hl, e⟩ := I.lstM T.1
  have ei := vals_ref r
  subst ei
  have hjl : j < as.length := by
    have := (List.getElem?_eq_some_iff.mp hj).1
    have := T.2.1
    omega
  have val : ∀ m (hm : m < as.length), ∃ js, tss[m]? = some js ∧ tupIs H is (Value.ref as[m]) = decide (js = is) := fun m hm => by
    obtain ⟨js, h1, h2⟩ := T.at_ (List.getElem?_eq_getElem hm)
    exact ⟨js, h1, tupIs_of h2⟩
  refine call_meets PySem.F.slot_list_remove ⟨_, e, rfl⟩ PySem.F.entry_list_remove (PySem.F.args_list_remove_2 _ _)
    (rem_list l (as.map Value.ref).toArray n (.ref a) (tupIs H is) j (by simpa using hjl) ?_ (fun m hm hlt => ?_) (by rw [List.size_toArray]; omega)) ⟨e, fun y hy => ?_, ?_⟩
  · obtain ⟨js, h1, h2⟩ := val j hjl
    rw [hj] at h1
    cases h1
    simpa using h2
  · have hm' : m < as.length := by simpa using hm
    obtain ⟨js, h1, h2⟩ := val m hm'
    have ne : js ≠ is := fun q => hno m hlt (by rw [h1, q])
    rw [decide_eq_false ne] at h2
    simpa using h2
  · obtain ⟨b, hb, rfl⟩ := List.mem_map.mp (show y ∈ as.map Value.ref by simpa using hy)
    obtain ⟨i, hi⟩ := List.getElem?_of_mem hb
    obtain ⟨js, _, hjs⟩ := T.at_ hi
    exact eq_tups hu I ha hjs
  · refine ⟨.non, _, I.lset (its' := (as.map Value.ref).eraseIdx j) T.1 e ?_ ?_ ?_, rfl, q⟩
    · show (as.map Value.ref).toArray.eraseIdxIfInBounds j = ((as.map Value.ref).eraseIdx j).toArray
      rw [List.eraseIdxIfInBounds_toArray]
    · have r2 := Vals.eraseIdx j r
      rw [erase_map V.ref] at r2
      exact r2
    · rw [List.length_map] at z ⊢
      have := len_erase as j
      omega
/-- xs.index(t): t is there, first at j -/
def rIndexT : V → List V → Hp → VK → Prop := fun x vs H Q => ∃ (a l : Addr) (is : List Int) (as : List Addr) (tss : List (List Int)) (j : Nat), x = .ref l ∧ vs = [.ref a] ∧ H a = some (.tup (is.map V.int)) ∧ TupsAt H l as tss ∧ tss[j]? = some is ∧ (∀ m, m < j → tss[m]? ≠ some is) ∧ Q (.int (j : Nat)) H
theorem mt_indexT (hu : X.A.units + 1 < cLine) : MtR X "list.index" rIndexT := by
  intro pins s σ H x vs v us Q I rx rv h
  obtain ⟨a, l, is, as, tss, j, rfl, rfl, ha, T, hj, hno, q⟩ := h
  cases rx
  obtain ⟨u, rfl, ru⟩ := rv.one
  cases ru
  obtain ⟨z, its, n, r, hl, e⟩ := I.lstM T.1
  have ei := vals_ref r
  subst ei
  have hjl : j < as.length := by
    have := (List.getElem?_eq_some_iff.mp hj).1
    have := T.2.1
    omega
  have val : ∀ m (hm : m < as.length), ∃ js, tss[m]? = some js ∧ tupIs H is (Value.ref as[m]) = decide (js = is) := fun m hm => by
    obtain ⟨js, h1, h2⟩ := T.at_ (List.getElem?_eq_getElem hm)
    exact ⟨js, h1, tupIs_of h2⟩
  have hline := sizeLine_eq
  have z' : as.length ≤ sizeLine := by rw [List.length_map] at z; exact z
  refine call_meets PySem.F.slot_list_index ⟨_, e, rfl⟩ PySem.F.entry_list_index (PySem.F.args_list_index_2 _ _)
    (SeqAt.list_indexAt l (as.map Value.ref).toArray n none #[] (.ref a) (tupIs H is) j (by simpa using hjl) (by omega) ?_ (fun m hm hlt => ?_)) ⟨e, fun y hy => ?_, ?_⟩
  · obtain ⟨js, h1, h2⟩ := val j hjl
    rw [hj] at h1
    cases h1
    simpa using h2
  · have hm' : m < as.length := by simpa using hm
    obtain ⟨js, h1, h2⟩ := val m hm'
    have ne : js ≠ is := fun q => hno m hlt (by rw [h1, q])
    rw [decide_eq_false ne] at h2
    simpa using h2
  · obtain ⟨b, hb, rfl⟩ := List.mem_map.mp (show y ∈ as.map Value.ref by simpa using hy)
    obtain ⟨i, hi⟩ := List.getElem?_of_mem hb
    obtain ⟨js, _, hjs⟩ := T.at_ hi
    exact eq_tups hu I ha hjs
  · exact ⟨.int (j : Nat), H, I.tok _, ⟨_, rfl⟩, q⟩
/-! ### == and != of two tuples of ints -/
theorem dp_ints {K : PySem.W.Frag} {H : Hp} : ∀ is : List Int, DpAll K H (is.map V.int) (is.map PyData.int)
  | [] => .nil
  | i :: is => .cons (.int i) (dp_ints is)
theorem eqv_ints : ∀ js is : List Int, PyData.eqvAll (js.map PyData.int) (is.map PyData.int) = decide (js = is)
  | [], [] => by simp [PyData.eqvAll]
  | [], _ :: _ => by simp [PyData.eqvAll]
  | _ :: _, [] => by simp [PyData.eqvAll]
  | j :: js, i :: is => by
    rw [List.map_cons, List.map_cons]
    simp only [PyData.eqvAll, PyData.eqv, eqv_ints js is]
    by_cases h1 : j = i
    · by_cases h2 : js = is <;> simp [h1, h2]
    · simp [h1]
def rEqT (neg : Bool) : R2 := fun x y H Q => ∃ (a b : Addr) (js is : List Int), x = .ref b ∧ y = .ref a ∧ H b = some (.tup (js.map V.int)) ∧ H a = some (.tup (is.map V.int)) ∧ SeqAt.shaped (.tuple (js.map PyData.int)) = true ∧ SeqAt.shaped (.tuple (is.map PyData.int)) = true ∧ Q (.bl (if neg = true then !(decide (js = is)) else decide (js = is))) H
theorem op_eqT (hu : X.A.units + 64 < cLine) : OpR X (compareOp .Eq) (rEqT false) := by
  intro pins s σ H x y v u Q I rx ry h
  obtain ⟨a, b, js, is, rfl, rfl, hb, ha, s1, s2, q⟩ := h
  refine op_eqD hu pins s σ H _ _ v u Q I rx ry ⟨.tuple (js.map PyData.int), .tuple (is.map PyData.int), .tup (SqT.of hb) (dp_ints js), .tup (SqT.of ha) (dp_ints is), s1, s2, ?_⟩
  rw [show PyData.eqv (.tuple (js.map PyData.int)) (.tuple (is.map PyData.int)) = decide (js = is) by rw [← eqv_ints]; simp [PyData.eqv]]
  exact q
theorem op_neT (hu : X.A.units + 64 < cLine) : OpR X (compareOp .NotEq) (rEqT true) := by
  intro pins s σ H x y v u Q I rx ry h
  obtain ⟨a, b, js, is, rfl, rfl, hb, ha, s1, s2, q⟩ := h
  refine op_neD hu pins s σ H _ _ v u Q I rx ry ⟨.tuple (js.map PyData.int), .tuple (is.map PyData.int), .tup (SqT.of hb) (dp_ints js), .tup (SqT.of ha) (dp_ints is), s1, s2, ?_⟩
  rw [show PyData.eqv (.tuple (js.map PyData.int)) (.tuple (is.map PyData.int)) = decide (js = is) by rw [← eqv_ints]; simp [PyData.eqv]]
  exact q
end
/-! ### a dict of the file's top, by written int keys -/
structure TopD (K : PySem.W.Frag) (mg : Str → Option Value) (x : Str) (kvs : List (Int × Value)) : Prop where
  ex : ∃ (d : Addr) (es : Array DictEntry) (ep : Nat), mg x = some (.ref d) ∧ K.lookup d = some ⟨.type "dict", none, .dict es ep, #[]⟩ ∧
    Paired (fun (e : DictEntry) (kv : Int × Value) => e.hash = hashInt kv.1 ∧ (∃ t, e.key = .int kv.1 t) ∧ e.val = kv.2) es.toList kvs
  nd : (kvs.map (·.1)).Nodup
theorem pairs_of {P : Program} {w : World} : ∀ {es : List DictEntry} {kvs : List (Int × Value)}, Paired (fun (e : DictEntry) (kv : Int × Value) => e.hash = hashInt kv.1 ∧ (∃ t, e.key = .int kv.1 t) ∧ e.val = kv.2) es kvs → Pairs (PySem.intKind P w) es kvs
  | _, _, .nil => .nil
  | _, _, .cons ⟨_, ⟨t, hk⟩, hv⟩ r => .cons (by rw [hk]; exact PySem.intKind_is P w _ t) hv (pairs_of r)
theorem keys_of {P : Program} {w : World} : ∀ {es : List DictEntry} {kvs : List (Int × Value)}, Paired (fun (e : DictEntry) (kv : Int × Value) => e.hash = hashInt kv.1 ∧ (∃ t, e.key = .int kv.1 t) ∧ e.val = kv.2) es kvs → ∀ e, e ∈ es → ∃ k, (PySem.intKind P w).is k e.key = true ∧ e.hash = (PySem.intKind P w).hash k
  | _, _, .nil, e, h => by cases h
  | _, _, .cons (b := kv) ⟨hh, ⟨t, hk⟩, _⟩ r, e, h => by
    rcases List.mem_cons.mp h with rfl | h
    · exact ⟨kv.1, by rw [hk]; exact PySem.intKind_is P w _ t, hh⟩
    · exact keys_of r e h
theorem TopD.dict {K : PySem.W.Frag} {mg : Str → Option Value} {x : Str} {kvs : List (Int × Value)} (D : TopD K mg x kvs) (P : Program) (w : World) : ∃ d, mg x = some (.ref d) ∧ ∀ h : Heap, K.In h → h.DictOf (PySem.intKind P w) d kvs := by
  obtain ⟨d, es, ep, h1, h2, h3⟩ := D.ex
  exact ⟨d, h1, fun h KX => ⟨_, es, ep, KX d _ h2, ⟨rfl, rfl, rfl⟩, rfl, fun e he => keys_of h3 e (by simpa using he), pairs_of h3, D.nd⟩⟩
def tTop (kvs : List (Int × Value)) (ty : TE) : TE := fun σ H Q => ty σ H fun y H1 => ∃ (k : Int) (u : Value) (v : V), y = .int k ∧ valueAt kvs k = some u ∧ RelV v u ∧ Q v H1
section
variable {X : Cx} {x : Str} {kvs : List (Int × Value)} {i e fe : Expr} {es : List Expr} {ty tf : TE} {t : TA} {p pos : Pos} {k : Nat}
theorem pe_top (D : TopD X.K X.mg x kvs) (hg : Gl X x) (hi : PE X i ty) (hs : NoSl i) (hd : (x == ("__debug__" : Str)) = false := by decide) : PE X (.Subscript (.Name x p) i pos) (tTop kvs ty) := by
  intro pins s σ H Q I h
  obtain ⟨d, hm, hD⟩ := D.dict X.prog X.w
  refine subD_of PySem.F.slot_dict_getitem.lookup hs (ld_glob I hg hm (thn (hi pins s σ H _ I h) fun iv s1 ⟨y, H1, I1, ry, q1⟩ => ?_) hd)
  obtain ⟨k, u, v, rfl, hv, rv, q⟩ := q1
  obtain ⟨t, rfl⟩ := ry
  have dd := hD s1.heap I1.kIn
  refine ⟨dd.typeIs, wpAny_getItem_of (k := k) (PySem.intKind_is X.prog X.w k t) dd.mapOf hv ?_⟩
  exact ⟨v, H1, I1.tok _, rv, q⟩
/-- a call of what an expression gives: one of the text's defs -/
def tCallS (P : Program) (w : World) (K : PySem.W.Frag) (mg : Str → Option Value) (base : Heap) (k : Nat) (tf : TE) (t : TA) : TE := fun σ H Q => tf σ H fun y H1 => ∃ (f : Addr) (fd : FuncData) (ps : List Str) (sp : Sp),
  y = .ref f ∧ FnOk P w K mg base CX0 k f fd ps sp ∧ PySem.W.keepIn K (.ref f) = true ∧ Binds K fd ps [] ∧ t σ H1 fun vs H2 => sp (vs ++ []) H2 Q E0
theorem pe_callS (hf : PE X fe tf) (hr : Room k X.A) (ha : PA X (e :: es) t)
    (hc : eval (.Call fe (e :: es) [] pos) X.env = (do callWith pos (← eval fe X.env) [] (backTo pos (starEach (e :: es) X.env)) (backToKw pos (keywordEach [] X.env))) := by rfl)
    (he : starEach (e :: es) X.env = (false, eval e X.env) :: starEach es X.env := by rfl) (hpl : (backTo pos (starEach es X.env)).any (·.1) = false := by rfl) :
    PE X (.Call fe (e :: es) [] pos) (tCallS X.prog X.w X.K X.mg X.base k tf t) := by
  intro pins s σ H Q I h
  rw [hc]
  refine wpAny_bind (thn (hf pins s σ H _ I h) fun u s1 ⟨y, H1, I1, ry, f, fd, ps, sp, ey, F, hk, hb, q1⟩ => ?_)
  subst ey
  cases ry
  refine PySem.W.callWith_K (h₀ := X.base) I.ok.mod.kin hk (thn (ha pos pins s1 σ H1 _ I1 q1) fun us s2 ⟨vs, H2, I2, r, q⟩ => ⟨I2.kIn, ?_⟩) he hpl
  exact run_fn F hr hb .nil pass0 I2 r q
end
/-! ### xs.extend(t), t a tuple -/
theorem ext_tup (l : Addr) (items : Array Value) (n : Nat) (b : Addr) (items2 : Array Value) (n2 : Nat) (dd : Option Addr) (sl : Array (Option Value)) (hs0 : ¬(!items.isEmpty && Builtin.List.listTooLong (items.size + items2.size)) = true) (hs1 : items.size ≤ sizeLine) (hs2 : items.size + items2.size ≤ sizeLine + 1) :
    Meets (Builtin.«list.extend» ⟨[.ref l, .ref b], []⟩) (fun _ R s => s.heap.get? l = some { cls := .type "list", dict := none, data := .seq items n, slots := #[] } ∧ s.heap.get? b = some { cls := .type "tuple", dict := dd, data := .seq items2 n2, slots := sl } ∧
      R (.ok (.ret Value.none)) { s with heap := s.heap.update l (Obj.mapSeq fun x => x ++ items2), toks := s.toks }) :=
  .of_wp fun prog w A R s h => by
    obtain ⟨hp, g, d, tk, os⟩ := s
    obtain ⟨hl, hb, h⟩ := h
    have f1 := AutoSeq1.idx_int
    have f2 := AutoSeq1.sub_tuple_tuple
    have f3 := AutoSeq1.sub_list_list
    have f4 := AutoSeq1.sub_tuple_list
    have f5 := AutoSeq1.sub_list_tuple
    have hz' : (items ++ items2).size ≤ sizeLine + 1 := by rw [Array.size_append]; exact hs2
    wp_walk using (wpAny_updateSeq hl rfl (hz := hs1) (_hz' := hz')), wpAny_loadPart' hl, wpAny_loadPart' hb
    exact ⟨_, rfl, h⟩
section
variable {X : Cx}
def rExtendT (K : PySem.W.Frag) : V → List V → Hp → VK → Prop := fun x vs H Q => ∃ l b xs zs, x = .ref l ∧ vs = [.ref b] ∧ H l = some (.lst xs) ∧ SqT K H b zs ∧ xs.length + zs.length ≤ sizeLine ∧ Q .non (L2.upd H l (.lst (xs ++ zs)))
theorem mt_extendT (K : PySem.W.Frag) (hK : X.K = K) : MtM X "list.extend" (rExtendT K) := by
  subst hK
  intro pins s σ H x vs v us Q I rx rv h
  obtain ⟨l, b, xs, zs, rfl, rfl, hH, hB, hz, q⟩ := h
  cases rx
  obtain ⟨u, rfl, ru⟩ := rv.one
  cases ru
  obtain ⟨z, its, n, r, hl, e⟩ := I.lstM hH
  obtain ⟨its2, r2, ⟨⟨oc, od, odt, osl⟩, e2, c2, n2, d2⟩, z2⟩ := I.tuple hB
  have c2 : oc = .type "tuple" := c2
  have d2 : odt = .seq its2.toArray n2 := d2
  subst c2 d2
  have hl2 := r2.length
  have hsz : its.toArray.size + its2.toArray.size ≤ sizeLine := by rw [List.size_toArray, List.size_toArray]; omega
  have hlong : ¬ (!its.toArray.isEmpty && Builtin.List.listTooLong (its.toArray.size + its2.toArray.size)) = true := by
    rw [notLongL hsz, Bool.and_false]
    exact Bool.false_ne_true
  refine call_meets F.slot_list_extend ⟨_, e, rfl⟩ F.entry_list_extend (F.args_list_extend_2 _ _)
    (ext_tup l its.toArray n b its2.toArray n2 od osl hlong (by rw [List.size_toArray]; omega) (by omega)) ⟨e, e2, ?_⟩
  refine ⟨.non, _, I.lset (its' := its ++ its2) hH e (by simp) (r.append r2) ?_, rfl, q⟩
  rw [List.length_append]
  omega
theorem inSeqK (K : PySem.W.Frag) (hK : X.K = K) : OpR X (compareOp .In) (rIn K false) := by
  subst hK
  exact op_in_seq
theorem slK (K : PySem.W.Frag) (hK : X.K = K) : SlR X (rSlL K) := by
  subst hK
  exact sl_list
theorem pi_zipK {e e2 : Expr} {ta : TA} {p pos tpos : Pos} {elts : List Expr} {kk : Nat} (K : PySem.W.Frag) (hK : X.K = K) (hg : Gl X "zip") (hm : X.mg "zip" = none) (ha : PA X [e, e2] ta)
    (hs : starEach [e, e2] X.env = (false, eval e X.env) :: starEach [e2] X.env := by rfl) (hpl : (backTo pos (starEach [e2] X.env)).any (·.1) = false := by rfl) :
    PI X (.Tuple elts kk tpos) (.Call (.Name "zip" p) [e, e2] [] pos) (iZip K ta) := by
  subst hK
  exact pi_zip hg hm ha hs hpl
theorem pi_enumK {e : Expr} {ta : TA} {p pos tpos : Pos} {elts : List Expr} {kk : Nat} (K : PySem.W.Frag) (hK : X.K = K) (hg : Gl X "enumerate") (hm : X.mg "enumerate" = none) (ha : PA X [e] ta) (hs : starEach [e] X.env = [(false, eval e X.env)] := by rfl) :
    PI X (.Tuple elts kk tpos) (.Call (.Name "enumerate" p) [e] [] pos) (iEnum K ta) := by
  subst hK
  exact pi_enum hg hm ha hs
end
/-! ### loops over enumerate(list), comprehensions over zip(list, list) -/
theorem for_enum {K : PySem.W.Frag} {a : Addr} {xs : List V} {g : TG} {tb : TS} {D : Ends} {σ : L2.St} {H : Hp} (Pv : Nat → L2.St → Hp → Prop) (h0 : Pv 0 σ H) (hl : ∀ i σ H, i ≤ xs.length → Pv i σ H → SqL K H a xs)
    (hs : ∀ i x σ H T, xs[i]? = some x → Pv i σ H → H T = none → g (.ref T) σ (L2.upd H T (.tup [.int (i : Nat), x])) fun σ2 H2 => tb { D with nx := Pv (i + 1), ct := Pv (i + 1), bk := D.nx } σ2 H2) (hd : ∀ σ H, Pv xs.length σ H → D.nx σ H) :
    ∃ W : Nat → Nat → L2.St → Hp → Prop, (∃ m, W 0 m σ H) ∧ ∀ i m σ H, W i m σ H →
      ((Ite K a).stop i H ∧ D.nx σ H) ∨ ((Ite K a).go i H ∧ ∃ N : L2.St → Hp → Prop, (∀ σ' H', N σ' H' → ∃ m', m' < m ∧ W (i + 1) m' σ' H') ∧ ∀ x H', (Ite K a).yld i H x H' → g x σ H' fun σ2 H2 => tb { D with nx := N, ct := N, bk := D.nx } σ2 H2) := by
  refine ⟨fun i m σ H => m = xs.length - i ∧ i ≤ xs.length ∧ Pv i σ H, ⟨xs.length, by simp, Nat.zero_le _, h0⟩, ?_⟩
  rintro i m σ H ⟨rfl, hi', p⟩
  have q := hl i σ H hi' p
  by_cases hlt : i < xs.length
  · refine .inr ⟨⟨xs, xs[i], q, by simp [hlt]⟩, Pv (i + 1), fun σ' H' p' => ⟨xs.length - (i + 1), by omega, rfl, hlt, p'⟩, fun x H' y => ?_⟩
    obtain ⟨T, x', rfl, hT, rfl, y⟩ := y
    exact hs i x' σ _ T (y xs q) p hT
  · have e : i = xs.length := by omega
    subst e
    exact .inl ⟨⟨xs, q, Nat.le_refl _⟩, hd σ H p⟩
theorem lc_zip {K : PySem.W.Frag} {a b : Addr} {xs ys : List V} {g : TG} {tt : TT} {te : TE} {vs : List Nat} {σ : L2.St} {H1 : Hp} {D : Addr} {Qd : Hp → Prop} (Pv : Nat → Hp → Prop) (hlen : xs.length = ys.length) (h0 : Pv 0 (L2.upd H1 D (.lst []))) (hl : ∀ i H, i ≤ xs.length → Pv i H → SqL K H a xs ∧ SqL K H b ys)
    (hs : ∀ i x y H T, xs[i]? = some x → ys[i]? = some y → Pv i H → H T = none → g (.ref T) (wipe σ vs) (L2.upd H T (.tup [x, y])) fun σ2 H2 => wipe σ2 vs = wipe σ vs ∧ tt σ2 H2 fun b H3 =>
      if b = true then te σ2 H3 fun y H4 => ∃ acc, H4 D = some (.lst acc) ∧ acc.length < sizeLine ∧ Pv (i + 1) (L2.upd H4 D (.lst (acc ++ [y]))) else Pv (i + 1) H3) (hd : ∀ H, Pv xs.length H → Qd H) :
    ∃ W : Nat → Nat → Hp → Prop, (∃ m, W 0 m (L2.upd H1 D (.lst []))) ∧ ∀ i m H, W i m H →
      ((Itz K a b).stop i H ∧ Qd H) ∨ ((Itz K a b).go i H ∧ ∃ Nx : Hp → Prop, (∀ H', Nx H' → ∃ m', m' < m ∧ W (i + 1) m' H') ∧ ∀ x H', (Itz K a b).yld i H x H' → g x (wipe σ vs) H' fun σ2 H2 => wipe σ2 vs = wipe σ vs ∧ tt σ2 H2 fun b H3 =>
        if b = true then te σ2 H3 fun y H4 => ∃ acc, H4 D = some (.lst acc) ∧ acc.length < sizeLine ∧ Nx (L2.upd H4 D (.lst (acc ++ [y]))) else Nx H3) := by
  refine ⟨fun i m H => m = xs.length - i ∧ i ≤ xs.length ∧ Pv i H, ⟨xs.length, by simp, Nat.zero_le _, h0⟩, ?_⟩
  rintro i m H ⟨rfl, hi, p⟩
  obtain ⟨q1, q2⟩ := hl i H hi p
  by_cases hlt : i < xs.length
  · have hlt2 : i < ys.length := by omega
    refine .inr ⟨⟨xs, ys, xs[i], ys[i], q1, q2, by simp [hlt], by simp [hlt2]⟩, Pv (i + 1), fun H' p' => ⟨xs.length - (i + 1), by omega, rfl, hlt, p'⟩, fun x H' y => ?_⟩
    obtain ⟨T, x', y', rfl, hT, rfl, y1, y2⟩ := y
    exact hs i x' y' _ T (y1 xs q1) (y2 ys q2) p hT
  · have e : i = xs.length := by omega
    subst e
    exact .inl ⟨⟨xs, ys, q1, q2, .inl (Nat.le_refl _)⟩, hd H p⟩
end TR

end

section
set_option Elab.async false
set_option linter.all false
set_option maxRecDepth 100000
set_option maxHeartbeats 4000000
namespace TP
open PySem PySem.Spec PyProof.Rows L2
def top (i : Nat) : Stmt := PySem.Challenge.pw_tiedwall_s01_answers.main.body.getD i (.Pass ⟨0, 0, 0, 0⟩)
abbrev s_passage : Stmt := top 1
abbrev s_met_from : Stmt := top 2
abbrev s_reach_table : Stmt := top 3
abbrev s_met_by_either : Stmt := top 4
abbrev s_table_with : Stmt := top 5
abbrev s_reached : Stmt := top 6
abbrev s_together : Stmt := top 7
abbrev s_first_of_part : Stmt := top 8
abbrev s_firsts : Stmt := top 9
abbrev s_leads_out : Stmt := top 10
abbrev s_is_led_to : Stmt := top 11
abbrev s_end_firsts : Stmt := top 12
abbrev s_start_firsts : Stmt := top 13
abbrev s_needed_at_least : Stmt := top 14
abbrev s_may_lean : Stmt := top 15
abbrev s_Wall_init : Stmt := inClass (top 18) 0
abbrev s_strip_count : Stmt := top 19
abbrev s_ties_without : Stmt := top 20
abbrev s_passages_by : Stmt := top 21
abbrev s_table_by : Stmt := top 22
abbrev s_table_of : Stmt := top 23
abbrev s_part_count : Stmt := top 24
abbrev s_has_square : Stmt := top 25
abbrev s_has_spot : Stmt := top 26
abbrev s_has_strip : Stmt := top 27
abbrev s_all_squares : Stmt := top 28
abbrev s_all_spots : Stmt := top 29
abbrev s_other_kind : Stmt := top 30
abbrev s_lean_count : Stmt := top 31
abbrev s_is_spare : Stmt := top 32
abbrev s_first_of_size : Stmt := top 34
abbrev s_fewest : Stmt := top 35
abbrev s_flat : Stmt := top 50
abbrev s_in_range : Stmt := top 51
abbrev s_as_number : Stmt := top 52
abbrev s_refusal_if_there : Stmt := top 53
abbrev s_refusal_if_missing : Stmt := top 54
abbrev s_begin : Stmt := top 55
abbrev s_tie : Stmt := top 56
abbrev s_free : Stmt := top 57
abbrev s_firm : Stmt := top 58
abbrev s_reach : Stmt := top 59
abbrev s_part : Stmt := top 60
abbrev s_parts : Stmt := top 61
abbrev s_ends : Stmt := top 62
abbrev s_leans : Stmt := top 63
abbrev s_all_leans : Stmt := top 64
abbrev s_lean : Stmt := top 65
abbrev s_turn : Stmt := top 66
abbrev s_spare : Stmt := top 67
abbrev s_spares : Stmt := top 68
abbrev s_put : Stmt := top 69
abbrev s_would : Stmt := top 70
abbrev s_falls : Stmt := top 71
abbrev s_stiff : Stmt := top 72
abbrev s_flip : Stmt := top 73
abbrev s_ties : Stmt := top 74
abbrev s_state : Stmt := top 75
abbrev s_behind_call : Stmt := top 78
abbrev s_answer_one : Stmt := top 79
abbrev s_answers : Stmt := top 80
theorem sc_passage : FnScope ["rows", "spot", "column_strip"] ["rows", "spot"] (defScope s_passage) := ⟨rfl, rfl, rfl, by decide +kernel, rfl, by decide +kernel, by decide +kernel⟩
theorem sc_met_from : FnScope ["count", "passages", "start", "met", "strip", "grown", "source", "target"] ["count", "passages", "start"] (defScope s_met_from) := ⟨rfl, rfl, rfl, by decide +kernel, rfl, by decide +kernel, by decide +kernel⟩
theorem sc_reach_table : FnScope ["count", "passages", "start"] ["count", "passages"] (defScope s_reach_table) := ⟨rfl, rfl, rfl, by decide +kernel, rfl, by decide +kernel, by decide +kernel⟩
theorem sc_met_by_either : FnScope ["line", "other", "here", "there"] ["line", "other"] (defScope s_met_by_either) := ⟨rfl, rfl, rfl, by decide +kernel, rfl, by decide +kernel, by decide +kernel⟩
theorem sc_table_with : FnScope ["table", "step", "onward", "line"] ["table", "step"] (defScope s_table_with) := ⟨rfl, rfl, rfl, by decide +kernel, rfl, by decide +kernel, by decide +kernel⟩
theorem sc_reached : FnScope ["table", "strip", "other"] ["table", "strip"] (defScope s_reached) := ⟨rfl, rfl, rfl, by decide +kernel, rfl, by decide +kernel, by decide +kernel⟩
theorem sc_together : FnScope ["table", "strip", "other"] ["table", "strip"] (defScope s_together) := ⟨rfl, rfl, rfl, by decide +kernel, rfl, by decide +kernel, by decide +kernel⟩
theorem sc_first_of_part : FnScope ["table", "strip", "other"] ["table", "strip"] (defScope s_first_of_part) := ⟨rfl, rfl, rfl, by decide +kernel, rfl, by decide +kernel, by decide +kernel⟩
theorem sc_firsts : FnScope ["table", "strip"] ["table"] (defScope s_firsts) := ⟨rfl, rfl, rfl, by decide +kernel, rfl, by decide +kernel, by decide +kernel⟩
theorem sc_leads_out : FnScope ["table", "strip", "other"] ["table", "strip"] (defScope s_leads_out) := ⟨rfl, rfl, rfl, by decide +kernel, rfl, by decide +kernel, by decide +kernel⟩
theorem sc_is_led_to : FnScope ["table", "strip", "other"] ["table", "strip"] (defScope s_is_led_to) := ⟨rfl, rfl, rfl, by decide +kernel, rfl, by decide +kernel, by decide +kernel⟩
theorem sc_end_firsts : FnScope ["table", "strip"] ["table"] (defScope s_end_firsts) := ⟨rfl, rfl, rfl, by decide +kernel, rfl, by decide +kernel, by decide +kernel⟩
theorem sc_start_firsts : FnScope ["table", "strip"] ["table"] (defScope s_start_firsts) := ⟨rfl, rfl, rfl, by decide +kernel, rfl, by decide +kernel, by decide +kernel⟩
theorem sc_needed_at_least : FnScope ["table"] ["table"] (defScope s_needed_at_least) := ⟨rfl, rfl, rfl, by decide +kernel, rfl, by decide +kernel, by decide +kernel⟩
theorem sc_may_lean : FnScope ["table", "rows", "spot", "step"] ["table", "rows", "spot"] (defScope s_may_lean) := ⟨rfl, rfl, rfl, by decide +kernel, rfl, by decide +kernel, by decide +kernel⟩
theorem sc_Wall_init : FnScope ["self"] ["self"] (defScope s_Wall_init) := ⟨rfl, rfl, rfl, by decide +kernel, rfl, by decide +kernel, by decide +kernel⟩
theorem sc_strip_count : FnScope ["wall"] ["wall"] (defScope s_strip_count) := ⟨rfl, rfl, rfl, by decide +kernel, rfl, by decide +kernel, by decide +kernel⟩
theorem sc_ties_without : FnScope ["wall", "spot", "other"] ["wall", "spot"] (defScope s_ties_without) := ⟨rfl, rfl, rfl, by decide +kernel, rfl, by decide +kernel, by decide +kernel⟩
theorem sc_passages_by : FnScope ["wall", "spots", "spot"] ["wall", "spots"] (defScope s_passages_by) := ⟨rfl, rfl, rfl, by decide +kernel, rfl, by decide +kernel, by decide +kernel⟩
theorem sc_table_by : FnScope ["wall", "spots"] ["wall", "spots"] (defScope s_table_by) := ⟨rfl, rfl, rfl, by decide +kernel, rfl, by decide +kernel, by decide +kernel⟩
theorem sc_table_of : FnScope ["wall"] ["wall"] (defScope s_table_of) := ⟨rfl, rfl, rfl, by decide +kernel, rfl, by decide +kernel, by decide +kernel⟩
theorem sc_part_count : FnScope ["wall"] ["wall"] (defScope s_part_count) := ⟨rfl, rfl, rfl, by decide +kernel, rfl, by decide +kernel, by decide +kernel⟩
theorem sc_has_square : FnScope ["wall", "row", "column"] ["wall", "row", "column"] (defScope s_has_square) := ⟨rfl, rfl, rfl, by decide +kernel, rfl, by decide +kernel, by decide +kernel⟩
theorem sc_has_spot : FnScope ["wall", "spot"] ["wall", "spot"] (defScope s_has_spot) := ⟨rfl, rfl, rfl, by decide +kernel, rfl, by decide +kernel, by decide +kernel⟩
theorem sc_has_strip : FnScope ["wall", "strip"] ["wall", "strip"] (defScope s_has_strip) := ⟨rfl, rfl, rfl, by decide +kernel, rfl, by decide +kernel, by decide +kernel⟩
theorem sc_all_squares : FnScope ["wall", "squares", "row", "column"] ["wall"] (defScope s_all_squares) := ⟨rfl, rfl, rfl, by decide +kernel, rfl, by decide +kernel, by decide +kernel⟩
theorem sc_all_spots : FnScope ["wall", "spots", "row", "column", "kind"] ["wall"] (defScope s_all_spots) := ⟨rfl, rfl, rfl, by decide +kernel, rfl, by decide +kernel, by decide +kernel⟩
theorem sc_other_kind : FnScope ["spot"] ["spot"] (defScope s_other_kind) := ⟨rfl, rfl, rfl, by decide +kernel, rfl, by decide +kernel, by decide +kernel⟩
theorem sc_lean_count : FnScope ["wall", "table", "spot"] ["wall", "table"] (defScope s_lean_count) := ⟨rfl, rfl, rfl, by decide +kernel, rfl, by decide +kernel, by decide +kernel⟩
theorem sc_is_spare : FnScope ["wall", "spot", "step", "others"] ["wall", "spot"] (defScope s_is_spare) := ⟨rfl, rfl, rfl, by decide +kernel, rfl, by decide +kernel, by decide +kernel⟩
theorem sc_first_of_size : FnScope ["table", "rows", "spots", "size", "place", "spot", "more", "rest"] ["table", "rows", "spots", "size"] (defScope s_first_of_size) := ⟨rfl, rfl, rfl, by decide +kernel, rfl, by decide +kernel, by decide +kernel⟩
theorem sc_fewest : FnScope ["table", "rows", "spots", "most", "size", "found"] ["table", "rows", "spots", "most"] (defScope s_fewest) := ⟨rfl, rfl, rfl, by decide +kernel, rfl, by decide +kernel, by decide +kernel⟩
theorem sc_flat : FnScope ["spots", "numbers", "spot"] ["spots"] (defScope s_flat) := ⟨rfl, rfl, rfl, by decide +kernel, rfl, by decide +kernel, by decide +kernel⟩
theorem sc_in_range : FnScope ["size"] ["size"] (defScope s_in_range) := ⟨rfl, rfl, rfl, by decide +kernel, rfl, by decide +kernel, by decide +kernel⟩
theorem sc_as_number : FnScope ["truth"] ["truth"] (defScope s_as_number) := ⟨rfl, rfl, rfl, by decide +kernel, rfl, by decide +kernel, by decide +kernel⟩
theorem sc_refusal_if_there : FnScope ["wall", "spot"] ["wall", "spot"] (defScope s_refusal_if_there) := ⟨rfl, rfl, rfl, by decide +kernel, rfl, by decide +kernel, by decide +kernel⟩
theorem sc_refusal_if_missing : FnScope ["wall", "spot"] ["wall", "spot"] (defScope s_refusal_if_missing) := ⟨rfl, rfl, rfl, by decide +kernel, rfl, by decide +kernel, by decide +kernel⟩
theorem sc_begin : FnScope ["wall", "given"] ["wall", "given"] (defScope s_begin) := ⟨rfl, rfl, rfl, by decide +kernel, rfl, by decide +kernel, by decide +kernel⟩
theorem sc_tie : FnScope ["wall", "given", "spot", "refusal"] ["wall", "given"] (defScope s_tie) := ⟨rfl, rfl, rfl, by decide +kernel, rfl, by decide +kernel, by decide +kernel⟩
theorem sc_free : FnScope ["wall", "given", "spot", "refusal"] ["wall", "given"] (defScope s_free) := ⟨rfl, rfl, rfl, by decide +kernel, rfl, by decide +kernel, by decide +kernel⟩
theorem sc_firm : FnScope ["wall", "given", "parts_now"] ["wall", "given"] (defScope s_firm) := ⟨rfl, rfl, rfl, by decide +kernel, rfl, by decide +kernel, by decide +kernel⟩
theorem sc_reach : FnScope ["wall", "given", "strips"] ["wall", "given"] (defScope s_reach) := ⟨rfl, rfl, rfl, by decide +kernel, rfl, by decide +kernel, by decide +kernel⟩
theorem sc_part : FnScope ["wall", "given", "strips"] ["wall", "given"] (defScope s_part) := ⟨rfl, rfl, rfl, by decide +kernel, rfl, by decide +kernel, by decide +kernel⟩
theorem sc_parts : FnScope ["wall", "given", "table", "strip"] ["wall", "given"] (defScope s_parts) := ⟨rfl, rfl, rfl, by decide +kernel, rfl, by decide +kernel, by decide +kernel⟩
theorem sc_ends : FnScope ["wall", "given", "table", "last", "foremost"] ["wall", "given"] (defScope s_ends) := ⟨rfl, rfl, rfl, by decide +kernel, rfl, by decide +kernel, by decide +kernel⟩
theorem sc_leans : FnScope ["wall", "given", "spot"] ["wall", "given"] (defScope s_leans) := ⟨rfl, rfl, rfl, by decide +kernel, rfl, by decide +kernel, by decide +kernel⟩
theorem sc_all_leans : FnScope ["wall", "given", "table", "told", "spot"] ["wall", "given"] (defScope s_all_leans) := ⟨rfl, rfl, rfl, by decide +kernel, rfl, by decide +kernel, by decide +kernel⟩
theorem sc_lean : FnScope ["wall", "given", "spot", "table", "further", "met"] ["wall", "given"] (defScope s_lean) := ⟨rfl, rfl, rfl, by decide +kernel, rfl, by decide +kernel, by decide +kernel⟩
theorem sc_turn : FnScope ["wall", "given", "way", "keeps", "held", "holder", "uneven", "row", "column"] ["wall", "given"] (defScope s_turn) := ⟨rfl, rfl, rfl, by decide +kernel, rfl, by decide +kernel, by decide +kernel⟩
theorem sc_spare : FnScope ["wall", "given", "spot", "refusal"] ["wall", "given"] (defScope s_spare) := ⟨rfl, rfl, rfl, by decide +kernel, rfl, by decide +kernel, by decide +kernel⟩
theorem sc_spares : FnScope ["wall", "given", "spots", "spot"] ["wall", "given"] (defScope s_spares) := ⟨rfl, rfl, rfl, by decide +kernel, rfl, by decide +kernel, by decide +kernel⟩
theorem sc_put : FnScope ["wall", "given", "spots"] ["wall", "given"] (defScope s_put) := ⟨rfl, rfl, rfl, by decide +kernel, rfl, by decide +kernel, by decide +kernel⟩
theorem sc_would : FnScope ["wall", "given", "spot", "refusal", "table", "after"] ["wall", "given"] (defScope s_would) := ⟨rfl, rfl, rfl, by decide +kernel, rfl, by decide +kernel, by decide +kernel⟩
theorem sc_falls : FnScope ["wall", "given", "spot", "refusal", "after"] ["wall", "given"] (defScope s_falls) := ⟨rfl, rfl, rfl, by decide +kernel, rfl, by decide +kernel, by decide +kernel⟩
theorem sc_stiff : FnScope ["wall", "given", "row", "column", "hangs", "both", "kind"] ["wall", "given"] (defScope s_stiff) := ⟨rfl, rfl, rfl, by decide +kernel, rfl, by decide +kernel, by decide +kernel⟩
theorem sc_flip : FnScope ["wall", "given", "spot", "refusal", "turned"] ["wall", "given"] (defScope s_flip) := ⟨rfl, rfl, rfl, by decide +kernel, rfl, by decide +kernel, by decide +kernel⟩
theorem sc_ties : FnScope ["wall", "given"] ["wall", "given"] (defScope s_ties) := ⟨rfl, rfl, rfl, by decide +kernel, rfl, by decide +kernel, by decide +kernel⟩
theorem sc_state : FnScope ["wall", "given"] ["wall", "given"] (defScope s_state) := ⟨rfl, rfl, rfl, by decide +kernel, rfl, by decide +kernel, by decide +kernel⟩
theorem sc_behind_call : FnScope ["calls", "at"] ["calls", "at"] (defScope s_behind_call) := ⟨rfl, rfl, rfl, by decide +kernel, rfl, by decide +kernel, by decide +kernel⟩
theorem sc_answer_one : FnScope ["wall", "number", "given"] ["wall", "number", "given"] (defScope s_answer_one) := ⟨rfl, rfl, rfl, by decide +kernel, rfl, by decide +kernel, by decide +kernel⟩
theorem sc_answers : FnScope ["calls", "wall", "answered", "at", "behind", "answer"] ["calls"] (defScope s_answers) := ⟨rfl, rfl, rfl, by decide +kernel, rfl, by decide +kernel, by decide +kernel⟩
theorem bo_len : bootBuiltins "len" = some (.builtin "len") := by decide +kernel
theorem bo_any : bootBuiltins "any" = some (.builtin "any") := by decide +kernel
theorem bo_all : bootBuiltins "all" = some (.builtin "all") := by decide +kernel
theorem bo_sum : bootBuiltins "sum" = some (.builtin "sum") := by decide +kernel
theorem bo_max : bootBuiltins "max" = some (.builtin "max") := by decide +kernel
theorem bo_min : bootBuiltins "min" = some (.builtin "min") := by decide +kernel
theorem bo_tuple : bootBuiltins "tuple" = some (.type "tuple") := by decide +kernel
theorem bo_list : bootBuiltins "list" = some (.type "list") := by decide +kernel
/-- a def of the text, by its name and its promise -/
structure Ok (P : Program) (w : World) (K : PySem.W.Frag) (mg : Str → Option Value) (base : Heap) (x : Str) (k : Nat) (ps : List Str) (sp : Sp) : Prop where
  ex : ∃ (f : Addr) (fd : FuncData), FnOk P w K mg base CX0 k f fd ps sp ∧ mg x = some (.ref f) ∧ PySem.W.keepIn K (.ref f) = true ∧ Binds K fd ps []
section
variable {X : Cx} {k : Nat} {ps : List Str} {sp : Sp} {x : Str} {p pos : Pos} {e : Expr} {es : List Expr} {t : TA}
theorem pe_ok (G : Ok X.prog X.w X.K X.mg X.base x k ps sp) (hr : Room k X.A) (hg : Gl X x) (ha : PA X (e :: es) t)
    (hdb : (x == ("__debug__" : Str)) = false := by decide) (he : starEach (e :: es) X.env = (false, eval e X.env) :: starEach es X.env := by rfl) (hpl : (backTo pos (starEach es X.env)).any (·.1) = false := by rfl) :
    PE X (.Call (.Name x p) (e :: es) [] pos) (tCall sp [] E0 t) := by
  obtain ⟨f, fd, F, hm, hk, hb⟩ := G.ex
  exact pe_call F hr hg hm hk hb .nil pass0 ha hdb he hpl
/-! the layer's rules with the written part K named: a comprehension's block hides it -/
theorem ixl (K : PySem.W.Frag) (h : X.K = K) : IxR X (rIxL K) := by subst h; exact ix_list
theorem ixt (K : PySem.W.Frag) (h : X.K = K) : IxR X (rIxT K) := by subst h; exact ix_tup
theorem pe_fldK {o : Expr} {f : Str} {ta : TE} (K : PySem.W.Frag) (h : X.K = K) (ha : PE X o ta) (hb : attributeBase o f X.env (eval o X.env) = eval o X.env) : PE X (.Attribute o f pos) (tFld K ta f) := by
  subst h
  exact pe_fld ha hb
theorem lenK (K : PySem.W.Frag) (h : X.K = K) : CallR X (.builtin "len") (fun xs H Q => ∃ p ys, xs = [.ref p] ∧ (SqL K H p ys ∨ SqT K H p ys) ∧ Q (.int ys.length) H) := by subst h; exact call_len_seq
theorem anyK (K : PySem.W.Frag) (h : X.K = K) (hc : X.calm = true) : CallR X (.builtin "any") (rAny K) := by subst h; exact cr_any hc
theorem allK (K : PySem.W.Frag) (h : X.K = K) (hc : X.calm = true) : CallR X (.builtin "all") (rAll K) := by subst h; exact cr_all hc
theorem sumK (K : PySem.W.Frag) (h : X.K = K) (hc : X.calm = true) : CallR X (.builtin "sum") (rSum K) := by subst h; exact cr_sum hc
theorem pg_tupK {es : List Expr} {k : Nat} {t : TGs} {n : Nat} (K : PySem.W.Frag) (h : X.K = K) (hc : X.calm = true) (hg : PGs X es t)
    (hn : (assignEach es X.env).length = n := by rfl) (hst : (assignEach es X.env).findIdx? (·.1) = none := by rfl) : PG X (.Tuple es k pos) (gTup K n t) := by
  subst h
  exact pg_tup hc hg hn hst
end
/-! ### what stands in the heap -/
abbrev nI (n : Nat) : V := .int (n : Int)
theorem Same.upd {H H' : Hp} {p : Addr} {o : HO} (h : Same H H') (hp : H p = none) : Same H (upd H' p o) := fun b u e => by
  rw [upd_ne (ne_of_none e hp)]
  exact h b u e
theorem Same.upd1 {H : Hp} {p : Addr} {o : HO} (hp : H p = none) : Same H (L2.upd H p o) := Same.upd (Same.refl H) hp
/-- a table of truths -/
def TblAt (H : Hp) (t : Addr) (n : Nat) (r : Nat → Nat → Bool) : Prop := ∃ as : List Addr, H t = some (.lst (as.map V.ref)) ∧ as.length = n ∧
  ∀ (i : Nat) (a : Addr), as[i]? = some a → H a = some (.lst ((List.range n).map fun j => V.bl (r i j)))
theorem TblAt.same {H H' : Hp} {t : Addr} {n : Nat} {r : Nat → Nat → Bool} (T : TblAt H t n r) (h : Same H H') : TblAt H' t n r := by
  obtain ⟨as, h1, h2, h3⟩ := T
  exact ⟨as, h _ _ h1, h2, fun i a e => h _ _ (h3 i a e)⟩
theorem rng_get {n i : Nat} {f : Nat → V} (hi : i < n) : ((List.range n).map f)[i]? = some (f i) := by
  rw [List.getElem?_map, List.getElem?_range hi]
  rfl
/-- the rows of a table -/
theorem TblAt.row {H : Hp} {t : Addr} {n : Nat} {r : Nat → Nat → Bool} (T : TblAt H t n r) : ∃ xs : List V, H t = some (.lst xs) ∧ xs.length = n ∧ ∀ i, i < n → ∃ a, xs[i]? = some (.ref a) ∧ H a = some (.lst ((List.range n).map fun j => V.bl (r i j))) := by
  obtain ⟨as, h1, h2, h3⟩ := T
  refine ⟨_, h1, by rw [List.length_map, h2], fun i hi => ?_⟩
  have hi' : i < as.length := by omega
  refine ⟨as[i], ?_, h3 i _ (List.getElem?_eq_getElem hi')⟩
  rw [List.getElem?_map, List.getElem?_eq_getElem hi']
  rfl
/-- pairs of strips, each a tuple -/
def PassAt (H : Hp) (l : Addr) (e : List (Nat × Nat)) : Prop := ∃ as : List Addr, H l = some (.lst (as.map V.ref)) ∧ as.length = e.length ∧
  ∀ (i : Nat) (x : Nat × Nat), e[i]? = some x → ∃ a, as[i]? = some a ∧ H a = some (.tup [nI x.1, nI x.2])
theorem PassAt.same {H H' : Hp} {l : Addr} {e : List (Nat × Nat)} (T : PassAt H l e) (h : Same H H') : PassAt H' l e := by
  obtain ⟨as, h1, h2, h3⟩ := T
  exact ⟨as, h _ _ h1, h2, fun i x q => let ⟨a, e1, e2⟩ := h3 i x q; ⟨a, e1, h _ _ e2⟩⟩
/-- spots, each a tuple -/
def SpotsAt (H : Hp) (l : Addr) (ts : List (Nat × Nat × Nat)) : Prop := ∃ as : List Addr, H l = some (.lst (as.map V.ref)) ∧ as.length = ts.length ∧
  ∀ (i : Nat) (x : Nat × Nat × Nat), ts[i]? = some x → ∃ a, as[i]? = some a ∧ H a = some (.tup [nI x.1, nI x.2.1, nI x.2.2])
theorem SpotsAt.same {H H' : Hp} {l : Addr} {ts : List (Nat × Nat × Nat)} (T : SpotsAt H l ts) (h : Same H H') : SpotsAt H' l ts := by
  obtain ⟨as, h1, h2, h3⟩ := T
  exact ⟨as, h _ _ h1, h2, fun i x q => let ⟨a, e1, e2⟩ := h3 i x q; ⟨a, e1, h _ _ e2⟩⟩
/-! ### a comprehension over a range that makes values and changes nothing -/
theorem rng_snoc {p : Nat → Bool} {f : Nat → V} (i : Nat) : ((List.range (i + 1)).filter p).map f = ((List.range i).filter p).map f ++ (if p i = true then [f i] else []) := by
  rw [List.range_succ, List.filter_append, List.map_append, List.filter_cons, List.filter_nil]
  split <;> rfl
theorem rng_len {p : Nat → Bool} {f : Nat → V} (i : Nat) : (((List.range i).filter p).map f).length ≤ i := by
  rw [List.length_map]
  exact Nat.le_trans (List.length_filter_le _ _) (by rw [List.length_range]; exact Nat.le_refl _)
theorem lcr {n : Nat} {g : TG} {tt : TT} {te : TE} {vs : List Nat} {σ : L2.St} {H1 : Hp} {D : Addr} {Qd : Hp → Prop} (p : Nat → Bool) (f : Nat → V) (hD : H1 D = none) (hn : n ≤ 1000)
    (hs : ∀ (i : Nat) (H : Hp) (N : VK) (M : Hp → Prop), i < n → Same H1 H → (∀ H', Same H H' → p i = true → N (f i) H') → (∀ H', Same H H' → p i = false → M H') →
      g (.int (0 + i)) (wipe σ vs) H fun σ2 H2 => wipe σ2 vs = wipe σ vs ∧ tt σ2 H2 fun b H3 => if b = true then te σ2 H3 N else M H3)
    (hd : ∀ H, Same H1 H → H D = some (.lst (((List.range n).filter p).map f)) → Qd H) :
    ∃ W : Nat → Nat → Hp → Prop, (∃ m, W 0 m (L2.upd H1 D (.lst []))) ∧ ∀ i m H, W i m H →
      ((Itr 0 n).stop i H ∧ Qd H) ∨ ((Itr 0 n).go i H ∧ ∃ Nx : Hp → Prop, (∀ H', Nx H' → ∃ m', m' < m ∧ W (i + 1) m' H') ∧ ∀ x H', (Itr 0 n).yld i H x H' → g x (wipe σ vs) H' fun σ2 H2 => wipe σ2 vs = wipe σ vs ∧ tt σ2 H2 fun b H3 =>
        if b = true then te σ2 H3 fun y H4 => ∃ acc, H4 D = some (.lst acc) ∧ acc.length < sizeLine ∧ Nx (L2.upd H4 D (.lst (acc ++ [y]))) else Nx H3) := by
  refine lc_range (Pv := fun i H => Same H1 H ∧ H D = some (.lst (((List.range i).filter p).map f))) ⟨Same.upd1 hD, upd_same⟩ ?_ fun H ⟨h1, h2⟩ => hd H h1 h2
  rintro i H hi ⟨h1, h2⟩
  refine hs i H _ _ hi h1 (fun H' h3 hp => ?_) (fun H' h3 hp => ?_)
  · refine ⟨_, h3 _ _ h2, small1000 (Nat.le_trans (rng_len i) (by omega)), Same.upd (h1.trans h3) hD, ?_⟩
    rw [upd_same, rng_snoc, if_pos hp]
  · refine ⟨h1.trans h3, ?_⟩
    rw [h3 _ _ h2, rng_snoc, if_neg (by rw [hp]; exact Bool.false_ne_true), List.append_nil]
theorem rng_all {n : Nat} {f : Nat → V} : ((List.range n).filter (fun _ => true)).map f = (List.range n).map f := by
  rw [List.filter_eq_self.mpr (fun _ _ => rfl)]
theorem lcr0 {n : Nat} {g : TG} {te : TE} {vs : List Nat} {σ : L2.St} {H1 : Hp} {D : Addr} {Qd : Hp → Prop} (f : Nat → V) (hD : H1 D = none) (hn : n ≤ 1000)
    (hs : ∀ (i : Nat) (H : Hp) (N : VK), i < n → Same H1 H → (∀ H', Same H H' → N (f i) H') → g (.int (0 + i)) (wipe σ vs) H fun σ2 H2 => wipe σ2 vs = wipe σ vs ∧ te σ2 H2 N)
    (hd : ∀ H, Same H1 H → H D = some (.lst ((List.range n).map f)) → Qd H) (hg : ∀ v σ H (Q Q' : L2.St → Hp → Prop), (∀ σ2 H2, Q σ2 H2 → Q' σ2 H2) → g v σ H Q → g v σ H Q') :
    ∃ W : Nat → Nat → Hp → Prop, (∃ m, W 0 m (L2.upd H1 D (.lst []))) ∧ ∀ i m H, W i m H →
      ((Itr 0 n).stop i H ∧ Qd H) ∨ ((Itr 0 n).go i H ∧ ∃ Nx : Hp → Prop, (∀ H', Nx H' → ∃ m', m' < m ∧ W (i + 1) m' H') ∧ ∀ x H', (Itr 0 n).yld i H x H' → g x (wipe σ vs) H' fun σ2 H2 => wipe σ2 vs = wipe σ vs ∧ tYes σ2 H2 fun b H3 =>
        if b = true then te σ2 H3 fun y H4 => ∃ acc, H4 D = some (.lst acc) ∧ acc.length < sizeLine ∧ Nx (L2.upd H4 D (.lst (acc ++ [y]))) else Nx H3) :=
  lcr (fun _ => true) f hD hn (fun i H N M hi h1 hN hM => hg _ _ _ _ _ (fun σ2 H2 ⟨q1, q2⟩ => ⟨q1, (show (if true = true then te σ2 H2 N else M H2) from by rw [if_pos rfl]; exact q2)⟩) (hs i H N hi h1 fun H' h' => hN H' h' rfl)) fun H h1 h2 => hd H h1 (by rw [h2, rng_all])
theorem gn_mono {i : Nat} : ∀ (v : V) (σ : L2.St) (H : Hp) (Q Q' : L2.St → Hp → Prop), (∀ σ2 H2, Q σ2 H2 → Q' σ2 H2) → gName i v σ H Q → gName i v σ H Q' := fun _ _ _ _ _ h q => h _ _ q
section
variable {P : Program} {w : World} {K : PySem.W.Frag} {mg : Str → Option Value} {base : Heap}
structure Txt0 (mg : Str → Option Value) : Prop where
  b_range : mg "range" = none
  b_len : mg "len" = none
  b_any : mg "any" = none
  b_all : mg "all" = none
  b_zip : mg "zip" = none
  b_max : mg "max" = none
  b_enumerate : mg "enumerate" = none
/-! ### strips -/
def spPassage : Sp := fun vs H Q _ => ∃ (m i j d : Nat) (a : Addr), vs = [nI m, .ref a] ∧ H a = some (.tup [nI i, nI j, nI d]) ∧
  ∀ (p : Addr) (H' : Hp), Same H H' → H' p = some (.tup [nI (TW.arr m (i, j, d)).1, nI (TW.arr m (i, j, d)).2]) → Q (.ref p) H'
theorem ok_passage {f : Addr} {fd : FuncData} (F : Fun K "passage" "passage" s_passage f fd) : FnOk P w K mg base CX0 1 f fd ["rows", "spot"] spPassage := by
  refine F.ok sc_passage (fun vs H Q E h => ?_) (fun cdv A outer s H vs Q E hr h => ?_)
  · obtain ⟨m, i, j, d, a, rfl, _⟩ := h
    rfl
  · obtain ⟨m, i, j, d, a, rfl, ha, k⟩ := h
    refine ⟨_, (pss_cons (ps_set (i := 2) sc_passage.nd rfl (Or.inl rfl) (pe_op op_add (pv 0) (pe_ix (ixt K rfl) (pv 1) pe_int (fun _ _ => rfl))))
      (pss_cons (ps_if (pt_cmpR op_eq (pe_ix (ixt K rfl) (pv 1) pe_int (fun _ _ => rfl)) pe_int (nomark _)) (pss_one (ps_ret (pe_tup (pa_cons (pe_ix (ixt K rfl) (pv 1) pe_int (fun _ _ => rfl)) (pa_cons (pv 2) pa_nil))))) pss_nil)
      (pss_one (ps_ret (pe_tup (pa_cons (pv 2) (pa_cons (pe_ix (ixt K rfl) (pv 1) pe_int (fun _ _ => rfl)) pa_nil))))))), ?_⟩
    refine ⟨_, rfl, _, rfl, a, _, _, _, rfl, rfl, SqT.of ha, at_of (j := 1) rfl rfl, _, _, rfl, rfl, ?_⟩
    refine ⟨_, rfl, a, _, _, _, rfl, rfl, SqT.of ha, at_of (j := 2) rfl rfl, rfl, _, rfl, ite2 (fun hc => ?_) (fun hc => ?_)⟩
    · have hd : d = 0 := by
        have q := of_decide_eq_true hc
        injection q with q
        omega
      refine ⟨_, rfl, a, _, _, _, rfl, rfl, SqT.of ha, at_of (j := 0) rfl rfl, _, rfl, (by show 2 ≤ sizeLine; decide), fun p hp => ?_⟩
      refine k p _ (Same.upd1 hp) ?_
      rw [upd_same]
      unfold TW.arr
      rw [if_pos (show (i, j, d).2.2 = 0 from hd)]
      rfl
    · have hd : ¬ d = 0 := fun q => hc (by subst q; rfl)
      refine ⟨_, rfl, _, rfl, a, _, _, _, rfl, rfl, SqT.of ha, at_of (j := 0) rfl rfl, (by show 2 ≤ sizeLine; decide), fun p hp => ?_⟩
      refine k p _ (Same.upd1 hp) ?_
      rw [upd_same]
      unfold TW.arr
      rw [if_neg (show ¬ (i, j, d).2.2 = 0 from hd)]
      rfl
def spReached : Sp := fun vs H Q _ => ∃ (t : Addr) (n s : Nat) (r : Nat → Nat → Bool), vs = [.ref t, nI s] ∧ TblAt H t n r ∧ s < n ∧ n ≤ 100 ∧
  ∀ (p : Addr) (H' : Hp), Same H H' → H' p = some (.lst (((List.range n).filter fun j => r s j).map nI)) → Q (.ref p) H'
theorem ok_reached {f : Addr} {fd : FuncData} (F : Fun K "reached" "reached" s_reached f fd) (T : Txt0 mg) : FnOk P w K mg base CX0 1 f fd ["table", "strip"] spReached := by
  refine F.ok sc_reached (fun vs H Q E h => ?_) (fun cdv A outer s H vs Q E hr h => ?_)
  · obtain ⟨t, n, s, r, rfl, _⟩ := h
    rfl
  · obtain ⟨t, n, s, r, rfl, hT, hs, hn, k⟩ := h
    refine ⟨_, (pss_one (ps_ret (pe_lc rfl sc_reached.nd (pi_range1 rfl T.b_range (pa_cons (pe_callB (lenK K rfl) (by rfl) T.b_len bo_len (pa_cons (pv 0) pa_nil)) pa_nil)) (own := [("other", 2)]) (blkOk_by (N := ["table", "strip", "other"]) (sc := defScope s_reached) (by decide +kernel)) (fun _ _ _ _ _ => (pg_name (i := 2) sc_reached.nd rfl (Or.inl rfl) (Or.inr rfl))) (fun _ _ _ _ _ => (pts_one (pt_val (pe_ix (ixl K rfl) (pe_ix (ixl K rfl) (pv 0) (pv 1) (fun _ _ => rfl)) (pv 2) (fun _ _ => rfl))))) (fun _ _ _ _ _ => (pv 2))))), ?_⟩
    obtain ⟨xs, ht, hlen, hrow⟩ := hT.row
    refine ⟨_, rfl, t, _, rfl, .inl (SqL.of ht), _, rfl, (by rw [hlen]; omega), (by rw [hlen]; omega), ?_⟩
    rw [hlen]
    intro D hD
    refine lcr (fun j => r s j) nI hD (by omega) (fun i H2 N M hi h2 hN hM => ⟨rfl, ?_⟩) (fun H2 h2 h3 => k D H2 h2 h3)
    obtain ⟨a, ea, ra⟩ := hrow s hs
    refine ⟨_, rfl, _, rfl, t, _, _, _, rfl, rfl, SqL.of (h2 _ _ ht), at_of (j := s) rfl ea, _, rfl, a, _, _, _, rfl, rfl, SqL.of (h2 _ _ ra), at_of (j := i) (by omega) (rng_get (by omega)), _, rfl, ?_⟩
    refine ite2 (fun hc => ?_) (fun hc => ?_)
    · refine ⟨_, rfl, ?_⟩
      rw [Int.zero_add]
      exact hN H2 (Same.refl _) hc
    · exact hM H2 (Same.refl _) (Bool.eq_false_iff.mpr hc)
def spTogether : Sp := fun vs H Q _ => ∃ (t : Addr) (n s : Nat) (r : Nat → Nat → Bool), vs = [.ref t, nI s] ∧ TblAt H t n r ∧ s < n ∧ n ≤ 100 ∧
  ∀ (p : Addr) (H' : Hp), Same H H' → H' p = some (.lst ((TW.tog n r s).map nI)) → Q (.ref p) H'
theorem ok_together {f : Addr} {fd : FuncData} (F : Fun K "together" "together" s_together f fd) (T : Txt0 mg) : FnOk P w K mg base CX0 1 f fd ["table", "strip"] spTogether := by
  refine F.ok sc_together (fun vs H Q E h => ?_) (fun cdv A outer s H vs Q E hr h => ?_)
  · obtain ⟨t, n, s, r, rfl, _⟩ := h
    rfl
  · obtain ⟨t, n, s, r, rfl, hT, hs, hn, k⟩ := h
    refine ⟨_, (pss_one (ps_ret (pe_lc rfl sc_together.nd (pi_range1 rfl T.b_range (pa_cons (pe_callB (lenK K rfl) (by rfl) T.b_len bo_len (pa_cons (pv 0) pa_nil)) pa_nil)) (own := [("other", 2)]) (blkOk_by (N := ["table", "strip", "other"]) (sc := defScope s_together) (by decide +kernel)) (fun _ _ _ _ _ => (pg_name (i := 2) sc_together.nd rfl (Or.inl rfl) (Or.inr rfl))) (fun _ _ _ _ _ => (pts_one (PW.pt (pw_and (pt_val (pe_ix (ixl K rfl) (pe_ix (ixl K rfl) (pv 0) (pv 1) (fun _ _ => rfl)) (pv 2) (fun _ _ => rfl))) (pw_and1 (pt_val (pe_ix (ixl K rfl) (pe_ix (ixl K rfl) (pv 0) (pv 2) (fun _ _ => rfl)) (pv 1) (fun _ _ => rfl)))))))) (fun _ _ _ _ _ => (pv 2))))), ?_⟩
    obtain ⟨xs, ht, hlen, hrow⟩ := hT.row
    refine ⟨_, rfl, t, _, rfl, .inl (SqL.of ht), _, rfl, (by rw [hlen]; omega), (by rw [hlen]; omega), ?_⟩
    rw [hlen]
    intro D hD
    refine lcr (fun j => r s j && r j s) nI hD (by omega) (fun i H2 N M hi h2 hN hM => ⟨rfl, ?_⟩) (fun H2 h2 h3 => k D H2 h2 h3)
    obtain ⟨a, ea, ra⟩ := hrow s hs
    obtain ⟨b, eb, rb⟩ := hrow i hi
    refine ⟨_, rfl, _, rfl, t, _, _, _, rfl, rfl, SqL.of (h2 _ _ ht), at_of (j := s) rfl ea, _, rfl, a, _, _, _, rfl, rfl, SqL.of (h2 _ _ ra), at_of (j := i) (by omega) (rng_get (by omega)), _, rfl, ?_⟩
    refine ite2 (fun hc => ?_) (fun hc => ?_)
    · refine ⟨_, rfl, _, rfl, t, _, _, _, rfl, rfl, SqL.of (h2 _ _ ht), at_of (j := i) (by omega) eb, _, rfl, b, _, _, _, rfl, rfl, SqL.of (h2 _ _ rb), at_of (j := s) rfl (rng_get (by omega)), _, rfl, ?_⟩
      refine ite2 (fun hd => ?_) (fun hd => ?_)
      · refine ⟨_, rfl, ?_⟩
        rw [Int.zero_add]
        exact hN H2 (Same.refl _) (by rw [hc, hd]; rfl)
      · exact hM H2 (Same.refl _) (by rw [Bool.eq_false_iff.mpr hd, Bool.and_false])
    · exact iteF (hM H2 (Same.refl _) (by rw [Bool.eq_false_iff.mpr hc]; rfl))
def spFirst : Sp := fun vs H Q _ => ∃ (t : Addr) (n s : Nat) (r : Nat → Nat → Bool), vs = [.ref t, nI s] ∧ TblAt H t n r ∧ TW.Eqv n r ∧ s < n ∧ n ≤ 100 ∧
  ∀ (H' : Hp), Same H H' → Q (nI (TW.fst n r s)) H'
theorem fst_at {n s i : Nat} {r : Nat → Nat → Bool} (hi : i < n) (h : (r s i && r i s) = true) (no : ∀ j, j < i → (r s j && r j s) = false) : TW.fst n r s = i := by
  unfold TW.fst TW.tog
  rw [List.headD_eq_head?_getD, List.head?_filter, List.find?_range_eq_some.mpr ⟨h, List.mem_range.mpr hi, fun j hj => by rw [no j hj]; rfl⟩]
  rfl
theorem ok_first {f : Addr} {fd : FuncData} (F : Fun K "first_of_part" "first_of_part" s_first_of_part f fd) (T : Txt0 mg) : FnOk P w K mg base CX0 1 f fd ["table", "strip"] spFirst := by
  refine F.ok sc_first_of_part (fun vs H Q E h => ?_) (fun cdv A outer s H vs Q E hr h => ?_)
  · obtain ⟨t, n, s, r, rfl, _⟩ := h
    rfl
  · obtain ⟨t, n, s, r, rfl, hT, hE, hs, hn, k⟩ := h
    refine ⟨_, (pss_cons (ps_for PassesOwn.never rfl (pi_range1 rfl T.b_range (pa_cons (pv 1) pa_nil)) (pg_name (i := 2) sc_first_of_part.nd rfl (Or.inl rfl)) (pss_one (ps_if (PW.pt (pw_and (pt_val (pe_ix (ixl K rfl) (pe_ix (ixl K rfl) (pv 0) (pv 1) (fun _ _ => rfl)) (pv 2) (fun _ _ => rfl))) (pw_and1 (pt_val (pe_ix (ixl K rfl) (pe_ix (ixl K rfl) (pv 0) (pv 2) (fun _ _ => rfl)) (pv 1) (fun _ _ => rfl)))))) (pss_one (ps_ret (pv 2))) pss_nil)))
      (pss_one (ps_ret (pv 1)))), ?_⟩
    obtain ⟨xs, ht, hlen, hrow⟩ := hT.row
    refine ⟨_, rfl, _, rfl, (by omega), (by omega), for_range (n := ((s : Nat) : Int).toNat) (fun i σ H2 => ∃ o2 : Option V, σ = [some (.ref t), some (nI s), o2] ∧ Same H H2 ∧ ∀ j, j < i → (r s j && r j s) = false) ?_ ?_ ?_⟩
    · exact ⟨none, rfl, Same.refl _, fun j hj => absurd hj (Nat.not_lt_zero _)⟩
    · rintro i σ H2 hi ⟨o2, rfl, h2, no⟩
      have hi : i < s := by omega
      obtain ⟨a, ea, ra⟩ := hrow s hs
      obtain ⟨b, eb, rb⟩ := hrow i (by omega)
      have next : (r s i && r i s) = false → ∃ o2 : Option V, ([some (.ref t), some (nI s), some (.int (0 + (i : Int)))] : L2.St) = [some (.ref t), some (nI s), o2] ∧ Same H H2 ∧ ∀ j, j < i + 1 → (r s j && r j s) = false := fun hf => ⟨_, rfl, h2, fun j hj => by
        by_cases e : j = i
        · subst e; exact hf
        · exact no j (by omega)⟩
      refine ⟨_, rfl, _, rfl, t, _, _, _, rfl, rfl, SqL.of (h2 _ _ ht), at_of (j := s) rfl ea, _, rfl, a, _, _, _, rfl, rfl, SqL.of (h2 _ _ ra), at_of (j := i) (by omega) (rng_get (by omega)), _, rfl, ?_⟩
      refine ite2 (fun hc => ?_) (fun hc => ?_)
      · refine ⟨_, rfl, _, rfl, t, _, _, _, rfl, rfl, SqL.of (h2 _ _ ht), at_of (j := i) (by omega) eb, _, rfl, b, _, _, _, rfl, rfl, SqL.of (h2 _ _ rb), at_of (j := s) rfl (rng_get (by omega)), _, rfl, ?_⟩
        refine ite2 (fun hd => ?_) (fun hd => ?_)
        · refine ⟨_, rfl, ?_⟩
          have q := k H2 h2
          rw [fst_at (i := i) (by omega) (by rw [hc, hd]; rfl) no] at q
          rw [Int.zero_add]
          exact q
        · exact next (by rw [Bool.eq_false_iff.mpr hd, Bool.and_false])
      · exact iteF (next (by rw [Bool.eq_false_iff.mpr hc]; rfl))
    · rintro σ H2 ⟨o2, rfl, h2, no⟩
      refine ⟨_, rfl, ?_⟩
      have q := k H2 h2
      rw [fst_at (i := s) hs (by rw [hE.rf s hs]; rfl) (fun j hj => no j (by omega))] at q
      exact q
def spFirsts : Sp := fun vs H Q _ => ∃ (t : Addr) (n : Nat) (r : Nat → Nat → Bool), vs = [.ref t] ∧ TblAt H t n r ∧ TW.Eqv n r ∧ n ≤ 100 ∧
  ∀ (p : Addr) (H' : Hp), Same H H' → H' p = some (.lst ((TW.fsts n r).map nI)) → Q (.ref p) H'
theorem ok_firsts {f : Addr} {fd : FuncData} (F : Fun K "firsts" "firsts" s_firsts f fd) (T : Txt0 mg) (G_first_of_part : Ok P w K mg base "first_of_part" 1 ["table", "strip"] spFirst) : FnOk P w K mg base CX0 3 f fd ["table"] spFirsts := by
  refine F.ok sc_firsts (fun vs H Q E h => ?_) (fun cdv A outer s H vs Q E hr h => ?_)
  · obtain ⟨t, n, r, rfl, _⟩ := h
    rfl
  · obtain ⟨t, n, r, rfl, hT, hE, hn, k⟩ := h
    refine ⟨_, (pss_one (ps_ret (pe_lc rfl sc_firsts.nd (pi_range1 rfl T.b_range (pa_cons (pe_callB (lenK K rfl) (by rfl) T.b_len bo_len (pa_cons (pv 0) pa_nil)) pa_nil)) (own := [("strip", 1)]) (blkOk_by (N := ["table", "strip"]) (sc := defScope s_firsts) (by decide +kernel)) (fun _ _ _ _ _ => (pg_name (i := 1) sc_firsts.nd rfl (Or.inl rfl) (Or.inr rfl))) (fun _ _ _ _ _ => (pts_one (pt_cmpR op_eq (pe_ok G_first_of_part (hr.mono (by decide)) rfl (pa_cons (pv 0) (pa_cons (pv 1) pa_nil))) (pv 1) (nomark _)))) (fun _ _ _ _ _ => (pv 1))))), ?_⟩
    obtain ⟨xs, ht, hlen, hrow⟩ := hT.row
    refine ⟨_, rfl, t, _, rfl, .inl (SqL.of ht), _, rfl, (by rw [hlen]; omega), (by rw [hlen]; omega), ?_⟩
    rw [hlen]
    intro D hD
    refine lcr (fun j => TW.fst n r j == j) nI hD (by omega) (fun i H2 N M hi h2 hN hM => ⟨rfl, ?_⟩) (fun H2 h2 h3 => k D H2 h2 h3)
    refine ⟨_, rfl, _, rfl, t, n, i, r, by rw [Int.zero_add]; rfl, hT.same h2, hE, hi, hn, fun H3 h3 => ?_⟩
    refine ⟨_, rfl, rfl, _, rfl, ite2 (fun hc => ?_) (fun hc => ?_)⟩
    · have e : TW.fst n r i = i := by
        have q := of_decide_eq_true hc
        injection q with q
        omega
      refine ⟨_, rfl, ?_⟩
      rw [Int.zero_add]
      exact hN H3 h3 (by rw [e]; exact beq_self_eq_true i)
    · refine hM H3 h3 (beq_eq_false_iff_ne.mpr fun e => hc (decide_eq_true ?_))
      rw [e, Int.zero_add]
def spOuts (g : Nat → (Nat → Nat → Bool) → Nat → Bool) : Sp := fun vs H Q _ => ∃ (t : Addr) (n s : Nat) (r : Nat → Nat → Bool), vs = [.ref t, nI s] ∧ TblAt H t n r ∧ s < n ∧ n ≤ 100 ∧
  ∀ (H' : Hp), Same H H' → Q (.bl (g n r s)) H'
theorem any_bl (n : Nat) (f : Nat → Bool) : ((List.range n).map f).any id = (List.range n).any f := by
  rw [List.any_map]
  rfl
theorem map_bl (n : Nat) (f : Nat → Bool) : (List.range n).map (fun j => V.bl (f j)) = ((List.range n).map f).map V.bl := by
  rw [List.map_map]
  rfl
theorem ok_leads_out {f : Addr} {fd : FuncData} (F : Fun K "leads_out" "leads_out" s_leads_out f fd) (T : Txt0 mg) : FnOk P w K mg base CX0 1 f fd ["table", "strip"] (spOuts TW.outs) := by
  refine F.ok sc_leads_out (fun vs H Q E h => ?_) (fun cdv A outer s H vs Q E hr h => ?_)
  · obtain ⟨t, n, s, r, rfl, _⟩ := h
    rfl
  · obtain ⟨t, n, s, r, rfl, hT, hs, hn, k⟩ := h
    refine ⟨_, (pss_one (ps_ret (pe_callB (anyK K rfl rfl) (by rfl) T.b_any bo_any (pa_cons (pe_lc rfl sc_leads_out.nd (pi_range1 rfl T.b_range (pa_cons (pe_callB (lenK K rfl) (by rfl) T.b_len bo_len (pa_cons (pv 0) pa_nil)) pa_nil)) (own := [("other", 2)]) (blkOk_by (N := ["table", "strip", "other"]) (sc := defScope s_leads_out) (by decide +kernel)) (fun _ _ _ _ _ => (pg_name (i := 2) sc_leads_out.nd rfl (Or.inl rfl) (Or.inr rfl))) (fun _ _ _ _ _ => pts_nil) (fun _ _ _ _ _ => (pe_and (pe_ix (ixl K rfl) (pe_ix (ixl K rfl) (pv 0) (pv 1) (fun _ _ => rfl)) (pv 2) (fun _ _ => rfl)) (pe_one (pe_not (pe_ix (ixl K rfl) (pe_ix (ixl K rfl) (pv 0) (pv 2) (fun _ _ => rfl)) (pv 1) (fun _ _ => rfl))))))) pa_nil)))), ?_⟩
    obtain ⟨xs, ht, hlen, hrow⟩ := hT.row
    refine ⟨_, rfl, t, _, rfl, .inl (SqL.of ht), _, rfl, (by rw [hlen]; omega), (by rw [hlen]; omega), ?_⟩
    rw [hlen]
    intro D hD
    refine lcr0 (fun j => V.bl (r s j && !(r j s))) hD (by omega) (fun i H2 N hi h2 hN => ⟨rfl, ?_⟩) (fun H2 h2 h3 => ?_) gn_mono
    · obtain ⟨a, ea, ra⟩ := hrow s hs
      obtain ⟨b, eb, rb⟩ := hrow i hi
      refine ⟨_, rfl, _, rfl, t, _, _, _, rfl, rfl, SqL.of (h2 _ _ ht), at_of (j := s) rfl ea, _, rfl, a, _, _, _, rfl, rfl, SqL.of (h2 _ _ ra), at_of (j := i) (by omega) (rng_get (by omega)), _, rfl, ?_⟩
      refine ite2 (fun hc => ?_) (fun hc => ?_)
      · refine ⟨_, rfl, _, rfl, t, _, _, _, rfl, rfl, SqL.of (h2 _ _ ht), at_of (j := i) (by omega) eb, _, rfl, b, _, _, _, rfl, rfl, SqL.of (h2 _ _ rb), at_of (j := s) rfl (rng_get (by omega)), _, rfl, ?_⟩
        have q := hN H2 (Same.refl _)
        rw [hc] at q
        exact q
      · have q := hN H2 (Same.refl _)
        rw [Bool.eq_false_iff.mpr hc] at q
        exact q
    · rw [map_bl] at h3
      refine ⟨D, _, rfl, SqL.of h3, ?_⟩
      rw [any_bl]
      exact k H2 h2
theorem ok_is_led_to {f : Addr} {fd : FuncData} (F : Fun K "is_led_to" "is_led_to" s_is_led_to f fd) (T : Txt0 mg) : FnOk P w K mg base CX0 1 f fd ["table", "strip"] (spOuts TW.ins) := by
  refine F.ok sc_is_led_to (fun vs H Q E h => ?_) (fun cdv A outer s H vs Q E hr h => ?_)
  · obtain ⟨t, n, s, r, rfl, _⟩ := h
    rfl
  · obtain ⟨t, n, s, r, rfl, hT, hs, hn, k⟩ := h
    refine ⟨_, (pss_one (ps_ret (pe_callB (anyK K rfl rfl) (by rfl) T.b_any bo_any (pa_cons (pe_lc rfl sc_is_led_to.nd (pi_range1 rfl T.b_range (pa_cons (pe_callB (lenK K rfl) (by rfl) T.b_len bo_len (pa_cons (pv 0) pa_nil)) pa_nil)) (own := [("other", 2)]) (blkOk_by (N := ["table", "strip", "other"]) (sc := defScope s_is_led_to) (by decide +kernel)) (fun _ _ _ _ _ => (pg_name (i := 2) sc_is_led_to.nd rfl (Or.inl rfl) (Or.inr rfl))) (fun _ _ _ _ _ => pts_nil) (fun _ _ _ _ _ => (pe_and (pe_ix (ixl K rfl) (pe_ix (ixl K rfl) (pv 0) (pv 2) (fun _ _ => rfl)) (pv 1) (fun _ _ => rfl)) (pe_one (pe_not (pe_ix (ixl K rfl) (pe_ix (ixl K rfl) (pv 0) (pv 1) (fun _ _ => rfl)) (pv 2) (fun _ _ => rfl))))))) pa_nil)))), ?_⟩
    obtain ⟨xs, ht, hlen, hrow⟩ := hT.row
    refine ⟨_, rfl, t, _, rfl, .inl (SqL.of ht), _, rfl, (by rw [hlen]; omega), (by rw [hlen]; omega), ?_⟩
    rw [hlen]
    intro D hD
    refine lcr0 (fun j => V.bl (r j s && !(r s j))) hD (by omega) (fun i H2 N hi h2 hN => ⟨rfl, ?_⟩) (fun H2 h2 h3 => ?_) gn_mono
    · obtain ⟨a, ea, ra⟩ := hrow s hs
      obtain ⟨b, eb, rb⟩ := hrow i hi
      refine ⟨_, rfl, _, rfl, t, _, _, _, rfl, rfl, SqL.of (h2 _ _ ht), at_of (j := i) (by omega) eb, _, rfl, b, _, _, _, rfl, rfl, SqL.of (h2 _ _ rb), at_of (j := s) rfl (rng_get (by omega)), _, rfl, ?_⟩
      refine ite2 (fun hc => ?_) (fun hc => ?_)
      · refine ⟨_, rfl, _, rfl, t, _, _, _, rfl, rfl, SqL.of (h2 _ _ ht), at_of (j := s) rfl ea, _, rfl, a, _, _, _, rfl, rfl, SqL.of (h2 _ _ ra), at_of (j := i) (by omega) (rng_get (by omega)), _, rfl, ?_⟩
        have q := hN H2 (Same.refl _)
        rw [hc] at q
        exact q
      · have q := hN H2 (Same.refl _)
        rw [Bool.eq_false_iff.mpr hc] at q
        exact q
    · rw [map_bl] at h3
      refine ⟨D, _, rfl, SqL.of h3, ?_⟩
      rw [any_bl]
      exact k H2 h2
end
end TP

end

section
set_option Elab.async false
set_option linter.all false
set_option maxRecDepth 100000
set_option maxHeartbeats 4000000
namespace TP
open PySem PySem.Spec PyProof.Rows L2
/-! ### a comprehension over a list -/
theorem take_snoc {α : Type} {l : List α} {i : Nat} {x : α} (h : l[i]? = some x) : l.take (i + 1) = l.take i ++ [x] := by
  rw [List.take_add_one, h]
  rfl
theorem lcl {α : Type} {K : PySem.W.Frag} {a : Addr} {g : TG} {tt : TT} {te : TE} {vs : List Nat} {σ : L2.St} {H1 : Hp} {D : Addr} {Qd : Hp → Prop} (xs : List V) (ys : List α) (p : α → Bool) (f : α → V) (hD : H1 D = none) (ha : H1 a = some (.lst xs)) (hxy : xs.length = ys.length) (hn : ys.length ≤ 1000)
    (hs : ∀ (i : Nat) (v : V) (y : α) (H : Hp) (N : VK) (M : Hp → Prop), xs[i]? = some v → ys[i]? = some y → Same H1 H → (∀ H', Same H H' → p y = true → N (f y) H') → (∀ H', Same H H' → p y = false → M H') →
      g v (wipe σ vs) H fun σ2 H2 => wipe σ2 vs = wipe σ vs ∧ tt σ2 H2 fun b H3 => if b = true then te σ2 H3 N else M H3)
    (hd : ∀ H, Same H1 H → H D = some (.lst ((ys.filter p).map f)) → Qd H) :
    ∃ W : Nat → Nat → Hp → Prop, (∃ m, W 0 m (L2.upd H1 D (.lst []))) ∧ ∀ i m H, W i m H →
      ((Itl K a).stop i H ∧ Qd H) ∨ ((Itl K a).go i H ∧ ∃ Nx : Hp → Prop, (∀ H', Nx H' → ∃ m', m' < m ∧ W (i + 1) m' H') ∧ ∀ x H', (Itl K a).yld i H x H' → g x (wipe σ vs) H' fun σ2 H2 => wipe σ2 vs = wipe σ vs ∧ tt σ2 H2 fun b H3 =>
        if b = true then te σ2 H3 fun y H4 => ∃ acc, H4 D = some (.lst acc) ∧ acc.length < sizeLine ∧ Nx (L2.upd H4 D (.lst (acc ++ [y]))) else Nx H3) := by
  refine lc_list (K := K) (a := a) (xs := xs) (Pv := fun i H => Same H1 H ∧ H D = some (.lst (((ys.take i).filter p).map f))) ⟨Same.upd1 hD, upd_same⟩ (fun i H _ ⟨h, _⟩ => SqL.of (h _ _ ha)) ?_ fun H ⟨h1, h2⟩ => hd H h1 (by rw [h2, hxy, List.take_length])
  rintro i v H hi ⟨h1, h2⟩
  obtain ⟨y, hy⟩ : ∃ y, ys[i]? = some y := by
    have hl : i < ys.length := by
      have := (List.getElem?_eq_some_iff.mp hi).1
      omega
    exact ⟨_, List.getElem?_eq_getElem hl⟩
  refine hs i v y H _ _ hi hy h1 (fun H' h3 hp => ?_) (fun H' h3 hp => ?_)
  · refine ⟨_, h3 _ _ h2, small1000 (Nat.le_trans (by rw [List.length_map]; exact Nat.le_trans (List.length_filter_le _ _) (List.length_take_le' _ _)) hn), Same.upd (h1.trans h3) hD, ?_⟩
    rw [upd_same, take_snoc hy, List.filter_append, List.map_append, List.filter_cons, if_pos hp]
    rfl
  · refine ⟨h1.trans h3, ?_⟩
    rw [h3 _ _ h2, take_snoc hy, List.filter_append, List.map_append, List.filter_cons, if_neg (by rw [hp]; exact Bool.false_ne_true)]
    simp
theorem lcl0 {α : Type} {K : PySem.W.Frag} {a : Addr} {g : TG} {te : TE} {vs : List Nat} {σ : L2.St} {H1 : Hp} {D : Addr} {Qd : Hp → Prop} (xs : List V) (ys : List α) (f : α → V) (hD : H1 D = none) (ha : H1 a = some (.lst xs)) (hxy : xs.length = ys.length) (hn : ys.length ≤ 1000)
    (hs : ∀ (i : Nat) (v : V) (y : α) (H : Hp) (N : VK), xs[i]? = some v → ys[i]? = some y → Same H1 H → (∀ H', Same H H' → N (f y) H') →
      g v (wipe σ vs) H fun σ2 H2 => wipe σ2 vs = wipe σ vs ∧ te σ2 H2 N)
    (hd : ∀ H, Same H1 H → H D = some (.lst (ys.map f)) → Qd H) (hg : ∀ v σ H (Q Q' : L2.St → Hp → Prop), (∀ σ2 H2, Q σ2 H2 → Q' σ2 H2) → g v σ H Q → g v σ H Q') :
    ∃ W : Nat → Nat → Hp → Prop, (∃ m, W 0 m (L2.upd H1 D (.lst []))) ∧ ∀ i m H, W i m H →
      ((Itl K a).stop i H ∧ Qd H) ∨ ((Itl K a).go i H ∧ ∃ Nx : Hp → Prop, (∀ H', Nx H' → ∃ m', m' < m ∧ W (i + 1) m' H') ∧ ∀ x H', (Itl K a).yld i H x H' → g x (wipe σ vs) H' fun σ2 H2 => wipe σ2 vs = wipe σ vs ∧ tYes σ2 H2 fun b H3 =>
        if b = true then te σ2 H3 fun y H4 => ∃ acc, H4 D = some (.lst acc) ∧ acc.length < sizeLine ∧ Nx (L2.upd H4 D (.lst (acc ++ [y]))) else Nx H3) :=
  lcl xs ys (fun _ => true) f hD ha hxy hn (fun i v y H N M hi hy h1 hN hM => hg _ _ _ _ _ (fun σ2 H2 ⟨q1, q2⟩ => ⟨q1, (show (if true = true then te σ2 H2 N else M H2) from by rw [if_pos rfl]; exact q2)⟩) (hs i v y H N hi hy h1 fun H' h' => hN H' h' rfl)) fun H h1 h2 => hd H h1 (by rw [h2, List.filter_eq_self.mpr (fun _ _ => rfl)])
/-! ### the closure -/
noncomputable def pth (e : List (Nat × Nat)) (s j : Nat) : Bool := @decide (TW.Path e s j) (Classical.propDecidable _)
theorem pth_iff {e : List (Nat × Nat)} {s j : Nat} : pth e s j = true ↔ TW.Path e s j := by
  unfold pth
  exact @decide_eq_true_iff _ (Classical.propDecidable _)
abbrev bls (n : Nat) (f : Nat → Bool) : List V := (List.range n).map fun j => V.bl (f j)
theorem bls_congr {n : Nat} {f g : Nat → Bool} (h : ∀ j, j < n → f j = g j) : bls n f = bls n g :=
  List.map_congr_left fun j hj => by rw [h j (List.mem_range.mp hj)]
theorem bls_set {n y : Nat} {f : Nat → Bool} (hy : y < n) : (bls n f).set y (.bl true) = bls n (fun j => if j = y then true else f j) := by
  apply List.ext_getElem?
  intro i
  by_cases hi : i < n
  · rw [rng_get hi]
    by_cases e : i = y
    · subst e
      rw [List.getElem?_set_self (by rw [List.length_map, List.length_range]; exact hi)]
      show some (V.bl true) = some (V.bl (if i = i then true else f i))
      rw [if_pos rfl]
    · rw [List.getElem?_set_ne (fun q => e q.symm), rng_get hi]
      show some (V.bl (f i)) = some (V.bl (if i = y then true else f i))
      rw [if_neg e]
  · rw [List.getElem?_eq_none (by rw [List.length_set, List.length_map, List.length_range]; omega), List.getElem?_eq_none (by rw [List.length_map, List.length_range]; omega)]
def isF : V → Bool
  | .bl false => true
  | _ => false
def cf (n : Nat) (f : Nat → Bool) : Nat := ((List.range n).filter fun j => !(f j)).length
theorem bls_cf (n : Nat) (f : Nat → Bool) : (bls n f).countP isF = cf n f := by
  unfold cf
  rw [List.countP_map, List.countP_eq_length_filter]
  refine congrArg List.length (List.filter_congr fun j _ => ?_)
  show isF (V.bl (f j)) = !(f j)
  cases f j <;> rfl
theorem cf_lt {n y : Nat} {f : Nat → Bool} (hy : y < n) (hf : f y = false) : cf n (fun j => if j = y then true else f j) < cf n f := by
  unfold cf
  refine TW.filter_lt (fun j hj hp => ?_) ⟨y, List.mem_range.mpr hy, by rw [hf]; rfl, by show (!(if y = y then true else f y)) = false; rw [if_pos rfl]; rfl⟩
  by_cases e : j = y
  · subst e; rw [hf]; rfl
  · have hp : (!(if j = y then true else f j)) = true := hp
    rw [if_neg e] at hp; exact hp
theorem ixN_nat {n j : Nat} (h : j < n) : ixN n (j : Int) = some j := by
  unfold ixN
  rw [if_pos (by omega), if_pos (by omega)]
  simp
def mu (D : Addr) (σ : L2.St) (H : Hp) : Nat := (match σ[5]? with | some (some (.bl true)) => 1 | _ => 0) + 2 * (match H D with | some (.lst xs) => xs.countP isF | _ => 0)
theorem mu_eq {D : Addr} {H : Hp} {n : Nat} {f : Nat → Bool} {g : Bool} {a0 a1 a2 a3 a4 a6 a7 : Option V} (h : H D = some (.lst (bls n f))) : mu D [a0, a1, a2, a3, a4, some (.bl g), a6, a7] H = (if g = true then 1 else 0) + 2 * cf n f := by
  unfold mu
  rw [h]
  show (match some (some (V.bl g)) with | some (some (.bl true)) => 1 | _ => 0) + 2 * (bls n f).countP isF = _
  rw [bls_cf]
  cases g <;> rfl
section
variable {P : Program} {w : World} {K : PySem.W.Frag} {mg : Str → Option Value} {base : Heap}
def spMet : Sp := fun vs H Q _ => ∃ (n s : Nat) (l : Addr) (e : List (Nat × Nat)), vs = [nI n, .ref l, nI s] ∧ PassAt H l e ∧ (∀ x, x ∈ e → x.1 < n ∧ x.2 < n) ∧ s < n ∧ n ≤ 100 ∧
  ∀ (p : Addr) (H' : Hp), H p = none → Same H H' → H' p = some (.lst (bls n (pth e s))) → Q (.ref p) H'
theorem ok_met_from {f : Addr} {fd : FuncData} (F : Fun K "met_from" "met_from" s_met_from f fd) (T : Txt0 mg) : FnOk P w K mg base CX0 1 f fd ["count", "passages", "start"] spMet := by
  refine F.ok sc_met_from (fun vs H Q E h => ?_) (fun cdv A outer s H vs Q E hr h => ?_)
  · obtain ⟨n, s, l, e, rfl, _⟩ := h
    rfl
  · obtain ⟨n, s, l, e, rfl, hP, he, hs, hn, k⟩ := h
    refine ⟨_, (pss_cons (ps_setLc (i := 3) rfl sc_met_from.nd rfl rfl (sw_true rfl rfl rfl rfl) (pi_range1 rfl T.b_range (pa_cons (pv 0) pa_nil)) (own := [("strip", 4)]) (blkOk_by (N := ["count", "passages", "start", "met", "strip", "grown", "source", "target"]) (sc := defScope s_met_from) (by decide +kernel)) (fun _ _ _ _ _ => (pg_name (i := 4) sc_met_from.nd rfl (Or.inl rfl) (Or.inr rfl))) (fun _ _ _ _ _ => pts_nil) (fun _ _ _ _ _ => (pe_cmpR op_eq (pv 4) (pv 2) (nomark _))))
      (pss_cons (ps_set (i := 5) sc_met_from.nd rfl (Or.inl rfl) pe_bl)
      (pss_cons (ps_while PassesOwn.never (pt_val (pv 5)) (pss_cons (ps_set (i := 5) sc_met_from.nd rfl (Or.inl rfl) pe_bl)
      (pss_one (ps_for PassesOwn.never rfl (pi_list (pv 1)) (pg_tupK K rfl rfl (pgs_cons (pg_name (i := 6) sc_met_from.nd rfl (Or.inl rfl)) (pgs_cons (pg_name (i := 7) sc_met_from.nd rfl (Or.inl rfl)) pgs_nil))) (pss_one (ps_if (PW.pt (pw_and (pt_val (pe_ix (ixl K rfl) (pv 3) (pv 6) (fun _ _ => rfl))) (pw_and1 (pt_not (pt_val (pe_ix (ixl K rfl) (pv 3) (pv 7) (fun _ _ => rfl))))))) (pss_cons (ps_asg pe_bl (pg_sub (pv 3) (pv 7) set_list))
      (pss_one (ps_set (i := 5) sc_met_from.nd rfl (Or.inl rfl) pe_bl))) pss_nil))))))
      (pss_one (ps_ret (pv 3)))))), ?_⟩
    obtain ⟨as, hl, hlen, hat⟩ := hP
    refine ⟨_, rfl, _, rfl, (by omega), (by omega), fun D hD => ?_⟩
    refine lcr0 (fun j => V.bl (decide (j = s))) hD (by omega) (fun i H2 N hi h2 hN => ⟨rfl, ?_⟩) (fun H2 h2 h3 => ?_) gn_mono
    · refine ⟨_, rfl, _, rfl, rfl, ?_⟩
      have q := hN H2 (Same.refl _)
      rw [show decide (i = s) = decide (V.int (0 + (i : Int)) = nI s) from by
        rw [Int.zero_add]
        by_cases z : i = s
        · subst z; rw [decide_eq_true rfl, decide_eq_true rfl]
        · rw [decide_eq_false z, decide_eq_false (fun y => z (by injection y with y; omega))]] at q
      exact q
    · refine while_by (fun σ H' => ∃ (f : Nat → Bool) (g : Bool) (o4 o6 o7 : Option V), σ = [some (nI n), some (.ref l), some (nI s), some (.ref D), o4, some (.bl g), o6, o7] ∧ Same H H' ∧ H' D = some (.lst (bls n f)) ∧
        f s = true ∧ (∀ j, j < n → f j = true → TW.Path e s j) ∧ (g = false → ∀ x y, (x, y) ∈ e → f x = true → f y = true)) (mu D) ?_ ?_ ?_
      · refine ⟨fun j => decide (j = s), true, none, none, none, rfl, h2, h3, decide_eq_true rfl, fun j _ hj => ?_, (fun z => nomatch z)⟩
        rw [of_decide_eq_true hj]
        exact .refl _
      · rintro σ H3 ⟨f, g, o4, o6, o7, rfl, s3, hD3, hfs, hsound, hcl⟩
        refine ⟨_, rfl, g, rfl, ite2 (fun hg => ?_) (fun hg => ?_)⟩
        · subst hg
          refine ⟨_, rfl, l, rfl, ⟨_, SqL.of (s3 _ _ hl)⟩, for_list (K := K) (a := l) (xs := as.map V.ref) (fun i σ H' => ∃ (f' : Nat → Bool) (g' : Bool) (o4 o6 o7 : Option V), σ = [some (nI n), some (.ref l), some (nI s), some (.ref D), o4, some (.bl g'), o6, o7] ∧ Same H H' ∧ H' D = some (.lst (bls n f')) ∧
            f' s = true ∧ (∀ j, j < n → f' j = true → TW.Path e s j) ∧ cf n f' ≤ cf n f ∧ (g' = true → cf n f' < cf n f) ∧ (g' = false → f' = f ∧ ∀ m x y, m < i → e[m]? = some (x, y) → f x = true → f y = true)) ?_ ?_ ?_ ?_⟩
          · exact ⟨f, false, o4, o6, o7, rfl, s3, hD3, hfs, hsound, Nat.le_refl _, (fun z => nomatch z), fun _ => ⟨rfl, fun m x y hm => absurd hm (Nat.not_lt_zero _)⟩⟩
          · rintro i σ H4 _ ⟨_, _, _, _, _, _, s4, _⟩
            exact SqL.of (s4 _ _ hl)
          · rintro i v σ H4 hi ⟨f', g', p4, p6, p7, rfl, s4, hD4, hfs4, hs4, hle, hlt, hno⟩
            have hil : i < as.length := by
              have := (List.getElem?_eq_some_iff.mp hi).1
              rw [List.length_map] at this
              exact this
            obtain ⟨⟨x, y⟩, hxy⟩ : ∃ x, e[i]? = some x := ⟨_, List.getElem?_eq_getElem (by omega)⟩
            obtain ⟨a, ea, ha⟩ := hat i (x, y) hxy
            have hv : v = .ref a := by
              rw [List.getElem?_map, ea] at hi
              exact (Option.some.inj hi).symm
            subst hv
            have hm : (x, y) ∈ e := List.mem_of_getElem? hxy
            obtain ⟨hx, hy⟩ := he (x, y) hm
            refine ⟨a, _, rfl, SqT.of (s4 _ _ ha), rfl, _, _, rfl, _, _, rfl, rfl, ?_⟩
            refine ⟨_, rfl, _, rfl, D, _, _, _, rfl, rfl, SqL.of hD4, at_of (j := x) rfl (rng_get hx), _, rfl, ite2 (fun hc => ?_) (fun hc => ?_)⟩
            · refine ⟨_, rfl, _, rfl, D, _, _, _, rfl, rfl, SqL.of hD4, at_of (j := y) rfl (rng_get hy), _, rfl, ite2 (fun hd => ?_) (fun hd => ?_)⟩
              · have hfy : f' y = false := by
                  cases z : f' y with
                  | false => rfl
                  | true => rw [z] at hd; cases hd
                refine ⟨_, rfl, _, rfl, D, _, _, y, rfl, rfl, hD4, ixN_nat (by rw [List.length_map, List.length_range]; exact hy), ?_⟩
                refine ⟨fun j => if j = y then true else f' j, true, _, _, _, rfl, Same.upd s4 hD, ?_, ?_, fun j hj hf => ?_, ?_, fun _ => ?_, (fun z => nomatch z)⟩
                · rw [upd_same, bls_set hy]
                · show (if s = y then true else f' s) = true
                  rw [hfs4]
                  split <;> rfl
                · by_cases z : j = y
                  · subst z
                    exact .step (hs4 x hx hc) hm
                  · have hf : (if j = y then true else f' j) = true := hf
                    rw [if_neg z] at hf
                    exact hs4 j hj hf
                · exact Nat.le_trans (Nat.le_of_lt (cf_lt hy hfy)) hle
                · exact Nat.lt_of_lt_of_le (cf_lt hy hfy) hle
              · refine ⟨f', g', _, _, _, rfl, s4, hD4, hfs4, hs4, hle, hlt, fun z => ⟨(hno z).1, fun m x' y' hm' e' hf => ?_⟩⟩
                by_cases q : m = i
                · subst q
                  rw [hxy] at e'
                  cases e'
                  rw [← (hno z).1]
                  cases zz : f' y with
                  | true => rfl
                  | false => rw [zz] at hd; exact absurd rfl hd
                · exact (hno z).2 m x' y' (by omega) e' hf
            · refine iteF ⟨f', g', _, _, _, rfl, s4, hD4, hfs4, hs4, hle, hlt, fun z => ⟨(hno z).1, fun m x' y' hm' e' hf => ?_⟩⟩
              by_cases q : m = i
              · subst q
                rw [hxy] at e'
                cases e'
                rw [← (hno z).1] at hf
                exact absurd hf hc
              · exact (hno z).2 m x' y' (by omega) e' hf
          · rintro σ H4 ⟨f', g', p4, p6, p7, rfl, s4, hD4, hfs4, hs4, hle, hlt, hno⟩
            refine ⟨⟨f', g', _, _, _, rfl, s4, hD4, hfs4, hs4, fun z x y hm hf => ?_⟩, ?_⟩
            · obtain ⟨m, hm'⟩ := List.getElem?_of_mem hm
              rw [(hno z).1] at hf ⊢
              refine (hno z).2 m x y ?_ hm' hf
              rw [List.length_map, hlen]
              exact (List.getElem?_eq_some_iff.mp hm').1
            · rw [mu_eq hD4, mu_eq hD3, if_pos rfl]
              cases g' with
              | true =>
                have := hlt rfl
                rw [if_pos rfl]
                omega
              | false =>
                rw [if_neg Bool.false_ne_true]
                omega
        · have hg : g = false := Bool.eq_false_iff.mpr hg
          refine ⟨_, rfl, k D H3 hD s3 ?_⟩
          rw [hD3]
          refine congrArg (fun l => some (HO.lst l)) (bls_congr fun j hj => ?_)
          rw [Bool.eq_iff_iff, pth_iff]
          exact ⟨hsound j hj, fun hp => hp.least (p := fun j => f j = true) hfs (hcl hg)⟩
      · rintro σ H3 Q1 Q2 hq ⟨v, e1, c, e2, q⟩
        exact ⟨v, e1, c, e2, hq _ _ q⟩
end
end TP

end

section
set_option Elab.async false
set_option linter.all false
set_option maxRecDepth 100000
set_option maxHeartbeats 4000000
namespace TP
open PySem PySem.Spec PyProof.Rows L2 TR
theorem tyes {σ : L2.St} {H : Hp} {F M : Hp → Prop} (h : F H) : tYes σ H fun b H3 => if b = true then F H3 else M H3 := by
  show (if true = true then F H else M H)
  rw [if_pos rfl]
  exact h
section
variable {P : Program} {w : World} {K : PySem.W.Frag} {mg : Str → Option Value} {base : Heap}
def spTable : Sp := fun vs H Q _ => ∃ (n : Nat) (l : Addr) (e : List (Nat × Nat)), vs = [nI n, .ref l] ∧ PassAt H l e ∧ (∀ x, x ∈ e → x.1 < n ∧ x.2 < n) ∧ n ≤ 100 ∧
  ∀ (p : Addr) (H' : Hp), Same H H' → TblAt H' p n (pth e) → Q (.ref p) H'
theorem ok_reach_table {f : Addr} {fd : FuncData} (F : Fun K "reach_table" "reach_table" s_reach_table f fd) (T : Txt0 mg) (G_met_from : Ok P w K mg base "met_from" 1 ["count", "passages", "start"] spMet) : FnOk P w K mg base CX0 2 f fd ["count", "passages"] spTable := by
  refine F.ok sc_reach_table (fun vs H Q E h => ?_) (fun cdv A outer s H vs Q E hr h => ?_)
  · obtain ⟨n, l, e, rfl, _⟩ := h
    rfl
  · obtain ⟨n, l, e, rfl, hP, he, hn, k⟩ := h
    refine ⟨_, (pss_one (ps_ret (pe_lc rfl sc_reach_table.nd (pi_range1 rfl T.b_range (pa_cons (pv 0) pa_nil)) (own := [("start", 2)]) (blkOk_by (N := ["count", "passages", "start"]) (sc := defScope s_reach_table) (by decide +kernel)) (fun _ _ _ _ _ => (pg_name (i := 2) sc_reach_table.nd rfl (Or.inl rfl) (Or.inr rfl))) (fun _ _ _ _ _ => pts_nil) (fun _ _ _ _ _ => (pe_ok G_met_from (hr.mono (by decide)) rfl (pa_cons (pv 0) (pa_cons (pv 1) (pa_cons (pv 2) pa_nil)))))))), ?_⟩
    refine ⟨_, rfl, _, rfl, (by omega), (by omega), fun D hD => ?_⟩
    refine lc_range (Pv := fun i H2 => Same H H2 ∧ ∃ as : List Addr, H2 D = some (.lst (as.map V.ref)) ∧ as.length = i ∧ ∀ (m : Nat) (a : Addr), as[m]? = some a → a ≠ D ∧ H2 a = some (.lst (bls n (pth e m)))) ⟨Same.upd1 hD, [], upd_same, rfl, fun m a z => by simp at z⟩ ?_ ?_
    · rintro i H2 hi ⟨s2, as, h2, hlen, hat⟩
      refine ⟨rfl, tyes ?_⟩
      refine ⟨_, rfl, _, rfl, _, rfl, n, i, l, e, by rw [Int.zero_add]; rfl, hP.same s2, he, (by omega), hn, fun p H3 hp s3 hp3 => ?_⟩
      have npD : p ≠ D := (ne_of_none h2 hp).symm
      refine ⟨_, s3 _ _ h2, small1000 (by rw [List.length_map, hlen]; omega), Same.upd (s2.trans s3) hD, as ++ [p], ?_, ?_, fun m a z => ?_⟩
      · rw [upd_same, List.map_append]
        rfl
      · rw [List.length_append, hlen]
        rfl
      · by_cases q : m < as.length
        · rw [List.getElem?_append_left q] at z
          obtain ⟨z1, z2⟩ := hat m a z
          exact ⟨z1, by rw [upd_ne z1]; exact s3 _ _ z2⟩
        · rw [List.getElem?_append_right (by omega)] at z
          have q0 : m - as.length = 0 := by
            have := (List.getElem?_eq_some_iff.mp z).1
            simp at this
            omega
          rw [q0] at z
          have e1 : p = a := Option.some.inj z
          subst e1
          have e2 : m = i := by omega
          subst e2
          exact ⟨npD, by rw [upd_ne npD]; exact hp3⟩
    · rintro H2 ⟨s2, as, h2, hlen, hat⟩
      exact k D H2 s2 ⟨as, h2, by rw [hlen]; omega, fun m a z => (hat m a z).2⟩
def spEnds (g : Nat → (Nat → Nat → Bool) → Nat → Bool) : Sp := fun vs H Q _ => ∃ (t : Addr) (n : Nat) (r : Nat → Nat → Bool), vs = [.ref t] ∧ TblAt H t n r ∧ TW.Eqv n r ∧ n ≤ 100 ∧
  ∀ (p : Addr) (H' : Hp), H p = none → Same H H' → H' p = some (.lst (((TW.fsts n r).filter fun s => !(g n r s)).map nI)) → Q (.ref p) H'
theorem fsts_len (n : Nat) (r : Nat → Nat → Bool) : (TW.fsts n r).length ≤ n := by
  unfold TW.fsts
  exact Nat.le_trans (List.length_filter_le _ _) (by rw [List.length_range]; exact Nat.le_refl _)
theorem ok_end_firsts {f : Addr} {fd : FuncData} (F : Fun K "end_firsts" "end_firsts" s_end_firsts f fd) (G_firsts : Ok P w K mg base "firsts" 3 ["table"] spFirsts) (G_leads_out : Ok P w K mg base "leads_out" 1 ["table", "strip"] (spOuts TW.outs)) : FnOk P w K mg base CX0 4 f fd ["table"] (spEnds TW.outs) := by
  refine F.ok sc_end_firsts (fun vs H Q E h => ?_) (fun cdv A outer s H vs Q E hr h => ?_)
  · obtain ⟨t, n, r, rfl, _⟩ := h
    rfl
  · obtain ⟨t, n, r, rfl, hT, hE, hn, k⟩ := h
    refine ⟨_, (pss_one (ps_ret (pe_lc rfl sc_end_firsts.nd (pi_list (pe_ok G_firsts (hr.mono (by decide)) rfl (pa_cons (pv 0) pa_nil))) (own := [("strip", 1)]) (blkOk_by (N := ["table", "strip"]) (sc := defScope s_end_firsts) (by decide +kernel)) (fun _ _ _ _ _ => (pg_name (i := 1) sc_end_firsts.nd rfl (Or.inl rfl) (Or.inr rfl))) (fun _ _ _ _ _ => (pts_one (pt_not (pt_val (pe_ok G_leads_out (hr.mono (by decide)) rfl (pa_cons (pv 0) (pa_cons (pv 1) pa_nil))))))) (fun _ _ _ _ _ => (pv 1))))), ?_⟩
    refine ⟨_, rfl, t, n, r, rfl, hT, hE, hn, fun p H2 s2 hp => ⟨p, rfl, ⟨_, SqL.of hp⟩, fun D hD => ?_⟩⟩
    refine lcl _ (TW.fsts n r) (fun s => !(TW.outs n r s)) nI hD hp (by rw [List.length_map]) (Nat.le_trans (fsts_len n r) (by omega)) (fun i v y H3 N M hi hy s3 hN hM => ⟨rfl, ?_⟩) (fun H3 s3 h3 => k D H3 (s2.free hD) (s2.trans s3) h3)
    have hv : v = nI y := by
      rw [List.getElem?_map, hy] at hi
      exact (Option.some.inj hi).symm
    subst hv
    have hyn : y < n := (TW.mem_fsts.mp (List.mem_of_getElem? hy)).1
    refine ⟨_, rfl, _, rfl, t, n, y, r, rfl, hT.same (s2.trans s3), hyn, hn, fun H4 s4 => ⟨_, rfl, ite2 (fun hc => ?_) (fun hc => ?_)⟩⟩
    · exact ⟨_, rfl, hN H4 s4 hc⟩
    · exact hM H4 s4 (Bool.eq_false_iff.mpr hc)
theorem ok_start_firsts {f : Addr} {fd : FuncData} (F : Fun K "start_firsts" "start_firsts" s_start_firsts f fd) (G_firsts : Ok P w K mg base "firsts" 3 ["table"] spFirsts) (G_is_led_to : Ok P w K mg base "is_led_to" 1 ["table", "strip"] (spOuts TW.ins)) : FnOk P w K mg base CX0 4 f fd ["table"] (spEnds TW.ins) := by
  refine F.ok sc_start_firsts (fun vs H Q E h => ?_) (fun cdv A outer s H vs Q E hr h => ?_)
  · obtain ⟨t, n, r, rfl, _⟩ := h
    rfl
  · obtain ⟨t, n, r, rfl, hT, hE, hn, k⟩ := h
    refine ⟨_, (pss_one (ps_ret (pe_lc rfl sc_start_firsts.nd (pi_list (pe_ok G_firsts (hr.mono (by decide)) rfl (pa_cons (pv 0) pa_nil))) (own := [("strip", 1)]) (blkOk_by (N := ["table", "strip"]) (sc := defScope s_start_firsts) (by decide +kernel)) (fun _ _ _ _ _ => (pg_name (i := 1) sc_start_firsts.nd rfl (Or.inl rfl) (Or.inr rfl))) (fun _ _ _ _ _ => (pts_one (pt_not (pt_val (pe_ok G_is_led_to (hr.mono (by decide)) rfl (pa_cons (pv 0) (pa_cons (pv 1) pa_nil))))))) (fun _ _ _ _ _ => (pv 1))))), ?_⟩
    refine ⟨_, rfl, t, n, r, rfl, hT, hE, hn, fun p H2 s2 hp => ⟨p, rfl, ⟨_, SqL.of hp⟩, fun D hD => ?_⟩⟩
    refine lcl _ (TW.fsts n r) (fun s => !(TW.ins n r s)) nI hD hp (by rw [List.length_map]) (Nat.le_trans (fsts_len n r) (by omega)) (fun i v y H3 N M hi hy s3 hN hM => ⟨rfl, ?_⟩) (fun H3 s3 h3 => k D H3 (s2.free hD) (s2.trans s3) h3)
    have hv : v = nI y := by
      rw [List.getElem?_map, hy] at hi
      exact (Option.some.inj hi).symm
    subst hv
    have hyn : y < n := (TW.mem_fsts.mp (List.mem_of_getElem? hy)).1
    refine ⟨_, rfl, _, rfl, t, n, y, r, rfl, hT.same (s2.trans s3), hyn, hn, fun H4 s4 => ⟨_, rfl, ite2 (fun hc => ?_) (fun hc => ?_)⟩⟩
    · exact ⟨_, rfl, hN H4 s4 hc⟩
    · exact hM H4 s4 (Bool.eq_false_iff.mpr hc)
def spMay : Sp := fun vs H Q _ => ∃ (t a : Addr) (n m i j d : Nat) (r : Nat → Nat → Bool), vs = [.ref t, nI m, .ref a] ∧ TblAt H t n r ∧ H a = some (.tup [nI i, nI j, nI d]) ∧ (TW.arr m (i, j, d)).1 < n ∧ (TW.arr m (i, j, d)).2 < n ∧
  ∀ (H' : Hp), Same H H' → Q (.bl (!(r (TW.arr m (i, j, d)).1 (TW.arr m (i, j, d)).2))) H'
theorem ok_may_lean {f : Addr} {fd : FuncData} (F : Fun K "may_lean" "may_lean" s_may_lean f fd) (G_passage : Ok P w K mg base "passage" 1 ["rows", "spot"] spPassage) : FnOk P w K mg base CX0 2 f fd ["table", "rows", "spot"] spMay := by
  refine F.ok sc_may_lean (fun vs H Q E h => ?_) (fun cdv A outer s H vs Q E hr h => ?_)
  · obtain ⟨t, a, n, m, i, j, d, r, rfl, _⟩ := h
    rfl
  · obtain ⟨t, a, n, m, i, j, d, r, rfl, hT, ha, h1, h2, k⟩ := h
    refine ⟨_, (pss_cons (ps_set (i := 3) sc_may_lean.nd rfl (Or.inl rfl) (pe_ok G_passage (hr.mono (by decide)) rfl (pa_cons (pv 1) (pa_cons (pv 2) pa_nil))))
      (pss_one (ps_ret (pe_not (pe_ix (ixl K rfl) (pe_ix (ixl K rfl) (pv 0) (pe_ix (ixt K rfl) (pv 3) pe_int (fun _ _ => rfl)) (fun _ _ => rfl)) (pe_ix (ixt K rfl) (pv 3) pe_int (fun _ _ => rfl)) (fun _ _ => rfl)))))), ?_⟩
    refine ⟨_, rfl, _, rfl, m, i, j, d, a, rfl, ha, fun p H2 s2 hp => ?_⟩
    obtain ⟨xs, ht, hlen, hrow⟩ := (hT.same s2).row
    obtain ⟨b, eb, rb⟩ := hrow _ h1
    refine ⟨_, rfl, _, rfl, p, _, _, _, rfl, rfl, SqT.of hp, at_of (j := 0) rfl rfl, t, _, _, _, rfl, rfl, SqL.of ht, at_of rfl eb, _, rfl, p, _, _, _, rfl, rfl, SqT.of hp, at_of (j := 1) rfl rfl, b, _, _, _, rfl, rfl, SqL.of rb, at_of rfl (rng_get h2), _, rfl, ?_⟩
    exact k H2 s2
/-! ### a table with a step more -/
def spEither : Sp := fun vs H Q _ => ∃ (a b : Addr) (n : Nat) (f g : Nat → Bool), vs = [.ref a, .ref b] ∧ H a = some (.lst (bls n f)) ∧ H b = some (.lst (bls n g)) ∧ n ≤ 100 ∧
  ∀ (p : Addr) (H' : Hp), H p = none → Same H H' → H' p = some (.lst (bls n fun j => f j || g j)) → Q (.ref p) H'
theorem ok_met_by_either {f : Addr} {fd : FuncData} (F : Fun K "met_by_either" "met_by_either" s_met_by_either f fd) (T : Txt0 mg) : FnOk P w K mg base CX0 1 f fd ["line", "other"] spEither := by
  refine F.ok sc_met_by_either (fun vs H Q E h => ?_) (fun cdv A outer s H vs Q E hr h => ?_)
  · obtain ⟨a, b, n, f, g, rfl, _⟩ := h
    rfl
  · obtain ⟨a, b, n, f, g, rfl, ha, hb, hn, k⟩ := h
    refine ⟨_, (pss_one (ps_ret (pe_lc rfl sc_met_by_either.nd (pi_zipK K rfl rfl T.b_zip (pa_cons (pv 0) (pa_cons (pv 1) pa_nil))) (own := [("here", 2), ("there", 3)]) (blkOk_by (N := ["line", "other", "here", "there"]) (sc := defScope s_met_by_either) (by decide +kernel)) (fun _ _ _ _ _ => (pg_tupK (n := 2) K rfl rfl (pgs_cons (pg_name (i := 2) sc_met_by_either.nd rfl (Or.inl rfl) (Or.inr rfl)) (pgs_cons (pg_name (i := 3) sc_met_by_either.nd rfl (Or.inl rfl) (Or.inr rfl)) pgs_nil)))) (fun _ _ _ _ _ => pts_nil) (fun _ _ _ _ _ => (pe_or (pv 2) (pe_one (pv 3))))))), ?_⟩
    refine ⟨_, rfl, _, rfl, a, b, _, _, rfl, SqL.of ha, SqL.of hb, fun D hD => ?_⟩
    refine lc_zip (Pv := fun i H2 => Same H H2 ∧ H2 D = some (.lst (bls i fun j => f j || g j))) (by rw [List.length_map, List.length_map]) ⟨Same.upd1 hD, upd_same⟩ (fun i H2 _ ⟨s2, _⟩ => ⟨SqL.of (s2 _ _ ha), SqL.of (s2 _ _ hb)⟩) ?_ ?_
    · rintro i x y H2 T2 hx hy ⟨s2, h2⟩ hT
      have hi : i < n := by
        have := (List.getElem?_eq_some_iff.mp hx).1
        rw [List.length_map, List.length_range] at this
        exact this
      rw [rng_get hi] at hx hy
      cases hx
      cases hy
      have nT : D ≠ T2 := ne_of_none h2 hT
      have fin : ∀ v, v = V.bl (f i || g i) → ∃ acc, (L2.upd H2 T2 (.tup [V.bl (f i), V.bl (g i)])) D = some (.lst acc) ∧ acc.length < sizeLine ∧ Same H (L2.upd (L2.upd H2 T2 (.tup [V.bl (f i), V.bl (g i)])) D (.lst (acc ++ [v]))) ∧ (L2.upd (L2.upd H2 T2 (.tup [V.bl (f i), V.bl (g i)])) D (.lst (acc ++ [v]))) D = some (.lst (bls (i + 1) fun j => f j || g j)) := fun v hv => by
        subst hv
        refine ⟨_, by rw [upd_ne nT]; exact h2, small1000 (by rw [List.length_map, List.length_range]; omega), Same.upd (s2.trans (Same.upd1 hT)) hD, ?_⟩
        rw [upd_same]
        unfold bls
        rw [List.range_succ, List.map_append]
        rfl
      refine ⟨T2, _, rfl, SqT.of upd_same, rfl, _, _, rfl, _, _, rfl, rfl, rfl, tyes ?_⟩
      refine ⟨_, rfl, _, rfl, ite2 (fun hc => ?_) (fun hc => ?_)⟩
      · exact fin _ (by rw [hc]; rfl)
      · exact ⟨_, rfl, fin _ (by rw [Bool.eq_false_iff.mpr hc]; rfl)⟩
    · rintro H2 ⟨s2, h2⟩
      rw [List.length_map, List.length_range] at h2
      exact k D H2 hD s2 h2
def spWith : Sp := fun vs H Q _ => ∃ (t a : Addr) (n u v : Nat) (r : Nat → Nat → Bool), vs = [.ref t, .ref a] ∧ TblAt H t n r ∧ H a = some (.tup [nI u, nI v]) ∧ u < n ∧ v < n ∧ n ≤ 100 ∧
  ∀ (p : Addr) (H' : Hp), Same H H' → TblAt H' p n (fun i j => r i j || (r i u && r v j)) → Q (.ref p) H'
theorem ok_table_with {f : Addr} {fd : FuncData} (F : Fun K "table_with" "table_with" s_table_with f fd) (G_met_by_either : Ok P w K mg base "met_by_either" 1 ["line", "other"] spEither) : FnOk P w K mg base CX0 2 f fd ["table", "step"] spWith := by
  refine F.ok sc_table_with (fun vs H Q E h => ?_) (fun cdv A outer s H vs Q E hr h => ?_)
  · obtain ⟨t, a, n, u, v, r, rfl, _⟩ := h
    rfl
  · obtain ⟨t, a, n, u, v, r, rfl, hT, ha, hu, hv, hn, k⟩ := h
    refine ⟨_, (pss_cons (ps_set (i := 2) sc_table_with.nd rfl (Or.inr rfl) (pe_ix (ixl K rfl) (pv 0) (pe_ix (ixt K rfl) (pv 1) pe_int (fun _ _ => rfl)) (fun _ _ => rfl)))
      (pss_one (ps_ret (pe_lc rfl sc_table_with.nd (pi_list (pv 0)) (own := [("line", 3)]) (blkOk_by (N := ["table", "step", "onward", "line"]) (sc := defScope s_table_with) (by decide +kernel)) (fun _ _ _ _ _ => (pg_name (i := 3) sc_table_with.nd rfl (Or.inl rfl) (Or.inr rfl))) (fun _ _ _ _ _ => pts_nil) (fun _ _ _ _ _ => (pe_ifExp (pt_val (pe_ix (ixl K rfl) (pv 3) (pe_ix (ixt K rfl) (pv 1) pe_int (fun _ _ => rfl)) (fun _ _ => rfl))) (pe_ok G_met_by_either (hr.mono (by decide)) rfl (pa_cons (pv 3) (pa_cons (pv 2) pa_nil))) (pv 3))))))), ?_⟩
    obtain ⟨as, ht, hlen, hat⟩ := hT
    have hvl : v < as.length := by omega
    have hrv := hat v _ (List.getElem?_eq_getElem hvl)
    refine ⟨_, rfl, _, rfl, a, _, _, _, rfl, rfl, SqT.of ha, at_of (j := 1) rfl rfl, t, _, _, _, rfl, rfl, SqL.of ht, at_of (j := v) (v := .ref as[v]) rfl (by rw [List.getElem?_map, List.getElem?_eq_getElem hvl]; rfl), ?_⟩
    refine ⟨_, rfl, t, rfl, ⟨_, SqL.of ht⟩, fun D hD => ?_⟩
    refine lc_list (K := K) (a := t) (xs := as.map V.ref) (Pv := fun i H2 => Same H H2 ∧ ∃ bs : List Addr, H2 D = some (.lst (bs.map V.ref)) ∧ bs.length = i ∧ ∀ (m : Nat) (b : Addr), bs[m]? = some b → b ≠ D ∧ H2 b = some (.lst (bls n fun j => r m j || (r m u && r v j))))
      ⟨Same.upd1 hD, [], upd_same, rfl, fun m b z => by simp at z⟩ (fun i H2 _ ⟨s2, _⟩ => SqL.of (s2 _ _ ht)) ?_ ?_
    · rintro i x H2 hx ⟨s2, bs, h2, hbl, hbs⟩
      have hil : i < as.length := by
        have := (List.getElem?_eq_some_iff.mp hx).1
        rw [List.length_map] at this
        exact this
      have hxv : x = .ref as[i] := by
        rw [List.getElem?_map, List.getElem?_eq_getElem hil] at hx
        exact (Option.some.inj hx).symm
      subst hxv
      have hri := hat i _ (List.getElem?_eq_getElem hil)
      have fin : ∀ (q : Addr) (H3 : Hp), Same H2 H3 → H3 q = some (.lst (bls n fun j => r i j || (r i u && r v j))) → q ≠ D → ∃ acc, H3 D = some (.lst acc) ∧ acc.length < sizeLine ∧ Same H (L2.upd H3 D (.lst (acc ++ [.ref q]))) ∧ ∃ bs : List Addr, (L2.upd H3 D (.lst (acc ++ [.ref q]))) D = some (.lst (bs.map V.ref)) ∧ bs.length = i + 1 ∧ ∀ (m : Nat) (b : Addr), bs[m]? = some b → b ≠ D ∧ (L2.upd H3 D (.lst (acc ++ [.ref q]))) b = some (.lst (bls n fun j => r m j || (r m u && r v j))) := fun q H3 s3 hq nq => by
        refine ⟨_, s3 _ _ h2, small1000 (by rw [List.length_map, hbl]; omega), Same.upd (s2.trans s3) hD, bs ++ [q], ?_, ?_, fun m b z => ?_⟩
        · rw [upd_same, List.map_append]
          rfl
        · rw [List.length_append, hbl]
          rfl
        · by_cases e : m < bs.length
          · rw [List.getElem?_append_left e] at z
            obtain ⟨z1, z2⟩ := hbs m b z
            exact ⟨z1, by rw [upd_ne z1]; exact s3 _ _ z2⟩
          · rw [List.getElem?_append_right (by omega)] at z
            have q0 : m - bs.length = 0 := by
              have := (List.getElem?_eq_some_iff.mp z).1
              simp at this
              omega
            rw [q0] at z
            have e1 : q = b := Option.some.inj z
            subst e1
            have e2 : m = i := by omega
            subst e2
            exact ⟨nq, by rw [upd_ne nq]; exact hq⟩
      refine ⟨rfl, tyes ?_⟩
      refine ⟨_, rfl, _, rfl, a, _, _, _, rfl, rfl, SqT.of (s2 _ _ ha), at_of (j := 0) rfl rfl, as[i], _, _, _, rfl, rfl, SqL.of (s2 _ _ hri), at_of (j := u) rfl (rng_get hu), _, rfl, ite2 (fun hc => ?_) (fun hc => ?_)⟩
      · refine ⟨_, rfl, _, rfl, as[i], as[v], n, r i, r v, rfl, s2 _ _ hri, s2 _ _ hrv, hn, fun q H3 nq s3 hq => fin q H3 s3 ?_ (ne_of_none h2 nq).symm⟩
        rw [hq]
        refine congrArg (fun l => some (HO.lst l)) (bls_congr fun j hj => ?_)
        rw [show r i u = true from hc, Bool.true_and]
      · refine ⟨_, rfl, fin _ H2 (Same.refl _) ?_ (ne_of_none hri hD)⟩
        rw [s2 _ _ hri]
        refine congrArg (fun l => some (HO.lst l)) (bls_congr fun j hj => ?_)
        rw [show r i u = false from Bool.eq_false_iff.mpr hc, Bool.false_and, Bool.or_false]
    · rintro H2 ⟨s2, bs, h2, hbl, hbs⟩
      rw [List.length_map] at hbl
      exact k D H2 s2 ⟨bs, h2, by omega, fun m b z => (hbs m b z).2⟩
def spNeed : Sp := fun vs H Q _ => ∃ (t : Addr) (n : Nat) (r : Nat → Nat → Bool), vs = [.ref t] ∧ TblAt H t n r ∧ TW.Eqv n r ∧ n ≤ 100 ∧ ∀ (H' : Hp), Same H H' → Q (nI (TW.need n r)) H'
theorem ok_needed_at_least {f : Addr} {fd : FuncData} (F : Fun K "needed_at_least" "needed_at_least" s_needed_at_least f fd) (T : Txt0 mg) (G_firsts : Ok P w K mg base "firsts" 3 ["table"] spFirsts) (G_end_firsts : Ok P w K mg base "end_firsts" 4 ["table"] (spEnds TW.outs)) (G_start_firsts : Ok P w K mg base "start_firsts" 4 ["table"] (spEnds TW.ins)) :
    FnOk P w K mg base CX0 5 f fd ["table"] spNeed := by
  refine F.ok sc_needed_at_least (fun vs H Q E h => ?_) (fun cdv A outer s H vs Q E hr h => ?_)
  · obtain ⟨t, n, r, rfl, _⟩ := h
    rfl
  · obtain ⟨t, n, r, rfl, hT, hE, hn, k⟩ := h
    refine ⟨_, (pss_cons (ps_if (pt_cmpR op_eq (pe_callB (lenK K rfl) (by rfl) T.b_len bo_len (pa_cons (pe_ok G_firsts (hr.mono (by decide)) rfl (pa_cons (pv 0) pa_nil)) pa_nil)) pe_int (nomark _)) (pss_one (ps_ret pe_int)) pss_nil)
      (pss_one (ps_ret (pe_callB (call_max2 rfl) (by rfl) T.b_max bo_max (pa_cons (pe_callB (lenK K rfl) (by rfl) T.b_len bo_len (pa_cons (pe_ok G_end_firsts (hr.mono (by decide)) rfl (pa_cons (pv 0) pa_nil)) pa_nil)) (pa_cons (pe_callB (lenK K rfl) (by rfl) T.b_len bo_len (pa_cons (pe_ok G_start_firsts (hr.mono (by decide)) rfl (pa_cons (pv 0) pa_nil)) pa_nil)) pa_nil)))))), ?_⟩
    refine ⟨_, rfl, t, n, r, rfl, hT, hE, hn, fun p H2 s2 hp => ⟨p, _, rfl, .inl (SqL.of hp), rfl, _, rfl, ite2 (fun hc => ?_) (fun hc => ?_)⟩⟩
    · have h1 : (TW.fsts n r).length = 1 := by
        have z := of_decide_eq_true hc
        rw [List.length_map] at z
        injection z with z
        omega
      have q := k H2 s2
      unfold TW.need at q
      rw [if_pos h1] at q
      exact q
    · have h1 : ¬ (TW.fsts n r).length = 1 := fun z => hc (decide_eq_true (by rw [List.length_map, z]; rfl))
      refine ⟨_, rfl, t, n, r, rfl, hT.same s2, hE, hn, fun p1 H3 _ s3 h3 => ⟨p1, _, rfl, .inl (SqL.of h3), _, rfl, t, n, r, rfl, hT.same (s2.trans s3), hE, hn, fun p2 H4 _ s4 h4 => ⟨p2, _, rfl, .inl (SqL.of h4), _, _, rfl, ?_⟩⟩⟩
      have q := k H4 ((s2.trans s3).trans s4)
      unfold TW.need at q
      rw [if_neg h1] at q
      rw [List.length_map, List.length_map]
      refine cast (congrArg (fun v => Q v H4) ?_) q
      refine congrArg V.int ?_
      split <;> omega
end
end TP

end

section
set_option Elab.async false
set_option linter.all false
set_option maxRecDepth 100000
set_option maxHeartbeats 4000000
namespace TP
open PySem PySem.Spec PyProof.Rows L2 TR
theorem pe_con {X : Cx} {x : Str} {k : Int} {pos : Pos} (h : ∃ t, X.mg x = some (.int k t)) (hg : Gl X x) (hd : (x == ("__debug__" : Str)) = false := by decide) : PE X (.Name x pos) (tC (.int k)) := by
  obtain ⟨t, h⟩ := h
  exact pe_glob hg h ⟨t, rfl⟩ hd
/-! ### the wall as an object -/
def wf (m n : Nat) (l : Addr) : List (Str × V) := putF "ties" (.ref l) (putF "columns" (nI n) (putF "rows" (nI m) []))
theorem n_rc : ¬ (("rows" : Str) = "columns") := by decide +kernel
theorem n_rt : ¬ (("rows" : Str) = "ties") := by decide +kernel
theorem n_ct : ¬ (("columns" : Str) = "ties") := by decide +kernel
theorem wf_eq (m n : Nat) (l : Addr) : wf m n l = ([("rows", nI m), ("columns", nI n), ("ties", .ref l)] : List (Str × V)) := by
  unfold wf
  show putF "ties" (.ref l) (putF "columns" (nI n) [("rows", nI m)]) = _
  rw [show putF "columns" (nI n) [(("rows" : Str), nI m)] = (if ("rows" : Str) = "columns" then [(("rows" : Str), nI n)] else (("rows" : Str), nI m) :: [("columns", nI n)]) from rfl, if_neg n_rc]
  show (if ("rows" : Str) = "ties" then _ else (("rows" : Str), nI m) :: (if ("columns" : Str) = "ties" then _ else (("columns" : Str), nI n) :: [("ties", V.ref l)])) = _
  rw [if_neg n_rt, if_neg n_ct]
theorem wf_rows (m n : Nat) (l : Addr) : (wf m n l).lookup ("rows" : Str) = some (nI m) := by
  unfold wf
  rw [lookup_putF, if_neg n_rt, lookup_putF, if_neg n_rc, lookup_putF, if_pos rfl]
theorem wf_cols (m n : Nat) (l : Addr) : (wf m n l).lookup ("columns" : Str) = some (nI n) := by
  unfold wf
  rw [lookup_putF, if_neg n_ct, lookup_putF, if_pos rfl]
theorem wf_ties (m n : Nat) (l : Addr) : (wf m n l).lookup ("ties" : Str) = some (.ref l) := by
  unfold wf
  rw [lookup_putF, if_pos rfl]
theorem wf_pr (m n k : Nat) (l : Addr) : putF "rows" (nI k) (wf m n l) = wf k n l := by
  rw [wf_eq, wf_eq]
  show (if ("rows" : Str) = "rows" then (("rows" : Str), nI k) :: [("columns", nI n), ("ties", V.ref l)] else _) = _
  rw [if_pos rfl]
theorem wf_pc (m n k : Nat) (l : Addr) : putF "columns" (nI k) (wf m n l) = wf m k l := by
  rw [wf_eq, wf_eq]
  show (if ("rows" : Str) = "columns" then _ else (("rows" : Str), nI m) :: (if ("columns" : Str) = "columns" then (("columns" : Str), nI k) :: [("ties", V.ref l)] else _)) = _
  rw [if_neg n_rc, if_pos rfl]
theorem wf_pt (m n : Nat) (l l' : Addr) : putF "ties" (.ref l') (wf m n l) = wf m n l' := by
  rw [wf_eq, wf_eq]
  show (if ("rows" : Str) = "ties" then _ else (("rows" : Str), nI m) :: (if ("columns" : Str) = "ties" then _ else (("columns" : Str), nI n) :: (if ("ties" : Str) = "ties" then [("ties", V.ref l')] else _))) = _
  rw [if_neg n_rt, if_neg n_ct, if_pos rfl]
theorem wf_len (m n : Nat) (l : Addr) : (wf m n l).length = 3 := by
  rw [wf_eq]
  rfl
structure WallAt (C : Addr) (H : Hp) (p l : Addr) (a : Su124.Abs) : Prop where
  ob : ∃ dx, H p = some (.ins C dx (wf a.m a.n l))
  ts : SpotsAt H l a.ties
theorem WallAt.same {C : Addr} {H H' : Hp} {p l : Addr} {a : Su124.Abs} (W : WallAt C H p l a) (h : Same H H') : WallAt C H' p l a := by
  obtain ⟨⟨dx, h1⟩, h2⟩ := W
  exact ⟨⟨dx, h _ _ h1⟩, h2.same h⟩
structure Txt (K : PySem.W.Frag) (mg : Str → Option Value) (C : Addr) : Prop extends Txt0 mg where
  b_sum : mg "sum" = none
  b_tuple : mg "tuple" = none
  cl : Cls K C
  nR : NoAttr K C "rows"
  nC : NoAttr K C "columns"
  nT : NoAttr K C "ties"
  mg_Wall : mg "Wall" = some (.ref C)
  c_NONE_SUCH : ∃ t, mg "NONE_SUCH" = some (.int (-2) t)
  c_NOT_THERE : ∃ t, mg "NOT_THERE" = some (.int (-6) t)
  c_NOT_BEGUN : ∃ t, mg "NOT_BEGUN" = some (.int (-11) t)
  c_THERE_ALREADY : ∃ t, mg "THERE_ALREADY" = some (.int (-17) t)
  c_OUT_OF_RANGE : ∃ t, mg "OUT_OF_RANGE" = some (.int (-22) t)
  c_NOT_SO : ∃ t, mg "NOT_SO" = some (.int (-33) t)
  c_MOST_IN_A_LINE : ∃ t, mg "MOST_IN_A_LINE" = some (.int 5 t)
  c_KINDS : ∃ t, mg "KINDS" = some (.int 2 t)
  c_BEGIN : ∃ t, mg "BEGIN" = some (.int 0 t)
  c_TOO_MANY : ∃ t, mg "TOO_MANY" = some (.int (-28) t)
  c_NOT_REFUSED : ∃ t, mg "NOT_REFUSED" = some (.int 0 t)
  c_MOST_SQUARES_TO_PUT : ∃ t, mg "MOST_SQUARES_TO_PUT" = some (.int 9 t)
  c_MOST_TIES_TO_PUT : ∃ t, mg "MOST_TIES_TO_PUT" = some (.int 4 t)
  c_TURN : ∃ t, mg "TURN" = some (.int 11 t)
theorem dec2 {p q : Prop} [Decidable p] [Decidable q] (h : p ↔ q) : decide p = decide q := by
  by_cases z : p
  · rw [decide_eq_true z, decide_eq_true (h.mp z)]
  · rw [decide_eq_false z, decide_eq_false fun y => z (h.mpr y)]
theorem nodup_le {α : Type} [DecidableEq α] : ∀ {l L : List α}, l.Nodup → (∀ x, x ∈ l → x ∈ L) → l.length ≤ L.length
  | [], L, _, _ => Nat.zero_le _
  | x :: l, L, nd, h => by
    obtain ⟨h1, h2⟩ := List.nodup_cons.mp nd
    have hx := h x (by simp)
    have q := nodup_le (l := l) (L := L.erase x) h2 fun y hy => (List.mem_erase_of_ne (fun e => by subst e; exact h1 hy)).mpr (h y (List.mem_cons.mpr (.inr hy)))
    rw [List.length_erase_of_mem hx] at q
    have := List.length_pos_of_mem hx
    show l.length + 1 ≤ L.length
    omega
theorem all3_len (a : Su124.Abs) : a.all3.length = a.m * (a.n * 2) := by
  unfold Su124.Abs.all3
  have c : ∀ (k : Nat) (l : List Nat), (l.map fun _ => k).sum = l.length * k := fun k l => by
    induction l with
    | nil => rw [List.map_nil, List.sum_nil, List.length_nil, Nat.zero_mul]
    | cons x l ih =>
      rw [List.map_cons, List.sum_cons, ih, List.length_cons, Nat.succ_mul]
      exact Nat.add_comm _ _
  have h : ∀ i : Nat, ((List.range a.n).flatMap fun j => [(i, j, 0), (i, j, 1)]).length = a.n * 2 := fun i => by
    rw [List.length_flatMap]
    have q := c 2 (List.range a.n)
    rw [List.length_range] at q
    exact q
  rw [List.length_flatMap]
  have q := c (a.n * 2) (List.range a.m)
  rw [List.length_range] at q
  rw [← q]
  exact congrArg List.sum (List.map_congr_left fun i _ => h i)
theorem inv_len {a : Su124.Abs} (h : TW.Inv a) : a.ties.length ≤ 50 := by
  have q := nodup_le h.nd fun x hx => TW.mem_all3.mpr (h.ok x hx)
  rw [all3_len] at q
  have h1 := h.m5
  have h2 := h.n5
  have : a.m * (a.n * 2) ≤ 5 * 10 := Nat.mul_le_mul h1 (by omega)
  omega
/-! ### spots with their places -/
theorem zip_map_fst {α β : Type} : ∀ {as : List α} {bs : List β}, as.length = bs.length → (as.zip bs).map (·.1) = as
  | [], [], _ => rfl
  | [], _ :: _, h => by cases h
  | _ :: _, [], h => by cases h
  | a :: as, b :: bs, h => by
    rw [List.zip_cons_cons, List.map_cons, zip_map_fst (by simpa using h)]
theorem zip_map_snd {α β : Type} : ∀ {as : List α} {bs : List β}, as.length = bs.length → (as.zip bs).map (·.2) = bs
  | [], [], _ => rfl
  | [], _ :: _, h => by cases h
  | _ :: _, [], h => by cases h
  | a :: as, b :: bs, h => by
    rw [List.zip_cons_cons, List.map_cons, zip_map_snd (by simpa using h)]
abbrev sp3 (x : Nat × Nat × Nat) : HO := .tup [nI x.1, nI x.2.1, nI x.2.2]
def PairsAt (H : Hp) (ys : List (Addr × Nat × Nat × Nat)) (ts : List (Nat × Nat × Nat)) : Prop := ys.map (·.2) = ts ∧ ∀ y, y ∈ ys → H y.1 = some (sp3 y.2)
abbrev vR (y : Addr × Nat × Nat × Nat) : V := .ref y.1
theorem PairsAt.same {H H' : Hp} {ys : List (Addr × Nat × Nat × Nat)} {ts : List (Nat × Nat × Nat)} (h : PairsAt H ys ts) (s : Same H H') : PairsAt H' ys ts := ⟨h.1, fun y hy => s _ _ (h.2 y hy)⟩
theorem SpotsAt.pairs {H : Hp} {l : Addr} {ts : List (Nat × Nat × Nat)} (S : SpotsAt H l ts) : ∃ ys, H l = some (.lst (ys.map vR)) ∧ PairsAt H ys ts := by
  obtain ⟨as, h1, h2, h3⟩ := S
  refine ⟨as.zip ts, ?_, zip_map_snd h2, fun y hy => ?_⟩
  · rw [h1]
    refine congrArg (fun l => some (HO.lst l)) ?_
    conv => lhs; rw [← zip_map_fst h2]
    rw [List.map_map]
    rfl
  · obtain ⟨i, hi⟩ := List.getElem?_of_mem hy
    rw [List.getElem?_zip_eq_some] at hi
    obtain ⟨b, e1, e2⟩ := h3 i y.2 hi.2
    rw [hi.1] at e1
    cases e1
    exact e2
theorem PairsAt.spots {H : Hp} {l : Addr} {ys : List (Addr × Nat × Nat × Nat)} {ts : List (Nat × Nat × Nat)} (h : PairsAt H ys ts) (hl : H l = some (.lst (ys.map vR))) : SpotsAt H l ts := by
  obtain ⟨h1, h2⟩ := h
  subst h1
  refine ⟨ys.map (·.1), ?_, by rw [List.length_map, List.length_map], fun i x e => ?_⟩
  · rw [hl, List.map_map]
    rfl
  · rw [List.getElem?_map] at e ⊢
    cases z : ys[i]? with
    | none =>
      rw [z] at e
      cases e
    | some y =>
      rw [z] at e
      have e : y.2 = x := Option.some.inj e
      subst e
      exact ⟨y.1, rfl, h2 y (List.mem_of_getElem? z)⟩
theorem PairsAt.filter {H : Hp} {ys : List (Addr × Nat × Nat × Nat)} {ts : List (Nat × Nat × Nat)} (h : PairsAt H ys ts) (p : Nat × Nat × Nat → Bool) : PairsAt H (ys.filter fun y => p y.2) (ts.filter p) := by
  obtain ⟨h1, h2⟩ := h
  subst h1
  refine ⟨?_, fun y hy => h2 y (List.mem_filter.mp hy).1⟩
  rw [List.filter_map]
  rfl
theorem PairsAt.len {H : Hp} {ys : List (Addr × Nat × Nat × Nat)} {ts : List (Nat × Nat × Nat)} (h : PairsAt H ys ts) : ys.length = ts.length := by
  rw [← h.1, List.length_map]
/-- what a wall's table needs -/
structure Fit (a : Su124.Abs) : Prop where
  ok : ∀ x, x ∈ a.ties → x.1 < a.m ∧ x.2.1 < a.n ∧ x.2.2 < 2
  sz : a.size ≤ 10
  ln : a.ties.length ≤ 100
  ps : 0 < a.size
theorem TW_fit {a : Su124.Abs} (h : TW.Inv a) : Fit a := ⟨h.ok, h.size, Nat.le_trans (inv_len h) (by decide), h.pos⟩
theorem Fit.arr {a : Su124.Abs} (h : Fit a) : TW.ArrOk a := TW.arrOk_of h.ok
theorem TblAt.congr {H : Hp} {t : Addr} {n : Nat} {r r' : Nat → Nat → Bool} (T : TblAt H t n r) (h : ∀ i j, i < n → j < n → r i j = r' i j) : TblAt H t n r' := by
  obtain ⟨as, h1, h2, h3⟩ := T
  refine ⟨as, h1, h2, fun i a e => ?_⟩
  have hi : i < n := by
    have := (List.getElem?_eq_some_iff.mp e).1
    omega
  rw [h3 i a e]
  exact congrArg (fun l => some (HO.lst l)) (bls_congr fun j hj => h i j hi hj)
section
variable {P : Program} {w : World} {K : PySem.W.Frag} {mg : Str → Option Value} {base : Heap} {C : Addr}
def spCount (C : Addr) : Sp := fun vs H Q _ => ∃ (p l : Addr) (a : Su124.Abs), vs = [.ref p] ∧ WallAt C H p l a ∧ Q (nI a.size) H
theorem ok_strip_count {f : Addr} {fd : FuncData} (F : Fun K "strip_count" "strip_count" s_strip_count f fd) (T : Txt K mg C) : FnOk P w K mg base CX0 1 f fd ["wall"] (spCount C) := by
  refine F.ok sc_strip_count (fun vs H Q E h => ?_) (fun cdv A outer s H vs Q E hr h => ?_)
  · obtain ⟨p, l, a, rfl, _⟩ := h
    rfl
  · obtain ⟨p, l, a, rfl, W, k⟩ := h
    refine ⟨_, (pss_one (ps_ret (pe_op op_add (pe_fldK K rfl (pv 0) rfl) (pe_fldK K rfl (pv 0) rfl)))), ?_⟩
    obtain ⟨dx, hp⟩ := W.ob
    exact ⟨_, rfl, p, C, dx, _, _, rfl, hp, T.cl, T.nR, wf_rows _ _ _, _, rfl, p, C, dx, _, _, rfl, hp, T.cl, T.nC, wf_cols _ _ _, _, _, rfl, rfl, k⟩
def spWithout (C : Addr) : Sp := fun vs H Q _ => ∃ (p l b : Addr) (a : Su124.Abs) (i j d : Nat), vs = [.ref p, .ref b] ∧ WallAt C H p l a ∧ a.ties.length ≤ 100 ∧ H b = some (.tup [nI i, nI j, nI d]) ∧
  ∀ (q : Addr) (H' : Hp), H q = none → Same H H' → SpotsAt H' q (a.without i j d).ties → Q (.ref q) H'
theorem tup_inj {x y : Nat × Nat × Nat} (h : [(x.1 : Int), (x.2.1 : Int), (x.2.2 : Int)] = [(y.1 : Int), (y.2.1 : Int), (y.2.2 : Int)]) : x = y := by
  obtain ⟨a, b, c⟩ := x
  obtain ⟨d, e, f⟩ := y
  simp only [List.cons.injEq, and_true] at h
  obtain ⟨h1, h2, h3⟩ := h
  rw [Int.ofNat_inj.mp h1, Int.ofNat_inj.mp h2, Int.ofNat_inj.mp h3]
theorem ok_ties_without {f : Addr} {fd : FuncData} (F : Fun K "ties_without" "ties_without" s_ties_without f fd) (T : Txt K mg C) : FnOk P w K mg base CX0 1 f fd ["wall", "spot"] (spWithout C) := by
  refine F.ok sc_ties_without (fun vs H Q E h => ?_) (fun cdv A outer s H vs Q E hr h => ?_)
  · obtain ⟨p, l, b, a, i, j, d, rfl, _⟩ := h
    rfl
  · obtain ⟨p, l, b, a, i, j, d, rfl, W, hn, hb, k⟩ := h
    refine ⟨_, (pss_one (ps_ret (pe_lc rfl sc_ties_without.nd (pi_list (pe_fldK K rfl (pv 0) rfl)) (own := [("other", 2)]) (blkOk_by (N := ["wall", "spot", "other"]) (sc := defScope s_ties_without) (by decide +kernel)) (fun _ _ _ _ _ => (pg_name (i := 2) sc_ties_without.nd rfl (Or.inl rfl) (Or.inr rfl))) (fun _ _ _ _ _ => (pts_one (pt_cmpR (op_neT hr.units) (pv 2) (pv 1) (nomark _)))) (fun _ _ _ _ _ => (pv 2))))), ?_⟩
    obtain ⟨dx, hp⟩ := W.ob
    obtain ⟨ys, hl, hY⟩ := W.ts.pairs
    refine ⟨_, rfl, p, C, dx, _, _, rfl, hp, T.cl, T.nT, wf_ties _ _ _, l, rfl, ⟨_, SqL.of hl⟩, fun D hD => ?_⟩
    refine lcl _ ys (fun y => y.2 != (i, j, d)) vR hD hl (by rw [List.length_map]) (by rw [hY.len]; omega) (fun m v y H3 N M hi hy s3 hN hM => ⟨rfl, ?_⟩) (fun H3 s3 h3 => k D H3 hD s3 ((hY.same s3).filter (fun x => x != (i, j, d)) |>.spots h3))
    have hv : v = vR y := by
      rw [List.getElem?_map, hy] at hi
      exact (Option.some.inj hi).symm
    subst hv
    have hyt := s3 _ _ (hY.2 y (List.mem_of_getElem? hy))
    have e : (!(decide ([(y.2.1 : Int), (y.2.2.1 : Int), (y.2.2.2 : Int)] = [(i : Int), (j : Int), (d : Int)]))) = (y.2 != (i, j, d)) := by
      by_cases z : y.2 = (i, j, d)
      · rw [z]
        simp
      · rw [decide_eq_false (fun q => z (tup_inj (x := y.2) (y := (i, j, d)) q)), bne_iff_ne.mpr z]
        rfl
    refine ⟨_, rfl, _, rfl, b, y.1, [(y.2.1 : Int), (y.2.2.1 : Int), (y.2.2.2 : Int)], [(i : Int), (j : Int), (d : Int)], rfl, rfl, hyt, s3 _ _ hb, rfl, rfl, _, rfl, ?_⟩
    rw [if_pos rfl, e]
    refine ite2 (fun hc => ?_) (fun hc => ?_)
    · exact ⟨_, rfl, hN H3 (Same.refl _) hc⟩
    · exact hM H3 (Same.refl _) (Bool.eq_false_iff.mpr hc)
def spPasses (C : Addr) : Sp := fun vs H Q _ => ∃ (p l l2 : Addr) (a : Su124.Abs) (ts : List (Nat × Nat × Nat)), vs = [.ref p, .ref l2] ∧ WallAt C H p l a ∧ SpotsAt H l2 ts ∧ ts.length ≤ 100 ∧
  ∀ (q : Addr) (H' : Hp), H q = none → Same H H' → PassAt H' q (ts.map (TW.arr a.m)) → Q (.ref q) H'
theorem ok_passages_by {f : Addr} {fd : FuncData} (F : Fun K "passages_by" "passages_by" s_passages_by f fd) (T : Txt K mg C) (G_passage : Ok P w K mg base "passage" 1 ["rows", "spot"] spPassage) : FnOk P w K mg base CX0 2 f fd ["wall", "spots"] (spPasses C) := by
  refine F.ok sc_passages_by (fun vs H Q E h => ?_) (fun cdv A outer s H vs Q E hr h => ?_)
  · obtain ⟨p, l, l2, a, ts, rfl, _⟩ := h
    rfl
  · obtain ⟨p, l, l2, a, ts, rfl, W, hS, hts, k⟩ := h
    refine ⟨_, (pss_one (ps_ret (pe_lc rfl sc_passages_by.nd (pi_list (pv 1)) (own := [("spot", 2)]) (blkOk_by (N := ["wall", "spots", "spot"]) (sc := defScope s_passages_by) (by decide +kernel)) (fun _ _ _ _ _ => (pg_name (i := 2) sc_passages_by.nd rfl (Or.inl rfl) (Or.inr rfl))) (fun _ _ _ _ _ => pts_nil) (fun _ _ _ _ _ => (pe_ok G_passage (hr.mono (by decide)) rfl (pa_cons (pe_fldK K rfl (pv 0) rfl) (pa_cons (pv 2) pa_nil))))))), ?_⟩
    obtain ⟨dx, hp⟩ := W.ob
    obtain ⟨as, hl, hlen, hat⟩ := hS
    refine ⟨_, rfl, l2, rfl, ⟨_, SqL.of hl⟩, fun D hD => ?_⟩
    refine lc_list (K := K) (a := l2) (xs := as.map V.ref) (Pv := fun i H2 => Same H H2 ∧ ∃ bs : List Addr, H2 D = some (.lst (bs.map V.ref)) ∧ bs.length = i ∧ ∀ (m : Nat) (x : Nat × Nat × Nat), m < i → ts[m]? = some x → ∃ b, bs[m]? = some b ∧ H2 b = some (.tup [nI (TW.arr a.m x).1, nI (TW.arr a.m x).2]))
      ⟨Same.upd1 hD, [], upd_same, rfl, fun m x z => absurd z (Nat.not_lt_zero _)⟩ (fun i H2 _ ⟨s2, _⟩ => SqL.of (s2 _ _ hl)) ?_ ?_
    · rintro i v H2 hi ⟨s2, bs, h2, hbl, hbs⟩
      have hil : i < as.length := by
        have := (List.getElem?_eq_some_iff.mp hi).1
        rw [List.length_map] at this
        exact this
      obtain ⟨x, hx⟩ : ∃ x, ts[i]? = some x := ⟨_, List.getElem?_eq_getElem (by omega)⟩
      obtain ⟨b, eb, hb⟩ := hat i x hx
      have hv : v = .ref b := by
        rw [List.getElem?_map, eb] at hi
        exact (Option.some.inj hi).symm
      subst hv
      refine ⟨rfl, tyes ?_⟩
      refine ⟨_, rfl, p, C, dx, _, _, rfl, s2 _ _ hp, T.cl, T.nR, wf_rows _ _ _, _, rfl, a.m, x.1, x.2.1, x.2.2, b, rfl, s2 _ _ hb, fun q H3 s3 hq => ?_⟩
      have nq : q ≠ D := ne_of hq (s3 _ _ h2) (by intro z; cases z)
      refine ⟨_, s3 _ _ h2, small1000 (by rw [List.length_map, hbl]; omega), Same.upd (s2.trans s3) hD, bs ++ [q], ?_, ?_, fun m y hm e => ?_⟩
      · rw [upd_same, List.map_append]
        rfl
      · rw [List.length_append, hbl]
        rfl
      · by_cases z : m < i
        · obtain ⟨c, e1, e2⟩ := hbs m y z e
          have nc : c ≠ D := ne_of e2 h2 (by intro z; cases z)
          exact ⟨c, by rw [List.getElem?_append_left (by omega)]; exact e1, by rw [upd_ne nc]; exact s3 _ _ e2⟩
        · have e2 : m = i := by omega
          subst e2
          rw [hx] at e
          cases e
          refine ⟨q, ?_, by rw [upd_ne nq]; exact hq⟩
          rw [List.getElem?_append_right (by omega), hbl, Nat.sub_self]
          rfl
    · rintro H2 ⟨s2, bs, h2, hbl, hbs⟩
      rw [List.length_map] at hbl hbs
      refine k D H2 hD s2 ⟨bs, h2, by rw [List.length_map]; omega, fun i x e => ?_⟩
      rw [List.getElem?_map] at e
      cases z : ts[i]? with
      | none =>
        rw [z] at e
        cases e
      | some y =>
        rw [z] at e
        have e : TW.arr a.m y = x := Option.some.inj e
        subst e
        exact hbs i y (by have := (List.getElem?_eq_some_iff.mp z).1; omega) z
/-- the table of a wall with the same squares and other ties -/
def spTabBy (C : Addr) : Sp := fun vs H Q _ => ∃ (p l l2 : Addr) (a b : Su124.Abs), vs = [.ref p, .ref l2] ∧ WallAt C H p l a ∧ SpotsAt H l2 b.ties ∧ b.m = a.m ∧ b.n = a.n ∧ Fit b ∧
  ∀ (t : Addr) (H' : Hp), Same H H' → TblAt H' t b.size (TW.R b) → Q (.ref t) H'
theorem ok_table_by {f : Addr} {fd : FuncData} (F : Fun K "table_by" "table_by" s_table_by f fd) (T : Txt K mg C) (G_passages_by : Ok P w K mg base "passages_by" 2 ["wall", "spots"] (spPasses C)) (G_reach_table : Ok P w K mg base "reach_table" 2 ["count", "passages"] spTable)
    (G_strip_count : Ok P w K mg base "strip_count" 1 ["wall"] (spCount C)) : FnOk P w K mg base CX0 3 f fd ["wall", "spots"] (spTabBy C) := by
  refine F.ok sc_table_by (fun vs H Q E h => ?_) (fun cdv A outer s H vs Q E hr h => ?_)
  · obtain ⟨p, l, l2, a, b, rfl, _⟩ := h
    rfl
  · obtain ⟨p, l, l2, a, b, rfl, W, hS, hm, hn, hF, k⟩ := h
    refine ⟨_, (pss_one (ps_ret (pe_ok G_reach_table (hr.mono (by decide)) rfl (pa_cons (pe_ok G_strip_count (hr.mono (by decide)) rfl (pa_cons (pv 0) pa_nil)) (pa_cons (pe_ok G_passages_by (hr.mono (by decide)) rfl (pa_cons (pv 0) (pa_cons (pv 1) pa_nil))) pa_nil))))), ?_⟩
    have hsz : a.size = b.size := by unfold Su124.Abs.size; omega
    refine ⟨_, rfl, p, l, a, rfl, W, _, rfl, _, rfl, p, l, l2, a, b.ties, rfl, W, hS, hF.ln, fun q H2 _ s2 hq => ?_⟩
    rw [hsz]
    refine ⟨b.size, q, b.arrows, rfl, ?_, hF.arr, Nat.le_trans hF.sz (by decide), fun t H3 s3 ht => ?_⟩
    · rw [TW.arrows_eq, hm]
      exact hq
    · refine k t H3 (s2.trans s3) (ht.congr fun i j hi hj => ?_)
      rw [Bool.eq_iff_iff, pth_iff]
      exact (TW.R_iff hF.arr hi).symm
def spTab (C : Addr) : Sp := fun vs H Q _ => ∃ (p l : Addr) (a : Su124.Abs), vs = [.ref p] ∧ WallAt C H p l a ∧ Fit a ∧
  ∀ (t : Addr) (H' : Hp), Same H H' → TblAt H' t a.size (TW.R a) → Q (.ref t) H'
theorem ok_table_of {f : Addr} {fd : FuncData} (F : Fun K "table_of" "table_of" s_table_of f fd) (T : Txt K mg C) (G_table_by : Ok P w K mg base "table_by" 3 ["wall", "spots"] (spTabBy C)) : FnOk P w K mg base CX0 4 f fd ["wall"] (spTab C) := by
  refine F.ok sc_table_of (fun vs H Q E h => ?_) (fun cdv A outer s H vs Q E hr h => ?_)
  · obtain ⟨p, l, a, rfl, _⟩ := h
    rfl
  · obtain ⟨p, l, a, rfl, W, hF, k⟩ := h
    refine ⟨_, (pss_one (ps_ret (pe_ok G_table_by (hr.mono (by decide)) rfl (pa_cons (pv 0) (pa_cons (pe_fldK K rfl (pv 0) rfl) pa_nil))))), ?_⟩
    obtain ⟨dx, hp⟩ := W.ob
    exact ⟨_, rfl, _, rfl, p, C, dx, _, _, rfl, hp, T.cl, T.nT, wf_ties _ _ _, p, l, l, a, a, rfl, W, W.ts, rfl, rfl, hF, k⟩
def spPc (C : Addr) : Sp := fun vs H Q _ => ∃ (p l : Addr) (a : Su124.Abs), vs = [.ref p] ∧ WallAt C H p l a ∧ Fit a ∧ ∀ (H' : Hp), Same H H' → Q (nI a.parts.length) H'
theorem ok_part_count {f : Addr} {fd : FuncData} (F : Fun K "part_count" "part_count" s_part_count f fd) (T : Txt K mg C) (G_table_of : Ok P w K mg base "table_of" 4 ["wall"] (spTab C)) (G_firsts : Ok P w K mg base "firsts" 3 ["table"] spFirsts) : FnOk P w K mg base CX0 5 f fd ["wall"] (spPc C) := by
  refine F.ok sc_part_count (fun vs H Q E h => ?_) (fun cdv A outer s H vs Q E hr h => ?_)
  · obtain ⟨p, l, a, rfl, _⟩ := h
    rfl
  · obtain ⟨p, l, a, rfl, W, hF, k⟩ := h
    refine ⟨_, (pss_one (ps_ret (pe_callB (lenK K rfl) (by rfl) T.b_len bo_len (pa_cons (pe_ok G_firsts (hr.mono (by decide)) rfl (pa_cons (pe_ok G_table_of (hr.mono (by decide)) rfl (pa_cons (pv 0) pa_nil)) pa_nil)) pa_nil)))), ?_⟩
    refine ⟨_, rfl, p, l, a, rfl, W, hF, fun t H2 s2 ht => ⟨t, a.size, TW.R a, rfl, ht, TW.eqv_of hF.arr, Nat.le_trans hF.sz (by decide), fun q H3 s3 hq => ⟨q, _, rfl, .inl (SqL.of hq), ?_⟩⟩⟩
    rw [List.length_map]
    exact k H3 (s2.trans s3)
def spSquare (C : Addr) : Sp := fun vs H Q _ => ∃ (p l : Addr) (a : Su124.Abs) (i j : Nat), vs = [.ref p, nI i, nI j] ∧ WallAt C H p l a ∧ Q (.bl (decide (i < a.m) && decide (j < a.n))) H
theorem ok_has_square {f : Addr} {fd : FuncData} (F : Fun K "has_square" "has_square" s_has_square f fd) (T : Txt K mg C) : FnOk P w K mg base CX0 1 f fd ["wall", "row", "column"] (spSquare C) := by
  refine F.ok sc_has_square (fun vs H Q E h => ?_) (fun cdv A outer s H vs Q E hr h => ?_)
  · obtain ⟨p, l, a, i, j, rfl, _⟩ := h
    rfl
  · obtain ⟨p, l, a, i, j, rfl, W, k⟩ := h
    refine ⟨_, (pss_one (ps_ret (pe_and (pe_cmpR op_lt (pv 1) (pe_fldK K rfl (pv 0) rfl) (nomark _)) (pe_one (pe_cmpR op_lt (pv 2) (pe_fldK K rfl (pv 0) rfl) (nomark _)))))), ?_⟩
    obtain ⟨dx, hp⟩ := W.ob
    refine ⟨_, rfl, _, rfl, p, C, dx, _, _, rfl, hp, T.cl, T.nR, wf_rows _ _ _, _, _, rfl, rfl, _, rfl, ite2 (fun hc => ?_) (fun hc => ?_)⟩
    · have hi : i < a.m := by
        have := of_decide_eq_true hc
        omega
      rw [decide_eq_true hi, Bool.true_and] at k
      refine ⟨_, rfl, _, rfl, p, C, dx, _, _, rfl, hp, T.cl, T.nC, wf_cols _ _ _, _, _, rfl, rfl, ?_⟩
      rw [dec2 (show j < a.n ↔ (j : Int) < (a.n : Int) by omega)] at k
      exact k
    · have hi : ¬ i < a.m := fun z => hc (decide_eq_true (by omega))
      rw [decide_eq_false hi] at k
      exact k
def spHasSpot (C : Addr) : Sp := fun vs H Q _ => ∃ (p l b : Addr) (a : Su124.Abs) (i j d : Nat), vs = [.ref p, .ref b] ∧ WallAt C H p l a ∧ H b = some (.tup [nI i, nI j, nI d]) ∧ Q (.bl (a.isS i j d)) H
theorem isS_eq (a : Su124.Abs) (i j d : Nat) : a.isS i j d = ((decide (i < a.m) && decide (j < a.n)) && decide (d < 2)) := by
  unfold Su124.Abs.isS
  rw [dec2 (show d ≤ 1 ↔ d < 2 by omega), Bool.and_assoc]
theorem ok_has_spot {f : Addr} {fd : FuncData} (F : Fun K "has_spot" "has_spot" s_has_spot f fd) (T : Txt K mg C) (G_has_square : Ok P w K mg base "has_square" 1 ["wall", "row", "column"] (spSquare C)) : FnOk P w K mg base CX0 2 f fd ["wall", "spot"] (spHasSpot C) := by
  refine F.ok sc_has_spot (fun vs H Q E h => ?_) (fun cdv A outer s H vs Q E hr h => ?_)
  · obtain ⟨p, l, b, a, i, j, d, rfl, _⟩ := h
    rfl
  · obtain ⟨p, l, b, a, i, j, d, rfl, W, hb, k⟩ := h
    refine ⟨_, (pss_one (ps_ret (pe_and (pe_ok G_has_square (hr.mono (by decide)) rfl (pa_cons (pv 0) (pa_cons (pe_ix (ixt K rfl) (pv 1) pe_int (fun _ _ => rfl)) (pa_cons (pe_ix (ixt K rfl) (pv 1) pe_int (fun _ _ => rfl)) pa_nil)))) (pe_one (pe_cmpR op_lt (pe_ix (ixt K rfl) (pv 1) pe_int (fun _ _ => rfl)) (pe_con T.c_KINDS rfl) (nomark _)))))), ?_⟩
    rw [isS_eq] at k
    refine ⟨_, rfl, _, rfl, b, _, _, _, rfl, rfl, SqT.of hb, at_of (j := 0) rfl rfl, _, rfl, b, _, _, _, rfl, rfl, SqT.of hb, at_of (j := 1) rfl rfl, p, l, a, i, j, rfl, W, _, rfl, ite2 (fun hc => ?_) (fun hc => ?_)⟩
    · rw [hc, Bool.true_and] at k
      refine ⟨_, rfl, b, _, _, _, rfl, rfl, SqT.of hb, at_of (j := 2) rfl rfl, _, _, rfl, rfl, ?_⟩
      rw [dec2 (show d < 2 ↔ (d : Int) < 2 by omega)] at k
      exact k
    · rw [Bool.eq_false_iff.mpr hc] at k
      exact k
def spHasStrip (C : Addr) : Sp := fun vs H Q _ => ∃ (p l : Addr) (a : Su124.Abs) (s : Nat), vs = [.ref p, nI s] ∧ WallAt C H p l a ∧ Q (.bl (decide (s < a.size))) H
theorem ok_has_strip {f : Addr} {fd : FuncData} (F : Fun K "has_strip" "has_strip" s_has_strip f fd) (T : Txt K mg C) (G_strip_count : Ok P w K mg base "strip_count" 1 ["wall"] (spCount C)) : FnOk P w K mg base CX0 2 f fd ["wall", "strip"] (spHasStrip C) := by
  refine F.ok sc_has_strip (fun vs H Q E h => ?_) (fun cdv A outer s H vs Q E hr h => ?_)
  · obtain ⟨p, l, a, s, rfl, _⟩ := h
    rfl
  · obtain ⟨p, l, a, s, rfl, W, k⟩ := h
    refine ⟨_, (pss_one (ps_ret (pe_cmpR op_lt (pv 1) (pe_ok G_strip_count (hr.mono (by decide)) rfl (pa_cons (pv 0) pa_nil)) (nomark _)))), ?_⟩
    refine ⟨_, rfl, _, rfl, p, l, a, rfl, W, _, _, rfl, rfl, ?_⟩
    rw [dec2 (show s < a.size ↔ (s : Int) < (a.size : Int) by omega)] at k
    exact k
def spRange : Sp := fun vs H Q _ => ∃ (z : Nat), vs = [nI z] ∧ Q (.bl (decide (1 ≤ z) && decide (z ≤ 5))) H
theorem ok_in_range {f : Addr} {fd : FuncData} (F : Fun K "in_range" "in_range" s_in_range f fd) (T : Txt K mg C) : FnOk P w K mg base CX0 1 f fd ["size"] spRange := by
  refine F.ok sc_in_range (fun vs H Q E h => ?_) (fun cdv A outer s H vs Q E hr h => ?_)
  · obtain ⟨z, rfl, _⟩ := h
    rfl
  · obtain ⟨z, rfl, k⟩ := h
    refine ⟨_, (pss_one (ps_ret (pe_and (pe_cmpR op_le pe_int (pv 0) (nomark _)) (pe_one (pe_cmpR op_le (pv 0) (pe_con T.c_MOST_IN_A_LINE rfl) (nomark _)))))), ?_⟩
    refine ⟨_, rfl, _, _, rfl, rfl, _, rfl, ite2 (fun hc => ?_) (fun hc => ?_)⟩
    · have h1 : 1 ≤ z := by
        have := of_decide_eq_true hc
        omega
      rw [decide_eq_true h1, Bool.true_and] at k
      refine ⟨_, rfl, _, _, rfl, rfl, ?_⟩
      rw [dec2 (show z ≤ 5 ↔ (z : Int) ≤ 5 by omega)] at k
      exact k
    · have h1 : ¬ 1 ≤ z := fun y => hc (decide_eq_true (by omega))
      rw [decide_eq_false h1] at k
      exact k
def spNumber : Sp := fun vs H Q _ => ∃ (b : Bool), vs = [.bl b] ∧ Q (nI (Su124.bit b)) H
theorem ok_as_number {f : Addr} {fd : FuncData} (F : Fun K "as_number" "as_number" s_as_number f fd) : FnOk P w K mg base CX0 1 f fd ["truth"] spNumber := by
  refine F.ok sc_as_number (fun vs H Q E h => ?_) (fun cdv A outer s H vs Q E hr h => ?_)
  · obtain ⟨z, rfl, _⟩ := h
    rfl
  · obtain ⟨z, rfl, k⟩ := h
    refine ⟨_, (pss_one (ps_ret (pe_ifExp (pt_val (pv 0)) pe_int pe_int))), ?_⟩
    refine ⟨_, rfl, _, rfl, ite2 (fun hc => ?_) (fun hc => ?_)⟩
    · subst hc
      exact k
    · have hc : z = false := Bool.eq_false_iff.mpr hc
      subst hc
      exact k
end
end TP

end

section
set_option Elab.async false
set_option linter.all false
set_option maxRecDepth 100000
set_option maxHeartbeats 4000000
namespace TP
open PySem PySem.Spec PyProof.Rows L2 TR
theorem SpotsAt.snoc {H : Hp} {l q : Addr} {ts : List (Nat × Nat × Nat)} {as : List Addr} {x : Nat × Nat × Nat} (hl : H l = some (.lst (as.map V.ref))) (hlen : as.length = ts.length)
    (hat : ∀ (i : Nat) (x : Nat × Nat × Nat), ts[i]? = some x → ∃ a, as[i]? = some a ∧ H a = some (.tup [nI x.1, nI x.2.1, nI x.2.2])) (hq : H q = some (.tup [nI x.1, nI x.2.1, nI x.2.2])) :
    SpotsAt (L2.upd H l (.lst (as.map V.ref ++ [.ref q]))) l (ts ++ [x]) := by
  refine ⟨as ++ [q], ?_, ?_, fun i y e => ?_⟩
  · rw [upd_same, List.map_append]
    rfl
  · rw [List.length_append, List.length_append, hlen]
    rfl
  · by_cases z : i < ts.length
    · rw [List.getElem?_append_left z] at e
      obtain ⟨a, e1, e2⟩ := hat i y e
      exact ⟨a, by rw [List.getElem?_append_left (by omega)]; exact e1, by rw [upd_ne (ne_of e2 hl (by intro z; cases z))]; exact e2⟩
    · rw [List.getElem?_append_right (by omega)] at e
      have z0 : i - ts.length = 0 := by
        have := (List.getElem?_eq_some_iff.mp e).1
        simp at this
        omega
      rw [z0] at e
      have e : x = y := Option.some.inj e
      subst e
      refine ⟨q, ?_, by rw [upd_ne (ne_of hq hl (by intro z; cases z))]; exact hq⟩
      rw [List.getElem?_append_right (by omega), hlen, z0]
      rfl
theorem PassAt.snoc {H : Hp} {l q : Addr} {ts : List (Nat × Nat)} {as : List Addr} {x : Nat × Nat} (hl : H l = some (.lst (as.map V.ref))) (hlen : as.length = ts.length)
    (hat : ∀ (i : Nat) (x : Nat × Nat), ts[i]? = some x → ∃ a, as[i]? = some a ∧ H a = some (.tup [nI x.1, nI x.2])) (hq : H q = some (.tup [nI x.1, nI x.2])) :
    PassAt (L2.upd H l (.lst (as.map V.ref ++ [.ref q]))) l (ts ++ [x]) := by
  refine ⟨as ++ [q], ?_, ?_, fun i y e => ?_⟩
  · rw [upd_same, List.map_append]
    rfl
  · rw [List.length_append, List.length_append, hlen]
    rfl
  · by_cases z : i < ts.length
    · rw [List.getElem?_append_left z] at e
      obtain ⟨a, e1, e2⟩ := hat i y e
      exact ⟨a, by rw [List.getElem?_append_left (by omega)]; exact e1, by rw [upd_ne (ne_of e2 hl (by intro z; cases z))]; exact e2⟩
    · rw [List.getElem?_append_right (by omega)] at e
      have z0 : i - ts.length = 0 := by
        have := (List.getElem?_eq_some_iff.mp e).1
        simp at this
        omega
      rw [z0] at e
      have e : x = y := Option.some.inj e
      subst e
      refine ⟨q, ?_, by rw [upd_ne (ne_of hq hl (by intro z; cases z))]; exact hq⟩
      rw [List.getElem?_append_right (by omega), hlen, z0]
      rfl
/-- all but the list under way stays -/
def KeepD (D : Addr) (H H' : Hp) : Prop := ∀ b o, H b = some o → b ≠ D → H' b = some o
theorem KeepD.refl (D : Addr) (H : Hp) : KeepD D H H := fun _ _ e _ => e
theorem KeepD.step {D : Addr} {H H' H2 : Hp} {o : HO} (k : KeepD D H H') (s : Same H' H2) : KeepD D H (L2.upd H2 D o) := fun b u e hb => by
  rw [upd_ne hb]
  exact s _ _ (k b u e hb)
theorem KeepD.same {D : Addr} {H0 H H' : Hp} (k : KeepD D H H') (s : Same H0 H) (hD : H0 D = none) : Same H0 H' := fun b u e => k b u (s b u e) (ne_of_none e hD)
theorem KeepD.pass {D q : Addr} {H H' : Hp} {e : List (Nat × Nat)} {vs : List V} (k : KeepD D H H') (hD : H D = some (.lst vs)) (hq : q ≠ D) (P : PassAt H q e) : PassAt H' q e := by
  obtain ⟨as, h1, h2, h3⟩ := P
  refine ⟨as, k _ _ h1 hq, h2, fun i x z => ?_⟩
  obtain ⟨a, e1, e2⟩ := h3 i x z
  exact ⟨a, e1, k _ _ e2 (ne_of e2 hD (by intro z; cases z))⟩
/-- the squares, row by row -/
def sq1 (n r : Nat) : List (Nat × Nat) := (List.range r).flatMap fun i => (List.range n).map fun j => (i, j)
def sq2 (r c : Nat) : List (Nat × Nat) := (List.range c).map fun j => (r, j)
theorem sq2_snoc (r c : Nat) : sq2 r (c + 1) = sq2 r c ++ [(r, c)] := by
  unfold sq2
  rw [List.range_succ, List.map_append]
  rfl
theorem sq1_snoc (n r : Nat) : sq1 n (r + 1) = sq1 n r ++ sq2 r n := by
  unfold sq1
  rw [List.range_succ, List.flatMap_append, List.flatMap_cons, List.flatMap_nil, List.append_nil]
  rfl
theorem sq2_len (r c : Nat) : (sq2 r c).length = c := by
  unfold sq2
  rw [List.length_map, List.length_range]
theorem sq1_len (n r : Nat) : (sq1 n r).length = r * n := by
  induction r with
  | zero =>
    rw [Nat.zero_mul]
    rfl
  | succ r ih => rw [sq1_snoc, List.length_append, ih, sq2_len, Nat.succ_mul]
theorem mem_sq1 {n r : Nat} {x : Nat × Nat} (h : x ∈ sq1 n r) : x.1 < r ∧ x.2 < n := by
  unfold sq1 at h
  obtain ⟨i, hi, h⟩ := List.mem_flatMap.mp h
  obtain ⟨j, hj, rfl⟩ := List.mem_map.mp h
  exact ⟨List.mem_range.mp hi, List.mem_range.mp hj⟩
def two (x : Nat × Nat) : List (Nat × Nat × Nat) := [(x.1, x.2, 0), (x.1, x.2, 1)]
theorem all3_sq (a : Su124.Abs) : (sq1 a.n a.m).flatMap two = a.all3 := by
  unfold sq1 Su124.Abs.all3
  rw [List.flatMap_assoc]
  refine congrArg (fun f => List.flatMap f (List.range a.m)) (funext fun i => ?_)
  rw [List.flatMap_map]
  rfl
theorem two_len (l : List (Nat × Nat)) : (l.flatMap two).length = l.length * 2 := by
  induction l with
  | nil => rfl
  | cons x l ih =>
    rw [List.flatMap_cons, List.length_append, ih, List.length_cons]
    show 2 + _ = _
    omega
section
variable {P : Program} {w : World} {K : PySem.W.Frag} {mg : Str → Option Value} {base : Heap} {C : Addr}
def spSquares (C : Addr) : Sp := fun vs H Q _ => ∃ (p l : Addr) (a : Su124.Abs), vs = [.ref p] ∧ WallAt C H p l a ∧ a.m ≤ 5 ∧ a.n ≤ 5 ∧
  ∀ (q : Addr) (H' : Hp), H q = none → Same H H' → PassAt H' q (sq1 a.n a.m) → Q (.ref q) H'
theorem ok_all_squares {f : Addr} {fd : FuncData} (F : Fun K "all_squares" "all_squares" s_all_squares f fd) (T : Txt K mg C) : FnOk P w K mg base CX0 1 f fd ["wall"] (spSquares C) := by
  refine F.ok sc_all_squares (fun vs H Q E h => ?_) (fun cdv A outer s H vs Q E hr h => ?_)
  · obtain ⟨p, l, a, rfl, _⟩ := h
    rfl
  · obtain ⟨p, l, a, rfl, W, hm, hn, k⟩ := h
    refine ⟨_, (pss_cons (ps_set (i := 1) sc_all_squares.nd rfl (Or.inl rfl) (pe_lst pa_nil))
      (pss_cons (ps_for PassesOwn.never rfl (pi_range1 rfl T.b_range (pa_cons (pe_fldK K rfl (pv 0) rfl) pa_nil)) (pg_name (i := 2) sc_all_squares.nd rfl (Or.inl rfl)) (pss_one (ps_for PassesOwn.never rfl (pi_range1 rfl T.b_range (pa_cons (pe_fldK K rfl (pv 0) rfl) pa_nil)) (pg_name (i := 3) sc_all_squares.nd rfl (Or.inl rfl)) (pss_one (ps_expr (pe_bm PySem.F.plainAttrs_list PySem.F.slot_list_append PySem.F.type_list_append mt_append (pv 1) (pa_cons (pe_tup (pa_cons (pv 2) (pa_cons (pv 3) pa_nil))) pa_nil)))))))
      (pss_one (ps_ret (pv 1))))), ?_⟩
    obtain ⟨dx, hp⟩ := W.ob
    refine ⟨Nat.zero_le _, fun D hD => ?_⟩
    have s1 : Same H (L2.upd H D (.lst [])) := Same.upd1 hD
    have bnd : ∀ r c, r < a.m → c < a.n → (sq1 a.n r ++ sq2 r c).length ≤ 100 := fun r c hr hc => by
      rw [List.length_append, sq1_len, sq2_len]
      have : r * a.n ≤ 5 * 5 := Nat.mul_le_mul (by omega) (by omega)
      omega
    refine ⟨_, rfl, p, C, dx, _, _, rfl, s1 _ _ hp, T.cl, T.nR, wf_rows _ _ _, _, rfl, (by omega), (by omega), for_range (n := ((a.m : Nat) : Int).toNat) (fun r σ H2 => ∃ o2 o3 : Option V, σ = [some (.ref p), some (.ref D), o2, o3] ∧ Same H H2 ∧ PassAt H2 D (sq1 a.n r)) ?_ ?_ ?_⟩
    · exact ⟨none, none, rfl, s1, [], upd_same, rfl, fun i x z => by cases z⟩
    · rintro r σ H2 hrm ⟨o2, o3, rfl, s2, N2⟩
      refine ⟨_, rfl, p, C, dx, _, _, rfl, s2 _ _ hp, T.cl, T.nC, wf_cols _ _ _, _, rfl, (by omega), (by omega), for_range (n := ((a.n : Nat) : Int).toNat) (fun c σ H3 => ∃ o3 : Option V, σ = [some (.ref p), some (.ref D), some (.int (0 + (r : Int))), o3] ∧ Same H H3 ∧ PassAt H3 D (sq1 a.n r ++ sq2 r c)) ?_ ?_ ?_⟩
      · refine ⟨o3, rfl, s2, ?_⟩
        rw [show sq2 r 0 = [] from rfl, List.append_nil]
        exact N2
      · rintro c σ H3 hcn ⟨o3, rfl, s3, as, hD3, hlen3, hat3⟩
        refine ⟨_, rfl, .inl ⟨rfl, _, SqL.of hD3⟩, _, rfl, _, rfl, (by show 2 ≤ sizeLine; decide), fun q hq => ?_⟩
        have nq : D ≠ q := ne_of_none hD3 hq
        have s4 : Same H3 (L2.upd H3 q (.tup [nI r, nI c])) := Same.upd1 hq
        rw [Int.zero_add, Int.zero_add]
        refine ⟨D, _, _, rfl, rfl, (by rw [upd_ne nq]; exact hD3), small1000 (by rw [List.length_map, hlen3]; have := bnd r c (by omega) (by omega); omega), _, rfl, Same.upd (s3.trans s4) hD, ?_⟩
        rw [sq2_snoc, ← List.append_assoc]
        exact PassAt.snoc (x := (r, c)) (s4 _ _ hD3) hlen3 (fun i y e => let ⟨a, e1, e2⟩ := hat3 i y e; ⟨a, e1, s4 _ _ e2⟩) upd_same
      · rintro σ H3 ⟨o3, rfl, s3, N3⟩
        rw [show ((a.n : Nat) : Int).toNat = a.n by omega, ← sq1_snoc] at N3
        exact ⟨_, _, rfl, s3, N3⟩
    · rintro σ H2 ⟨o2, o3, rfl, s2, N2⟩
      rw [show ((a.m : Nat) : Int).toNat = a.m by omega] at N2
      exact ⟨_, rfl, k D H2 hD s2 N2⟩
def spAll (C : Addr) : Sp := fun vs H Q _ => ∃ (p l : Addr) (a : Su124.Abs), vs = [.ref p] ∧ WallAt C H p l a ∧ a.m ≤ 5 ∧ a.n ≤ 5 ∧
  ∀ (q : Addr) (H' : Hp), H q = none → Same H H' → SpotsAt H' q a.all3 → Q (.ref q) H'
theorem ok_all_spots {f : Addr} {fd : FuncData} (F : Fun K "all_spots" "all_spots" s_all_spots f fd) (T : Txt K mg C) (G_all_squares : Ok P w K mg base "all_squares" 1 ["wall"] (spSquares C)) : FnOk P w K mg base CX0 2 f fd ["wall"] (spAll C) := by
  refine F.ok sc_all_spots (fun vs H Q E h => ?_) (fun cdv A outer s H vs Q E hr h => ?_)
  · obtain ⟨p, l, a, rfl, _⟩ := h
    rfl
  · obtain ⟨p, l, a, rfl, W, hm, hn, k⟩ := h
    refine ⟨_, (pss_cons (ps_set (i := 1) sc_all_spots.nd rfl (Or.inl rfl) (pe_lst pa_nil))
      (pss_cons (ps_for PassesOwn.never rfl (pi_list (pe_ok G_all_squares (hr.mono (by decide)) rfl (pa_cons (pv 0) pa_nil))) (pg_tupK (n := 2) K rfl rfl (pgs_cons (pg_name (i := 2) sc_all_spots.nd rfl (Or.inl rfl)) (pgs_cons (pg_name (i := 3) sc_all_spots.nd rfl (Or.inl rfl)) pgs_nil))) (pss_one (ps_for PassesOwn.never rfl (pi_range1 rfl T.b_range (pa_cons (pe_con T.c_KINDS rfl) pa_nil)) (pg_name (i := 4) sc_all_spots.nd rfl (Or.inl rfl)) (pss_one (ps_expr (pe_bm PySem.F.plainAttrs_list PySem.F.slot_list_append PySem.F.type_list_append mt_append (pv 1) (pa_cons (pe_tup (pa_cons (pv 2) (pa_cons (pv 3) (pa_cons (pv 4) pa_nil)))) pa_nil)))))))
      (pss_one (ps_ret (pv 1))))), ?_⟩
    refine ⟨Nat.zero_le _, fun D hD => ?_⟩
    have s1 : Same H (L2.upd H D (.lst [])) := Same.upd1 hD
    have hbig : (sq1 a.n a.m).length ≤ 25 := by
      rw [sq1_len]
      exact Nat.mul_le_mul (show a.m ≤ 5 from hm) (show a.n ≤ 5 from hn)
    refine ⟨_, rfl, p, l, a, rfl, W.same s1, hm, hn, fun q H2 nq s2 hq => ?_⟩
    have hDq : q ≠ D := (ne_of_none upd_same nq).symm
    have hD2 : H2 D = some (.lst []) := s2 _ _ upd_same
    obtain ⟨as, hql, hqlen, hqat⟩ := hq
    refine ⟨q, rfl, ⟨_, SqL.of hql⟩, for_list (K := K) (a := q) (xs := as.map V.ref) (fun i σ H3 => ∃ o2 o3 o4 : Option V, σ = [some (.ref p), some (.ref D), o2, o3, o4] ∧ KeepD D H2 H3 ∧ SpotsAt H3 D (((sq1 a.n a.m).take i).flatMap two)) ?_ ?_ ?_ ?_⟩
    · exact ⟨none, none, none, rfl, KeepD.refl _ _, [], hD2, rfl, fun i x z => by cases z⟩
    · rintro i σ H3 _ ⟨_, _, _, _, k3, _⟩
      exact SqL.of (k3 _ _ hql hDq)
    · rintro i v σ H3 hi ⟨o2, o3, o4, rfl, k3, N3⟩
      have hil : i < as.length := by
        have := (List.getElem?_eq_some_iff.mp hi).1
        rw [List.length_map] at this
        exact this
      obtain ⟨⟨r, c⟩, hx⟩ : ∃ x, (sq1 a.n a.m)[i]? = some x := ⟨_, List.getElem?_eq_getElem (by omega)⟩
      obtain ⟨b, eb, hb⟩ := hqat i (r, c) hx
      have hv : v = .ref b := by
        rw [List.getElem?_map, eb] at hi
        exact (Option.some.inj hi).symm
      subst hv
      have hb3 : H3 b = some (.tup [nI r, nI c]) := k3 _ _ hb (ne_of hb hD2 (by intro z; cases z))
      refine ⟨b, _, rfl, SqT.of hb3, rfl, _, _, rfl, _, _, rfl, rfl, ?_⟩
      refine ⟨_, rfl, (by decide), (by decide), for_range (n := 2) (fun k4 σ H4 => ∃ o4 : Option V, σ = [some (.ref p), some (.ref D), some (nI r), some (nI c), o4] ∧ KeepD D H2 H4 ∧ SpotsAt H4 D (((sq1 a.n a.m).take i).flatMap two ++ (List.range k4).map fun d => (r, c, d))) ?_ ?_ ?_⟩
      · refine ⟨o4, rfl, k3, ?_⟩
        rw [show (List.range 0).map (fun d => (r, c, d)) = [] from rfl, List.append_nil]
        exact N3
      · rintro k4 σ H4 hk ⟨o4, rfl, k4', bs, hD4, hlen4, hat4⟩
        refine ⟨_, rfl, .inl ⟨rfl, _, SqL.of hD4⟩, _, rfl, _, rfl, _, rfl, (by show 3 ≤ sizeLine; decide), fun q2 hq2 => ?_⟩
        have nq2 : D ≠ q2 := ne_of_none hD4 hq2
        have s5 : Same H4 (L2.upd H4 q2 (.tup [nI r, nI c, nI k4])) := Same.upd1 hq2
        have hb4 : bs.length ≤ 100 := by
          rw [hlen4, List.length_append, two_len, List.length_map, List.length_range, List.length_take]
          omega
        rw [Int.zero_add]
        refine ⟨D, _, _, rfl, rfl, (by rw [upd_ne nq2]; exact hD4), small1000 (by rw [List.length_map]; omega), _, rfl, k4'.step s5, ?_⟩
        rw [List.range_succ, List.map_append, ← List.append_assoc]
        exact SpotsAt.snoc (x := (r, c, k4)) (s5 _ _ hD4) hlen4 (fun i y e => let ⟨a, e1, e2⟩ := hat4 i y e; ⟨a, e1, s5 _ _ e2⟩) upd_same
      · rintro σ H4 ⟨o4, rfl, k4', N4⟩
        refine ⟨_, _, _, rfl, k4', ?_⟩
        rw [take_snoc hx, List.flatMap_append]
        exact N4
    · rintro σ H3 ⟨o2, o3, o4, rfl, k3, N3⟩
      rw [List.length_map, hqlen, List.take_length, all3_sq] at N3
      exact ⟨_, rfl, k D H3 hD (k3.same (s1.trans s2) hD) N3⟩
def spOther : Sp := fun vs H Q _ => ∃ (b : Addr) (i j d : Nat), vs = [.ref b] ∧ H b = some (.tup [nI i, nI j, nI d]) ∧ d ≤ 1 ∧ ∀ (q : Addr) (H' : Hp), H q = none → Same H H' → H' q = some (.tup [nI i, nI j, nI (1 - d)]) → Q (.ref q) H'
theorem ok_other_kind {f : Addr} {fd : FuncData} (F : Fun K "other_kind" "other_kind" s_other_kind f fd) : FnOk P w K mg base CX0 1 f fd ["spot"] spOther := by
  refine F.ok sc_other_kind (fun vs H Q E h => ?_) (fun cdv A outer s H vs Q E hr h => ?_)
  · obtain ⟨b, i, j, d, rfl, _⟩ := h
    rfl
  · obtain ⟨b, i, j, d, rfl, hb, hd, k⟩ := h
    refine ⟨_, (pss_one (ps_ret (pe_tup (pa_cons (pe_ix (ixt K rfl) (pv 0) pe_int (fun _ _ => rfl)) (pa_cons (pe_ix (ixt K rfl) (pv 0) pe_int (fun _ _ => rfl)) (pa_cons (pe_op op_sub pe_int (pe_ix (ixt K rfl) (pv 0) pe_int (fun _ _ => rfl))) pa_nil)))))), ?_⟩
    refine ⟨_, rfl, b, _, _, _, rfl, rfl, SqT.of hb, at_of (j := 0) rfl rfl, _, rfl, b, _, _, _, rfl, rfl, SqT.of hb, at_of (j := 1) rfl rfl, _, rfl, b, _, _, _, rfl, rfl, SqT.of hb, at_of (j := 2) rfl rfl, _, _, rfl, rfl, (by show 3 ≤ sizeLine; decide), fun q hq => k q _ hq (Same.upd1 hq) ?_⟩
    rw [upd_same]
    refine congrArg (fun z => some (HO.tup [nI i, nI j, V.int z])) ?_
    omega
def spLeanCount (C : Addr) : Sp := fun vs H Q _ => ∃ (p l t : Addr) (a : Su124.Abs) (r : Nat → Nat → Bool), vs = [.ref p, .ref t] ∧ WallAt C H p l a ∧ a.m ≤ 5 ∧ a.n ≤ 5 ∧ TblAt H t a.size r ∧
  ∀ (H' : Hp), Same H H' → Q (nI (a.all3.filter fun x => !(r (TW.arr a.m x).1 (TW.arr a.m x).2)).length) H'
theorem ok_lean_count {f : Addr} {fd : FuncData} (F : Fun K "lean_count" "lean_count" s_lean_count f fd) (T : Txt K mg C) (G_all_spots : Ok P w K mg base "all_spots" 2 ["wall"] (spAll C)) (G_may_lean : Ok P w K mg base "may_lean" 2 ["table", "rows", "spot"] spMay) : FnOk P w K mg base CX0 3 f fd ["wall", "table"] (spLeanCount C) := by
  refine F.ok sc_lean_count (fun vs H Q E h => ?_) (fun cdv A outer s H vs Q E hr h => ?_)
  · obtain ⟨p, l, t, a, r, rfl, _⟩ := h
    rfl
  · obtain ⟨p, l, t, a, r, rfl, W, hm, hn, hT, k⟩ := h
    refine ⟨_, (pss_one (ps_ret (pe_callB (lenK K rfl) (by rfl) T.b_len bo_len (pa_cons (pe_lc rfl sc_lean_count.nd (pi_list (pe_ok G_all_spots (hr.mono (by decide)) rfl (pa_cons (pv 0) pa_nil))) (own := [("spot", 2)]) (blkOk_by (N := ["wall", "table", "spot"]) (sc := defScope s_lean_count) (by decide +kernel)) (fun _ _ _ _ _ => (pg_name (i := 2) sc_lean_count.nd rfl (Or.inl rfl) (Or.inr rfl))) (fun _ _ _ _ _ => (pts_one (pt_val (pe_ok G_may_lean (hr.mono (by decide)) rfl (pa_cons (pv 1) (pa_cons (pe_fldK K rfl (pv 0) rfl) (pa_cons (pv 2) pa_nil))))))) (fun _ _ _ _ _ => (pv 2))) pa_nil)))), ?_⟩
    obtain ⟨dx, hp⟩ := W.ob
    refine ⟨_, rfl, p, l, a, rfl, W, hm, hn, fun q H2 nq s2 hq => ?_⟩
    obtain ⟨ys, hl, hY⟩ := hq.pairs
    have hlen : ys.length ≤ 50 := by
      rw [hY.len, all3_len]
      exact Nat.mul_le_mul hm (show a.n * 2 ≤ 10 by omega)
    refine ⟨q, rfl, ⟨_, SqL.of hl⟩, fun D hD => ?_⟩
    refine lcl _ ys (fun y => !(r (TW.arr a.m y.2).1 (TW.arr a.m y.2).2)) vR hD hl (by rw [List.length_map]) (by omega) (fun m v y H3 N M hi hy s3 hN hM => ⟨rfl, ?_⟩) (fun H3 s3 h3 => ?_)
    · have hv : v = vR y := by
        rw [List.getElem?_map, hy] at hi
        exact (Option.some.inj hi).symm
      subst hv
      have hym := List.mem_of_getElem? hy
      have hyt := s3 _ _ (hY.2 y hym)
      have hya : y.2 ∈ a.all3 := by
        rw [← hY.1]
        exact List.mem_map_of_mem (f := fun y => y.2) hym
      obtain ⟨e1, e2⟩ := TW.arr_in (TW.mem_all3.mp hya)
      refine ⟨_, rfl, _, rfl, p, C, dx, _, _, rfl, (s2.trans s3) _ _ hp, T.cl, T.nR, wf_rows _ _ _, _, rfl, t, y.1, a.size, a.m, y.2.1, y.2.2.1, y.2.2.2, r, rfl, hT.same (s2.trans s3), hyt, e1, e2, fun H4 s4 => ⟨_, rfl, ite2 (fun hc => ?_) (fun hc => ?_)⟩⟩
      · exact ⟨_, rfl, hN H4 s4 hc⟩
      · exact hM H4 s4 (Bool.eq_false_iff.mpr hc)
    · refine ⟨D, _, rfl, .inl (SqL.of h3), ?_⟩
      have e := (hY.filter fun x => !(r (TW.arr a.m x).1 (TW.arr a.m x).2)).len
      rw [List.length_map, e]
      exact k H3 (s2.trans s3)
def spIsSpare (C : Addr) : Sp := fun vs H Q _ => ∃ (p l b : Addr) (a : Su124.Abs) (i j d : Nat), vs = [.ref p, .ref b] ∧ WallAt C H p l a ∧ TW.Inv a ∧ H b = some (.tup [nI i, nI j, nI d]) ∧ a.isS i j d = true ∧ ∀ (H' : Hp), Same H H' → Q (.bl (a.spare i j d)) H'
theorem ok_is_spare {f : Addr} {fd : FuncData} (F : Fun K "is_spare" "is_spare" s_is_spare f fd) (T : Txt K mg C) (G_passage : Ok P w K mg base "passage" 1 ["rows", "spot"] spPassage) (G_passages_by : Ok P w K mg base "passages_by" 2 ["wall", "spots"] (spPasses C)) (G_ties_without : Ok P w K mg base "ties_without" 1 ["wall", "spot"] (spWithout C))
    (G_met_from : Ok P w K mg base "met_from" 1 ["count", "passages", "start"] spMet) (G_strip_count : Ok P w K mg base "strip_count" 1 ["wall"] (spCount C)) : FnOk P w K mg base CX0 3 f fd ["wall", "spot"] (spIsSpare C) := by
  refine F.ok sc_is_spare (fun vs H Q E h => ?_) (fun cdv A outer s H vs Q E hr h => ?_)
  · obtain ⟨p, l, b, a, i, j, d, rfl, _⟩ := h
    rfl
  · obtain ⟨p, l, b, a, i, j, d, rfl, W, hI, hb, hS, k⟩ := h
    refine ⟨_, (pss_cons (ps_set (i := 2) sc_is_spare.nd rfl (Or.inl rfl) (pe_ok G_passage (hr.mono (by decide)) rfl (pa_cons (pe_fldK K rfl (pv 0) rfl) (pa_cons (pv 1) pa_nil))))
      (pss_cons (ps_set (i := 3) sc_is_spare.nd rfl (Or.inl rfl) (pe_ok G_passages_by (hr.mono (by decide)) rfl (pa_cons (pv 0) (pa_cons (pe_ok G_ties_without (hr.mono (by decide)) rfl (pa_cons (pv 0) (pa_cons (pv 1) pa_nil))) pa_nil))))
      (pss_one (ps_ret (pe_ix (ixl K rfl) (pe_ok G_met_from (hr.mono (by decide)) rfl (pa_cons (pe_ok G_strip_count (hr.mono (by decide)) rfl (pa_cons (pv 0) pa_nil)) (pa_cons (pv 3) (pa_cons (pe_ix (ixt K rfl) (pv 2) pe_int (fun _ _ => rfl)) pa_nil)))) (pe_ix (ixt K rfl) (pv 2) pe_int (fun _ _ => rfl)) (fun _ _ => rfl)))))), ?_⟩
    obtain ⟨dx, hp⟩ := W.ob
    have hI2 := hI.without i j d
    have hz := hI.size
    obtain ⟨z1, z2, z3⟩ := TW.isS_iff.mp hS
    obtain ⟨hu, hv⟩ := TW.arr_lt (a := a) (d := d) z1 z2
    refine ⟨_, rfl, p, C, dx, _, _, rfl, hp, T.cl, T.nR, wf_rows _ _ _, _, rfl, a.m, i, j, d, b, rfl, hb, fun st H1 s1 h1 => ?_⟩
    refine ⟨_, rfl, _, rfl, _, rfl, p, l, b, a, i, j, d, rfl, W.same s1, Nat.le_trans (inv_len hI) (by decide), s1 _ _ hb, fun q H2 nq s2 hq => ?_⟩
    refine ⟨p, l, q, a, _, rfl, W.same (s1.trans s2), hq, Nat.le_trans (inv_len hI2) (by decide), fun q2 H3 nq2 s3 hq3 => ?_⟩
    refine ⟨_, rfl, p, l, a, rfl, W.same ((s1.trans s2).trans s3), _, rfl, _, rfl, st, _, _, _, rfl, rfl, SqT.of ((s2.trans s3) _ _ h1), at_of (j := 0) rfl rfl, a.size, (TW.arr a.m (i, j, d)).1, q2, (a.without i j d).ties.map (TW.arr a.m), rfl, hq3, ?_, hu, (by omega), fun p4 H4 _ s4 h4 => ?_⟩
    · exact hI2.arr
    · refine ⟨_, rfl, st, _, _, _, rfl, rfl, SqT.of (((s2.trans s3).trans s4) _ _ h1), at_of (j := 1) rfl rfl, p4, _, _, _, rfl, rfl, SqL.of h4, at_of (j := (TW.arr a.m (i, j, d)).2) rfl (rng_get hv), ?_⟩
      have q := k H4 (((s1.trans s2).trans s3).trans s4)
      rw [TW.spare_eq] at q
      refine cast (congrArg (fun v => Q (.bl v) H4) ?_) q
      rw [Bool.eq_iff_iff, pth_iff]
      exact TW.R_iff hI2.arr hu
end
end TP

end

section
set_option Elab.async false
set_option linter.all false
set_option maxRecDepth 100000
set_option maxHeartbeats 4000000
namespace TP
open PySem PySem.Spec PyProof.Rows L2 TR
theorem nt {b : Bool} (h : (!b) = true) : b = false := by
  cases b with
  | false => rfl
  | true => cases h
def ansV (r : Su124.Ans) : List V := .int r.value :: r.out.map nI
/-- all but the wall and its list stays -/
def Keeps (H H' : Hp) (p l : Addr) : Prop := ∀ b o, H b = some o → b ≠ p → b ≠ l → H' b = some o
theorem Keeps.of {H H' : Hp} {p l : Addr} (s : Same H H') : Keeps H H' p l := fun b o e _ _ => s b o e
theorem Keeps.then {H H1 H2 : Hp} {p l : Addr} (k : Keeps H H1 p l) (s : Same H1 H2) : Keeps H H2 p l := fun b o e h1 h2 => s b o (k b o e h1 h2)
/-- what a call promises -/
def CallOk (C : Addr) (H : Hp) (p l : Addr) (a : Su124.Abs) (x : Su124.Call) (Q : VK) : Prop := ∀ (q l' : Addr) (H' : Hp), H q = none → (l' = l ∨ H l' = none) → Keeps H H' p l → WallAt C H' p l' (Su124.does a x).1 →
  H' q = some (.lst (ansV (Su124.does a x).2)) → Q (.ref q) H'
def spCall (C : Addr) (c : List Nat → Su124.Call → Prop) : Sp := fun vs H Q _ => ∃ (p l g : Addr) (a : Su124.Abs) (is : List Nat) (x : Su124.Call), vs = [.ref p, .ref g] ∧ c is x ∧ WallAt C H p l a ∧ H g = some (.lst (is.map nI)) ∧ TW.Inv a ∧ CallOk C H p l a x Q
def spBegin (C : Addr) : Sp := fun vs H Q _ => ∃ (p l g : Addr) (a : Su124.Abs) (m n : Nat), vs = [.ref p, .ref g] ∧ WallAt C H p l a ∧ H g = some (.lst [nI m, nI n]) ∧ CallOk C H p l a (.begin_ m n) Q
/-- a call that changes nothing: what it answers stands in a list made last -/
theorem CallOk.read {C : Addr} {H H1 : Hp} {p l q : Addr} {a : Su124.Abs} {x : Su124.Call} {Q : VK} {vs : List V} (k : CallOk C H p l a x Q) (W : WallAt C H p l a) (s : Same H H1) (hq : H1 q = none) (h1 : (Su124.does a x).1 = a) (h2 : vs = ansV (Su124.does a x).2) : Q (.ref q) (L2.upd H1 q (.lst vs)) := by
  have s2 : Same H (L2.upd H1 q (.lst vs)) := Same.upd s (s.free hq)
  refine k q l _ (s.free hq) (.inl rfl) (Keeps.of s2) ?_ ?_
  · rw [h1]
    exact W.same s2
  · rw [upd_same, h2]
theorem SpotsAt.tups {H : Hp} {l : Addr} {ts : List (Nat × Nat × Nat)} (S : SpotsAt H l ts) : ∃ as, TupsAt H l as (ts.map fun x => [(x.1 : Int), (x.2.1 : Int), (x.2.2 : Int)]) ∧ as.length = ts.length ∧ ∀ (i : Nat) (x : Nat × Nat × Nat), ts[i]? = some x → ∃ a, as[i]? = some a ∧ H a = some (.tup [nI x.1, nI x.2.1, nI x.2.2]) := by
  obtain ⟨as, h1, h2, h3⟩ := S
  refine ⟨as, ⟨h1, by rw [List.length_map]; exact h2, fun i js e => ?_⟩, h2, h3⟩
  rw [List.getElem?_map] at e
  cases z : ts[i]? with
  | none =>
    rw [z] at e
    cases e
  | some x =>
    rw [z] at e
    have e : [(x.1 : Int), (x.2.1 : Int), (x.2.2 : Int)] = js := Option.some.inj e
    subst e
    exact h3 i x z
theorem has_dec {a : Su124.Abs} {i j d : Nat} : decide ([(i : Int), (j : Int), (d : Int)] ∈ a.ties.map fun x => [(x.1 : Int), (x.2.1 : Int), (x.2.2 : Int)]) = a.has i j d := by
  rw [Bool.eq_iff_iff, decide_eq_true_iff, TW.has_iff]
  constructor
  · intro h
    obtain ⟨x, hx, e⟩ := List.mem_map.mp h
    have e := tup_inj (x := x) (y := (i, j, d)) e
    subst e
    exact hx
  · intro h
    exact List.mem_map.mpr ⟨_, h, rfl⟩
theorem first_at {α : Type} [BEq α] [LawfulBEq α] {x : α} : ∀ {l : List α}, x ∈ l → ∃ j, l[j]? = some x ∧ (∀ m, m < j → l[m]? ≠ some x) ∧ l.eraseIdx j = l.erase x
  | [], h => by cases h
  | y :: l, h => by
    by_cases e : y = x
    · subst e
      exact ⟨0, rfl, fun m hm => absurd hm (Nat.not_lt_zero _), by rw [List.erase_cons_head]; rfl⟩
    · have hx : x ∈ l := (List.mem_cons.mp h).resolve_left fun q => e q.symm
      obtain ⟨j, h1, h2, h3⟩ := first_at hx
      refine ⟨j + 1, h1, fun m hm => ?_, ?_⟩
      · cases m with
        | zero =>
          intro q
          exact e (Option.some.inj q)
        | succ m => exact h2 m (by omega)
      · rw [List.erase_cons_tail (by simpa using e)]
        show y :: l.eraseIdx j = _
        rw [h3]
/-! ### the refusals -/
def refT (a : Su124.Abs) (i j d : Nat) : Int := if a.isS i j d = false then -2 else if a.has i j d = true then -17 else 0
def refM (a : Su124.Abs) (i j d : Nat) : Int := if a.isS i j d = false then -2 else if a.has i j d = false then -6 else 0
theorem refT_no {a : Su124.Abs} {i j d : Nat} {X : Su124.Abs × Su124.Ans} (h : refT a i j d ≠ 0) : (if a.isS i j d = false then (a, Su124.no (-2)) else if a.has i j d = true then (a, Su124.no (-17)) else X) = (a, Su124.no (refT a i j d)) := by
  unfold refT at h ⊢
  split
  · rfl
  · split
    · rfl
    · rename_i h1 h2
      rw [if_neg h1, if_neg h2] at h
      exact absurd rfl h
theorem refM_no {a : Su124.Abs} {i j d : Nat} {X : Su124.Abs × Su124.Ans} (h : refM a i j d ≠ 0) : (if a.isS i j d = false then (a, Su124.no (-2)) else if a.has i j d = false then (a, Su124.no (-6)) else X) = (a, Su124.no (refM a i j d)) := by
  unfold refM at h ⊢
  split
  · rfl
  · split
    · rfl
    · rename_i h1 h2
      rw [if_neg h1, if_neg h2] at h
      exact absurd rfl h
theorem refT_zero {a : Su124.Abs} {i j d : Nat} (h : refT a i j d = 0) : a.isS i j d = true ∧ a.has i j d = false := by
  unfold refT at h
  cases z : a.isS i j d with
  | false => rw [z, if_pos rfl] at h; cases h
  | true =>
    rw [z, if_neg (by decide)] at h
    cases y : a.has i j d with
    | true => rw [y, if_pos rfl] at h; cases h
    | false => exact ⟨rfl, rfl⟩
theorem refM_zero {a : Su124.Abs} {i j d : Nat} (h : refM a i j d = 0) : a.isS i j d = true ∧ a.has i j d = true := by
  unfold refM at h
  cases z : a.isS i j d with
  | false => rw [z, if_pos rfl] at h; cases h
  | true =>
    rw [z, if_neg (by decide)] at h
    cases y : a.has i j d with
    | false => rw [y, if_pos rfl] at h; cases h
    | true => exact ⟨rfl, rfl⟩
theorem ne_yes {z : Int} (h : (!decide (V.int z = V.int 0)) = true) : z ≠ 0 := fun e => by
  subst e
  cases h
theorem ne_no {z : Int} (h : ¬ (!decide (V.int z = V.int 0)) = true) : z = 0 := by
  apply Classical.byContradiction
  intro e
  refine h ?_
  rw [decide_eq_false (fun y => e (by injection y))]
  rfl
theorem isS_true {a : Su124.Abs} {i j d : Nat} (hc : ¬ (!a.isS i j d) = true) : a.isS i j d = true := by
  cases y : a.isS i j d with
  | true => rfl
  | false => rw [y] at hc; exact absurd rfl hc
theorem ff {b : Bool} (h : b = true) : ¬ b = false := fun z => by rw [h] at z; cases z
theorem tt {b : Bool} (h : b = false) : ¬ b = true := fun z => by rw [h] at z; cases z
section
variable {P : Program} {w : World} {K : PySem.W.Frag} {mg : Str → Option Value} {base : Heap} {C : Addr}
def c3 (mk : Nat → Nat → Nat → Su124.Call) (is : List Nat) (x : Su124.Call) : Prop := ∃ i j d, is = [i, j, d] ∧ x = mk i j d
theorem ok_begin {f : Addr} {fd : FuncData} (F : Fun K "begin" "begin" s_begin f fd) (T : Txt K mg C) (G_in_range : Ok P w K mg base "in_range" 1 ["size"] spRange) : FnOk P w K mg base CX0 12 f fd ["wall", "given"] (spBegin C) := by
  refine F.ok sc_begin (fun vs H Q E h => ?_) (fun cdv A outer s H vs Q E hr h => ?_)
  · obtain ⟨p, l, g, a, m, n, rfl, _⟩ := h
    rfl
  · obtain ⟨p, l, g, a, m, n, rfl, W, hg, k⟩ := h
    refine ⟨_, (pss_cons (ps_if (PW.pt (pw_or (pt_not (pt_val (pe_ok G_in_range (hr.mono (by decide)) rfl (pa_cons (pe_ix (ixl K rfl) (pv 1) pe_int (fun _ _ => rfl)) pa_nil)))) (pw_or1 (pt_not (pt_val (pe_ok G_in_range (hr.mono (by decide)) rfl (pa_cons (pe_ix (ixl K rfl) (pv 1) pe_int (fun _ _ => rfl)) pa_nil))))))) (pss_one (ps_ret (pe_lst (pa_cons (pe_con T.c_OUT_OF_RANGE rfl) pa_nil)))) pss_nil)
      (pss_cons (ps_fld (pv 0) (pe_ix (ixl K rfl) (pv 1) pe_int (fun _ _ => rfl)) rfl)
      (pss_cons (ps_fld (pv 0) (pe_ix (ixl K rfl) (pv 1) pe_int (fun _ _ => rfl)) rfl)
      (pss_cons (ps_fld (pv 0) (pe_lst pa_nil) rfl)
      (pss_one (ps_ret (pe_lst (pa_cons pe_int pa_nil)))))))), ?_⟩
    obtain ⟨dx, hp⟩ := W.ob
    have bad : Su124.okB m n = false → (Su124.does a (.begin_ m n)).1 = a ∧ (Su124.does a (.begin_ m n)).2 = Su124.no (-22) := fun z => by
      rw [TW.does_begin, if_pos z]
      exact ⟨rfl, rfl⟩
    have okb : Su124.okB m n = ((decide (1 ≤ m) && decide (m ≤ 5)) && (decide (1 ≤ n) && decide (n ≤ 5))) := by
      unfold Su124.okB Su124.SIDE
      rw [Bool.and_assoc]
    have refuse : Su124.okB m n = false → ∀ q, H q = none → Q (.ref q) (L2.upd H q (.lst [.int (-22)])) := fun z q hq => k.read W (Same.refl H) hq (bad z).1 (by rw [(bad z).2]; rfl)
    refine ⟨_, rfl, g, _, _, _, rfl, rfl, SqL.of hg, at_of (j := 0) rfl rfl, m, rfl, _, rfl, ite2 (fun hc => ?_) (fun hc => ?_)⟩
    · refine iteT ⟨(by show 1 ≤ sizeLine; decide), fun q hq => refuse ?_ q hq⟩
      rw [okb, nt hc]
      rfl
    · refine ⟨_, rfl, g, _, _, _, rfl, rfl, SqL.of hg, at_of (j := 1) rfl rfl, n, rfl, _, rfl, ite2 (fun hd => ?_) (fun hd => ?_)⟩
      · refine ⟨(by show 1 ≤ sizeLine; decide), fun q hq => refuse ?_ q hq⟩
        rw [okb, nt hd, Bool.and_false]
      · have ok1 : Su124.okB m n = true := by
          rw [okb]
          cases z : (decide (1 ≤ m) && decide (m ≤ 5)) with
          | false => rw [z] at hc; exact absurd rfl hc
          | true =>
            cases y : (decide (1 ≤ n) && decide (n ≤ 5)) with
            | false => rw [y] at hd; exact absurd rfl hd
            | true => rfl
        have good : Su124.does a (.begin_ m n) = (⟨m, n, []⟩, Su124.no 0) := by
          rw [TW.does_begin, if_neg (by rw [ok1]; exact fun z => nomatch z)]
        have npg : g ≠ p := ne_of hg hp (by intro z; cases z)
        refine ⟨_, rfl, g, _, _, _, rfl, rfl, SqL.of hg, at_of (j := 0) rfl rfl, _, rfl, p, C, dx, _, rfl, hp, T.cl, T.nR, (by rw [wf_len]; decide), ?_⟩
        rw [wf_pr]
        refine ⟨_, rfl, g, _, _, _, rfl, rfl, SqL.of (by rw [upd_ne npg]; exact hg), at_of (j := 1) rfl rfl, _, rfl, p, C, dx, _, rfl, upd_same, T.cl, T.nC, (by rw [wf_len]; decide), ?_⟩
        rw [wf_pc, upd_upd]
        refine ⟨Nat.zero_le _, fun l' hl' => ?_⟩
        have npl : l' ≠ p := fun z => by rw [z, upd_same] at hl'; cases hl'
        have hl0 : H l' = none := by rw [upd_ne npl] at hl'; exact hl'
        refine ⟨_, rfl, p, C, dx, _, rfl, (by rw [upd_ne npl.symm]; exact upd_same), T.cl, T.nT, (by rw [wf_len]; decide), ?_⟩
        rw [wf_pt]
        refine ⟨(by show 1 ≤ sizeLine; decide), fun q hq => ?_⟩
        have nqp : q ≠ p := fun z => by rw [z, upd_same] at hq; cases hq
        rw [upd_ne nqp] at hq
        have nql : q ≠ l' := fun z => by rw [z, upd_same] at hq; cases hq
        rw [upd_ne nql, upd_ne nqp] at hq
        refine k q l' _ hq (.inr hl0) (fun b o e h1 h2 => ?_) ?_ ?_
        · rw [upd_ne (ne_of_none e hq), upd_ne h1, upd_ne (ne_of_none e hl0), upd_ne h1]
          exact e
        · rw [good]
          refine ⟨⟨dx, by rw [upd_ne nqp.symm]; exact upd_same⟩, [], ?_, rfl, fun i x z => by cases z⟩
          rw [upd_ne nql.symm, upd_ne npl, upd_same]
          rfl
        · rw [good, upd_same]
          rfl
def spRef (C : Addr) (g : Su124.Abs → Nat → Nat → Nat → Int) : Sp := fun vs H Q _ => ∃ (p l b : Addr) (a : Su124.Abs) (i j d : Nat), vs = [.ref p, .ref b] ∧ WallAt C H p l a ∧ H b = some (.tup [nI i, nI j, nI d]) ∧ Q (.int (g a i j d)) H
theorem ok_refusal_if_there {f : Addr} {fd : FuncData} (F : Fun K "refusal_if_there" "refusal_if_there" s_refusal_if_there f fd) (T : Txt K mg C) (G_has_spot : Ok P w K mg base "has_spot" 2 ["wall", "spot"] (spHasSpot C)) : FnOk P w K mg base CX0 3 f fd ["wall", "spot"] (spRef C refT) := by
  refine F.ok sc_refusal_if_there (fun vs H Q E h => ?_) (fun cdv A outer s H vs Q E hr h => ?_)
  · obtain ⟨p, l, b, a, i, j, d, rfl, _⟩ := h
    rfl
  · obtain ⟨p, l, b, a, i, j, d, rfl, W, hb, k⟩ := h
    refine ⟨_, (pss_cons (ps_if (pt_not (pt_val (pe_ok G_has_spot (hr.mono (by decide)) rfl (pa_cons (pv 0) (pa_cons (pv 1) pa_nil))))) (pss_one (ps_ret (pe_con T.c_NONE_SUCH rfl))) pss_nil)
      (pss_cons (ps_if (pt_cmpR (op_inT (hu_of hr)) (pv 1) (pe_fldK K rfl (pv 0) rfl) rfl) (pss_one (ps_ret (pe_con T.c_THERE_ALREADY rfl))) pss_nil)
      (pss_one (ps_ret (pe_con T.c_NOT_REFUSED rfl))))), ?_⟩
    obtain ⟨dx, hp⟩ := W.ob
    unfold refT at k
    refine ⟨_, rfl, _, rfl, p, l, b, a, i, j, d, rfl, W, hb, _, rfl, ite2 (fun hc => ?_) (fun hc => ?_)⟩
    · rw [if_pos (nt hc)] at k
      exact k
    · rw [if_neg (ff (isS_true hc))] at k
      obtain ⟨as, hT, hlen, hat⟩ := W.ts.tups
      refine ⟨_, rfl, _, rfl, p, C, dx, _, _, rfl, hp, T.cl, T.nT, wf_ties _ _ _, b, l, [(i : Int), (j : Int), (d : Int)], as, _, rfl, rfl, hb, hT, _, rfl, ?_⟩
      rw [if_neg Bool.false_ne_true, has_dec]
      refine ite2 (fun hd => ?_) (fun hd => ?_)
      · rw [if_pos hd] at k
        exact k
      · rw [if_neg hd] at k
        exact k
theorem ok_refusal_if_missing {f : Addr} {fd : FuncData} (F : Fun K "refusal_if_missing" "refusal_if_missing" s_refusal_if_missing f fd) (T : Txt K mg C) (G_has_spot : Ok P w K mg base "has_spot" 2 ["wall", "spot"] (spHasSpot C)) : FnOk P w K mg base CX0 3 f fd ["wall", "spot"] (spRef C refM) := by
  refine F.ok sc_refusal_if_missing (fun vs H Q E h => ?_) (fun cdv A outer s H vs Q E hr h => ?_)
  · obtain ⟨p, l, b, a, i, j, d, rfl, _⟩ := h
    rfl
  · obtain ⟨p, l, b, a, i, j, d, rfl, W, hb, k⟩ := h
    refine ⟨_, (pss_cons (ps_if (pt_not (pt_val (pe_ok G_has_spot (hr.mono (by decide)) rfl (pa_cons (pv 0) (pa_cons (pv 1) pa_nil))))) (pss_one (ps_ret (pe_con T.c_NONE_SUCH rfl))) pss_nil)
      (pss_cons (ps_if (pt_cmpR (op_notInT (hu_of hr)) (pv 1) (pe_fldK K rfl (pv 0) rfl) rfl) (pss_one (ps_ret (pe_con T.c_NOT_THERE rfl))) pss_nil)
      (pss_one (ps_ret (pe_con T.c_NOT_REFUSED rfl))))), ?_⟩
    obtain ⟨dx, hp⟩ := W.ob
    unfold refM at k
    refine ⟨_, rfl, _, rfl, p, l, b, a, i, j, d, rfl, W, hb, _, rfl, ite2 (fun hc => ?_) (fun hc => ?_)⟩
    · rw [if_pos (nt hc)] at k
      exact k
    · rw [if_neg (ff (isS_true hc))] at k
      obtain ⟨as, hT, hlen, hat⟩ := W.ts.tups
      refine ⟨_, rfl, _, rfl, p, C, dx, _, _, rfl, hp, T.cl, T.nT, wf_ties _ _ _, b, l, [(i : Int), (j : Int), (d : Int)], as, _, rfl, rfl, hb, hT, _, rfl, ?_⟩
      rw [if_pos rfl, has_dec]
      refine ite2 (fun hd => ?_) (fun hd => ?_)
      · rw [if_pos (nt hd)] at k
        exact k
      · rw [if_neg (fun y => hd (by rw [y]; rfl))] at k
        exact k
theorem ok_tie {f : Addr} {fd : FuncData} (F : Fun K "tie" "tie" s_tie f fd) (T : Txt K mg C) (G_refusal_if_there : Ok P w K mg base "refusal_if_there" 3 ["wall", "spot"] (spRef C refT)) (G_part_count : Ok P w K mg base "part_count" 5 ["wall"] (spPc C)) : FnOk P w K mg base CX0 12 f fd ["wall", "given"] (spCall C (c3 .tie)) := by
  refine F.ok sc_tie (fun vs H Q E h => ?_) (fun cdv A outer s H vs Q E hr h => ?_)
  · obtain ⟨p, l, g, a, is, x, rfl, _⟩ := h
    rfl
  · obtain ⟨p, l, g, a, _, _, rfl, ⟨i, j, d, rfl, rfl⟩, W, hg, hI, k⟩ := h
    refine ⟨_, (pss_cons (ps_set (i := 2) sc_tie.nd rfl (Or.inl rfl) (pe_callTy call_tuple_of (by rfl) T.b_tuple bo_tuple (pa_cons (pv 1) pa_nil)))
      (pss_cons (ps_set (i := 3) sc_tie.nd rfl (Or.inl rfl) (pe_ok G_refusal_if_there (hr.mono (by decide)) rfl (pa_cons (pv 0) (pa_cons (pv 2) pa_nil))))
      (pss_cons (ps_if (pt_cmpR op_ne (pv 3) (pe_con T.c_NOT_REFUSED rfl) (nomark _)) (pss_one (ps_ret (pe_lst (pa_cons (pv 3) pa_nil)))) pss_nil)
      (pss_cons (ps_expr (pe_bm PySem.F.plainAttrs_list PySem.F.slot_list_append PySem.F.type_list_append mt_append (pe_fldK K rfl (pv 0) rfl) (pa_cons (pv 2) pa_nil)))
      (pss_one (ps_ret (pe_lst (pa_cons (pe_ok G_part_count (hr.mono (by decide)) rfl (pa_cons (pv 0) pa_nil)) pa_nil)))))))), ?_⟩
    obtain ⟨dx, hp⟩ := W.ob
    refine ⟨_, rfl, g, _, rfl, .inl ⟨SqL.of hg, fun b hb => ?_⟩⟩
    have s1 : Same H (L2.upd H b (.tup [nI i, nI j, nI d])) := Same.upd1 hb
    have W1 := W.same s1
    refine ⟨_, rfl, _, rfl, p, l, b, a, i, j, d, rfl, W1, upd_same, _, rfl, rfl, _, rfl, ite2 (fun hc => ?_) (fun hc => ?_)⟩
    · have e : Su124.does a (.tie i j d) = (a, Su124.no (refT a i j d)) := by
        rw [TW.does_tie, refT_no (ne_yes hc)]
      exact ⟨_, rfl, (by show 1 ≤ sizeLine; decide), fun q hq => k.read W s1 hq (by rw [e]) (by rw [e]; rfl)⟩
    · obtain ⟨z, hd⟩ := refT_zero (ne_no hc)
      obtain ⟨as, hT, hlen, hat⟩ := W1.ts.tups
      have e : Su124.does a (.tie i j d) = (a.with_ i j d, Su124.num (a.with_ i j d).parts.length []) := by
        rw [TW.does_tie, if_neg (ff z), if_neg (tt hd)]
      have hI2 := hI.with_ z hd
      refine ⟨_, rfl, p, C, dx, _, _, rfl, s1 _ _ hp, T.cl, T.nT, wf_ties _ _ _, .inl ⟨rfl, _, SqL.of hT.1⟩, _, rfl, l, _, _, rfl, rfl, hT.1, small1000 (by rw [List.length_map, hlen]; have := inv_len hI; omega), ?_⟩
      have nlp : p ≠ l := ne_of (s1 _ _ hp) hT.1 (by intro z; cases z)
      have W2 : WallAt C (L2.upd (L2.upd H b (.tup [nI i, nI j, nI d])) l (.lst (as.map V.ref ++ [.ref b]))) p l (a.with_ i j d) := by
        refine ⟨⟨dx, ?_⟩, SpotsAt.snoc hT.1 hlen hat upd_same⟩
        rw [upd_ne nlp]
        exact s1 _ _ hp
      refine ⟨_, rfl, p, l, a.with_ i j d, rfl, W2, TW_fit hI2, fun H3 s3 => ⟨(by show 1 ≤ sizeLine; decide), fun q hq => ?_⟩⟩
      have hq2 := s3.free hq
      have nql : q ≠ l := fun y => by rw [y, upd_same] at hq2; cases hq2
      rw [upd_ne nql] at hq2
      have hq0 := s1.free hq2
      refine k q l _ hq0 (.inl rfl) (fun c o e1 h1 h2 => ?_) ?_ ?_
      · rw [upd_ne (ne_of_none e1 hq0)]
        refine s3 _ _ ?_
        rw [upd_ne h2]
        exact s1 _ _ e1
      · rw [e]
        exact (W2.same s3).same (Same.upd1 hq)
      · rw [e, upd_same]
        rfl
end
end TP

end

section
set_option Elab.async false
set_option linter.all false
set_option maxRecDepth 100000
set_option maxHeartbeats 4000000
namespace TP
open PySem PySem.Spec PyProof.Rows L2 TR
theorem SpotsAt.erase {H : Hp} {l : Addr} {ts : List (Nat × Nat × Nat)} {as : List Addr} {j : Nat} (hl : H l = some (.lst (as.map V.ref))) (hlen : as.length = ts.length)
    (hat : ∀ (i : Nat) (x : Nat × Nat × Nat), ts[i]? = some x → ∃ a, as[i]? = some a ∧ H a = some (.tup [nI x.1, nI x.2.1, nI x.2.2])) :
    SpotsAt (L2.upd H l (.lst ((as.eraseIdx j).map V.ref))) l (ts.eraseIdx j) := by
  refine ⟨as.eraseIdx j, upd_same, ?_, fun i x e => ?_⟩
  · rw [List.length_eraseIdx, List.length_eraseIdx, hlen]
  · rw [List.getElem?_eraseIdx] at e ⊢
    split at e
    · obtain ⟨a, e1, e2⟩ := hat i x e
      exact ⟨a, by rw [if_pos (by assumption)]; exact e1, by rw [upd_ne (ne_of e2 hl (by intro z; cases z))]; exact e2⟩
    · obtain ⟨a, e1, e2⟩ := hat (i + 1) x e
      exact ⟨a, by rw [if_neg (by assumption)]; exact e1, by rw [upd_ne (ne_of e2 hl (by intro z; cases z))]; exact e2⟩
section
variable {P : Program} {w : World} {K : PySem.W.Frag} {mg : Str → Option Value} {base : Heap} {C : Addr}
theorem ok_free {f : Addr} {fd : FuncData} (F : Fun K "free" "free" s_free f fd) (T : Txt K mg C) (G_refusal_if_missing : Ok P w K mg base "refusal_if_missing" 3 ["wall", "spot"] (spRef C refM)) (G_part_count : Ok P w K mg base "part_count" 5 ["wall"] (spPc C)) : FnOk P w K mg base CX0 12 f fd ["wall", "given"] (spCall C (c3 .free)) := by
  refine F.ok sc_free (fun vs H Q E h => ?_) (fun cdv A outer s H vs Q E hr h => ?_)
  · obtain ⟨p, l, g, a, is, x, rfl, _⟩ := h
    rfl
  · obtain ⟨p, l, g, a, _, _, rfl, ⟨i, j, d, rfl, rfl⟩, W, hg, hI, k⟩ := h
    refine ⟨_, (pss_cons (ps_set (i := 2) sc_free.nd rfl (Or.inl rfl) (pe_callTy call_tuple_of (by rfl) T.b_tuple bo_tuple (pa_cons (pv 1) pa_nil)))
      (pss_cons (ps_set (i := 3) sc_free.nd rfl (Or.inl rfl) (pe_ok G_refusal_if_missing (hr.mono (by decide)) rfl (pa_cons (pv 0) (pa_cons (pv 2) pa_nil))))
      (pss_cons (ps_if (pt_cmpR op_ne (pv 3) (pe_con T.c_NOT_REFUSED rfl) (nomark _)) (pss_one (ps_ret (pe_lst (pa_cons (pv 3) pa_nil)))) pss_nil)
      (pss_cons (ps_expr (pe_bm PySem.F.plainAttrs_list PySem.F.slot_list_remove PySem.F.type_list_remove (mt_remove (hu_of hr)) (pe_fldK K rfl (pv 0) rfl) (pa_cons (pv 2) pa_nil)))
      (pss_one (ps_ret (pe_lst (pa_cons (pe_ok G_part_count (hr.mono (by decide)) rfl (pa_cons (pv 0) pa_nil)) pa_nil)))))))), ?_⟩
    obtain ⟨dx, hp⟩ := W.ob
    refine ⟨_, rfl, g, _, rfl, .inl ⟨SqL.of hg, fun b hb => ?_⟩⟩
    have s1 : Same H (L2.upd H b (.tup [nI i, nI j, nI d])) := Same.upd1 hb
    have W1 := W.same s1
    refine ⟨_, rfl, _, rfl, p, l, b, a, i, j, d, rfl, W1, upd_same, _, rfl, rfl, _, rfl, ite2 (fun hc => ?_) (fun hc => ?_)⟩
    · have e : Su124.does a (.free i j d) = (a, Su124.no (refM a i j d)) := by
        rw [TW.does_free, refM_no (ne_yes hc)]
      exact ⟨_, rfl, (by show 1 ≤ sizeLine; decide), fun q hq => k.read W s1 hq (by rw [e]) (by rw [e]; rfl)⟩
    · obtain ⟨z, hd⟩ := refM_zero (ne_no hc)
      obtain ⟨as, hT, hlen, hat⟩ := W1.ts.tups
      have e : Su124.does a (.free i j d) = (a.without i j d, Su124.num (a.without i j d).parts.length []) := by rw [TW.does_free, if_neg (ff z), if_neg (ff hd)]
      have hI2 := hI.without i j d
      obtain ⟨m, hm1, hm2, hm3⟩ := first_at (TW.has_iff.mp hd)
      refine ⟨_, rfl, p, C, dx, _, _, rfl, s1 _ _ hp, T.cl, T.nT, wf_ties _ _ _, .inl ⟨rfl, _, SqL.of hT.1⟩, _, rfl, b, l, [(i : Int), (j : Int), (d : Int)], as, _, m, rfl, rfl, upd_same, hT, ?_, fun m' hm' q => ?_, ?_⟩
      · rw [List.getElem?_map, hm1]
        rfl
      · rw [List.getElem?_map] at q
        cases y : a.ties[m']? with
        | none =>
          rw [y] at q
          cases q
        | some x =>
          rw [y] at q
          have q := tup_inj (x := x) (y := (i, j, d)) (Option.some.inj q)
          exact hm2 m' hm' (by rw [y, q])
      have nlp : p ≠ l := ne_of (s1 _ _ hp) hT.1 (by intro z; cases z)
      have W2 : WallAt C (L2.upd (L2.upd H b (.tup [nI i, nI j, nI d])) l (.lst ((as.eraseIdx m).map V.ref))) p l (a.without i j d) := by
        refine ⟨⟨dx, ?_⟩, ?_⟩
        · rw [upd_ne nlp]
          exact s1 _ _ hp
        · rw [← TW.erase_without hI, ← hm3]
          exact SpotsAt.erase hT.1 hlen hat
      refine ⟨_, rfl, p, l, a.without i j d, rfl, W2, TW_fit hI2, fun H3 s3 => ⟨(by show 1 ≤ sizeLine; decide), fun q hq => ?_⟩⟩
      have hq2 := s3.free hq
      have nql : q ≠ l := fun y => by rw [y, upd_same] at hq2; cases hq2
      rw [upd_ne nql] at hq2
      have hq0 := s1.free hq2
      refine k q l _ hq0 (.inl rfl) (fun c o e1 h1 h2 => ?_) ?_ ?_
      · rw [upd_ne (ne_of_none e1 hq0)]
        refine s3 _ _ ?_
        rw [upd_ne h2]
        exact s1 _ _ e1
      · rw [e]
        exact (W2.same s3).same (Same.upd1 hq)
      · rw [e, upd_same]
        rfl
def c0 (y : Su124.Call) (is : List Nat) (x : Su124.Call) : Prop := is = [] ∧ x = y
def c1 (mk : Nat → Su124.Call) (is : List Nat) (x : Su124.Call) : Prop := ∃ s, is = [s] ∧ x = mk s
theorem ok_firm {f : Addr} {fd : FuncData} (F : Fun K "firm" "firm" s_firm f fd) (T : Txt K mg C) (G_part_count : Ok P w K mg base "part_count" 5 ["wall"] (spPc C)) (G_as_number : Ok P w K mg base "as_number" 1 ["truth"] spNumber) : FnOk P w K mg base CX0 12 f fd ["wall", "given"] (spCall C (c0 .firm)) := by
  refine F.ok sc_firm (fun vs H Q E h => ?_) (fun cdv A outer s H vs Q E hr h => ?_)
  · obtain ⟨p, l, g, a, is, x, rfl, _⟩ := h
    rfl
  · obtain ⟨p, l, g, a, _, _, rfl, ⟨rfl, rfl⟩, W, hg, hI, k⟩ := h
    refine ⟨_, (pss_cons (ps_set (i := 2) sc_firm.nd rfl (Or.inl rfl) (pe_ok G_part_count (hr.mono (by decide)) rfl (pa_cons (pv 0) pa_nil)))
      (pss_one (ps_ret (pe_lst (pa_cons (pe_ok G_as_number (hr.mono (by decide)) rfl (pa_cons (pe_cmpR op_eq (pv 2) pe_int (nomark _)) pa_nil)) (pa_cons (pv 2) pa_nil)))))), ?_⟩
    refine ⟨_, rfl, p, l, a, rfl, W, TW_fit hI, fun H1 s1 => ?_⟩
    refine ⟨_, rfl, rfl, _, rfl, _, rfl, (by show 2 ≤ sizeLine; decide), fun q hq => k.read W s1 hq (by rw [TW.does_firm]) ?_⟩
    rw [TW.does_firm, TW.firm_eq hI.arr hI.pos]
    show [V.int _, _] = [V.int _, _]
    rw [dec2 (show V.int (a.parts.length : Int) = V.int 1 ↔ (TW.fsts a.size (TW.R a)).length = 1 from ⟨fun z => by injection z with z; exact Int.ofNat_inj.mp z, fun z => by rw [TW.parts_eq, z]; rfl⟩)]
    rfl
theorem reach_len {a : Su124.Abs} (h : TW.Inv a) (s : Nat) : ((List.range a.size).filter fun j => TW.R a s j).length ≤ 10 :=
  Nat.le_trans (List.length_filter_le _ _) (by rw [List.length_range]; exact h.size)
theorem ok_reach {f : Addr} {fd : FuncData} (F : Fun K "reach" "reach" s_reach f fd) (T : Txt K mg C) (G_has_strip : Ok P w K mg base "has_strip" 2 ["wall", "strip"] (spHasStrip C)) (G_table_of : Ok P w K mg base "table_of" 4 ["wall"] (spTab C)) (G_reached : Ok P w K mg base "reached" 1 ["table", "strip"] spReached) :
    FnOk P w K mg base CX0 12 f fd ["wall", "given"] (spCall C (c1 .reach)) := by
  refine F.ok sc_reach (fun vs H Q E h => ?_) (fun cdv A outer s H vs Q E hr h => ?_)
  · obtain ⟨p, l, g, a, is, x, rfl, _⟩ := h
    rfl
  · obtain ⟨p, l, g, a, _, _, rfl, ⟨s, rfl, rfl⟩, W, hg, hI, k⟩ := h
    refine ⟨_, (pss_cons (ps_if (pt_not (pt_val (pe_ok G_has_strip (hr.mono (by decide)) rfl (pa_cons (pv 0) (pa_cons (pe_ix (ixl K rfl) (pv 1) pe_int (fun _ _ => rfl)) pa_nil))))) (pss_one (ps_ret (pe_lst (pa_cons (pe_con T.c_NONE_SUCH rfl) pa_nil)))) pss_nil)
      (pss_cons (ps_set (i := 2) sc_reach.nd rfl (Or.inl rfl) (pe_ok G_reached (hr.mono (by decide)) rfl (pa_cons (pe_ok G_table_of (hr.mono (by decide)) rfl (pa_cons (pv 0) pa_nil)) (pa_cons (pe_ix (ixl K rfl) (pv 1) pe_int (fun _ _ => rfl)) pa_nil))))
      (pss_one (ps_ret (pe_op op_cat (pe_lst (pa_cons (pe_callB (lenK K rfl) (by rfl) T.b_len bo_len (pa_cons (pv 2) pa_nil)) pa_nil)) (pv 2)))))), ?_⟩
    refine ⟨_, rfl, _, rfl, g, _, _, _, rfl, rfl, SqL.of hg, at_of (j := 0) rfl rfl, p, l, a, s, rfl, W, _, rfl, ite2 (fun hc => ?_) (fun hc => ?_)⟩
    · have z : ¬ s < a.size := of_decide_eq_false (nt hc)
      have e : Su124.does a (.reach s) = (a, Su124.no (-2)) := by rw [TW.does_reach, if_pos (by omega)]
      exact ⟨(by show 1 ≤ sizeLine; decide), fun q hq => k.read W (Same.refl H) hq (by rw [e]) (by rw [e]; rfl)⟩
    · have z : s < a.size := by
        apply Classical.byContradiction
        intro y
        rw [decide_eq_false y] at hc
        exact hc rfl
      have e : Su124.does a (.reach s) = (a, Su124.list (a.reach s)) := by rw [TW.does_reach, if_neg (by omega)]
      refine ⟨_, rfl, p, l, a, rfl, W, TW_fit hI, fun t H1 s1 ht => ⟨_, rfl, g, _, _, _, rfl, rfl, SqL.of (s1 _ _ hg), at_of (j := 0) rfl rfl, t, a.size, s, TW.R a, rfl, ht, z, Nat.le_trans hI.size (by decide), fun r H2 s2 hr2 => ?_⟩⟩
      refine ⟨_, rfl, r, _, rfl, .inl (SqL.of hr2), (by show 1 ≤ sizeLine; decide), fun q1 hq1 => ⟨_, rfl, q1, r, _, _, rfl, rfl, upd_same, (by rw [upd_ne (ne_of_none hr2 hq1)]; exact hr2), ?_, fun q hq => ?_⟩⟩
      · rw [List.length_map]
        exact Nat.le_trans (Nat.add_le_add_left (reach_len hI s) 1) (by decide)
      · refine k.read W ((s1.trans s2).trans (Same.upd1 hq1)) hq (by rw [e]) ?_
        rw [e]
        show _ = V.int (Int.ofNat (a.reach s).length) :: (a.reach s).map nI
        rw [TW.reach_eq hI.pos, List.length_map]
        rfl
theorem tog_len {a : Su124.Abs} (h : TW.Inv a) (s : Nat) : (TW.tog a.size (TW.R a) s).length ≤ 10 :=
  Nat.le_trans (List.length_filter_le _ _) (by rw [List.length_range]; exact h.size)
theorem ok_part {f : Addr} {fd : FuncData} (F : Fun K "part" "part" s_part f fd) (T : Txt K mg C) (G_has_strip : Ok P w K mg base "has_strip" 2 ["wall", "strip"] (spHasStrip C)) (G_table_of : Ok P w K mg base "table_of" 4 ["wall"] (spTab C)) (G_together : Ok P w K mg base "together" 1 ["table", "strip"] spTogether) :
    FnOk P w K mg base CX0 12 f fd ["wall", "given"] (spCall C (c1 .part)) := by
  refine F.ok sc_part (fun vs H Q E h => ?_) (fun cdv A outer s H vs Q E hr h => ?_)
  · obtain ⟨p, l, g, a, is, x, rfl, _⟩ := h
    rfl
  · obtain ⟨p, l, g, a, _, _, rfl, ⟨s, rfl, rfl⟩, W, hg, hI, k⟩ := h
    refine ⟨_, (pss_cons (ps_if (pt_not (pt_val (pe_ok G_has_strip (hr.mono (by decide)) rfl (pa_cons (pv 0) (pa_cons (pe_ix (ixl K rfl) (pv 1) pe_int (fun _ _ => rfl)) pa_nil))))) (pss_one (ps_ret (pe_lst (pa_cons (pe_con T.c_NONE_SUCH rfl) pa_nil)))) pss_nil)
      (pss_cons (ps_set (i := 2) sc_part.nd rfl (Or.inl rfl) (pe_ok G_together (hr.mono (by decide)) rfl (pa_cons (pe_ok G_table_of (hr.mono (by decide)) rfl (pa_cons (pv 0) pa_nil)) (pa_cons (pe_ix (ixl K rfl) (pv 1) pe_int (fun _ _ => rfl)) pa_nil))))
      (pss_one (ps_ret (pe_op op_cat (pe_lst (pa_cons (pe_callB (lenK K rfl) (by rfl) T.b_len bo_len (pa_cons (pv 2) pa_nil)) pa_nil)) (pv 2)))))), ?_⟩
    refine ⟨_, rfl, _, rfl, g, _, _, _, rfl, rfl, SqL.of hg, at_of (j := 0) rfl rfl, p, l, a, s, rfl, W, _, rfl, ite2 (fun hc => ?_) (fun hc => ?_)⟩
    · have z : ¬ s < a.size := of_decide_eq_false (nt hc)
      have e : Su124.does a (.part s) = (a, Su124.no (-2)) := by rw [TW.does_part, if_pos (by omega)]
      exact ⟨(by show 1 ≤ sizeLine; decide), fun q hq => k.read W (Same.refl H) hq (by rw [e]) (by rw [e]; rfl)⟩
    · have z : s < a.size := by
        apply Classical.byContradiction
        intro y
        rw [decide_eq_false y] at hc
        exact hc rfl
      have e : Su124.does a (.part s) = (a, Su124.list (a.part s)) := by rw [TW.does_part, if_neg (by omega)]
      refine ⟨_, rfl, p, l, a, rfl, W, TW_fit hI, fun t H1 s1 ht => ⟨_, rfl, g, _, _, _, rfl, rfl, SqL.of (s1 _ _ hg), at_of (j := 0) rfl rfl, t, a.size, s, TW.R a, rfl, ht, z, Nat.le_trans hI.size (by decide), fun r H2 s2 hr2 => ?_⟩⟩
      refine ⟨_, rfl, r, _, rfl, .inl (SqL.of hr2), (by show 1 ≤ sizeLine; decide), fun q1 hq1 => ⟨_, rfl, q1, r, _, _, rfl, rfl, upd_same, (by rw [upd_ne (ne_of_none hr2 hq1)]; exact hr2), ?_, fun q hq => ?_⟩⟩
      · rw [List.length_map]
        exact Nat.le_trans (Nat.add_le_add_left (tog_len hI s) 1) (by decide)
      · refine k.read W ((s1.trans s2).trans (Same.upd1 hq1)) hq (by rw [e]) ?_
        rw [e]
        show _ = V.int (Int.ofNat (a.part s).length) :: (a.part s).map nI
        rw [TW.part_eq, List.length_map]
        rfl
theorem ok_parts {f : Addr} {fd : FuncData} (F : Fun K "parts" "parts" s_parts f fd) (T : Txt K mg C) (G_table_of : Ok P w K mg base "table_of" 4 ["wall"] (spTab C)) (G_first_of_part : Ok P w K mg base "first_of_part" 1 ["table", "strip"] spFirst) :
    FnOk P w K mg base CX0 12 f fd ["wall", "given"] (spCall C (c0 .parts)) := by
  refine F.ok sc_parts (fun vs H Q E h => ?_) (fun cdv A outer s H vs Q E hr h => ?_)
  · obtain ⟨p, l, g, a, is, x, rfl, _⟩ := h
    rfl
  · obtain ⟨p, l, g, a, _, _, rfl, ⟨rfl, rfl⟩, W, hg, hI, k⟩ := h
    refine ⟨_, (pss_cons (ps_set (i := 2) sc_parts.nd rfl (Or.inr rfl) (pe_ok G_table_of (hr.mono (by decide)) rfl (pa_cons (pv 0) pa_nil)))
      (pss_one (ps_ret (pe_op op_cat (pe_lst (pa_cons (pe_callB (lenK K rfl) (by rfl) T.b_len bo_len (pa_cons (pv 2) pa_nil)) pa_nil)) (pe_lc rfl sc_parts.nd (pi_range1 rfl T.b_range (pa_cons (pe_callB (lenK K rfl) (by rfl) T.b_len bo_len (pa_cons (pv 2) pa_nil)) pa_nil)) (own := [("strip", 3)]) (blkOk_by (N := ["wall", "given", "table", "strip"]) (sc := defScope s_parts) (by decide +kernel)) (fun _ _ _ _ _ => (pg_name (i := 3) sc_parts.nd rfl (Or.inl rfl) (Or.inr rfl))) (fun _ _ _ _ _ => pts_nil) (fun _ _ _ _ _ => (pe_ok G_first_of_part (hr.mono (by decide)) rfl (pa_cons (pv 2) (pa_cons (pv 3) pa_nil))))))))), ?_⟩
    refine ⟨_, rfl, p, l, a, rfl, W, TW_fit hI, fun t H1 s1 hT => ?_⟩
    obtain ⟨xs, ht, hlen, _⟩ := hT.row
    have hz := hI.size
    refine ⟨_, rfl, t, _, rfl, .inl (SqL.of ht), (by show 1 ≤ sizeLine; decide), fun q1 hq1 => ?_⟩
    have s2 : ∀ o, Same H1 (L2.upd H1 q1 o) := fun o => Same.upd1 hq1
    refine ⟨_, rfl, t, _, rfl, .inl (SqL.of (s2 _ _ _ ht)), _, rfl, (by rw [hlen]; omega), (by rw [hlen]; omega), ?_⟩
    rw [hlen]
    intro D hD
    refine lcr0 (fun i => nI (TW.fst a.size (TW.R a) i)) hD (by omega) (fun i H2 N hi h2 hN => ⟨rfl, ?_⟩) (fun H2 h2 h3 => ?_) gn_mono
    · exact ⟨_, rfl, _, rfl, t, a.size, i, TW.R a, by rw [Int.zero_add]; rfl, (hT.same (s2 _)).same h2, hI.eqv, (by omega), (by omega), fun H3 s3 => hN H3 s3⟩
    · refine ⟨q1, D, _, _, rfl, rfl, h2 _ _ upd_same, h3, ?_, fun q hq => k.read W ((s1.trans (s2 _)).trans h2) hq (by rw [TW.does_parts]) ?_⟩
      · rw [List.length_map, List.length_range]
        exact Nat.le_trans (show 1 + _ ≤ 1 + 10 by omega) (by decide)
      · rw [TW.does_parts]
        show V.int _ :: _ = V.int (Int.ofNat (a.ss.map a.first).length) :: (a.ss.map a.first).map nI
        rw [List.length_map, List.map_map]
        have e1 : a.ss.length = a.size := List.length_range
        rw [e1, show ((a.size : Nat) : Int).toNat = a.size by omega]
        rfl
end
end TP

end

section
set_option Elab.async false
set_option linter.all false
set_option maxRecDepth 100000
set_option maxHeartbeats 4000000
namespace TP
open PySem PySem.Spec PyProof.Rows L2 TR
theorem ends_len {a : Su124.Abs} (h : TW.Inv a) (g : Nat → Bool) : ((TW.fsts a.size (TW.R a)).filter g).length ≤ 10 :=
  Nat.le_trans (List.length_filter_le _ _) (Nat.le_trans (fsts_len _ _) h.size)
section
variable {P : Program} {w : World} {K : PySem.W.Frag} {mg : Str → Option Value} {base : Heap} {C : Addr}
theorem ok_ends {f : Addr} {fd : FuncData} (F : Fun K "ends" "ends" s_ends f fd) (T : Txt K mg C) (G_table_of : Ok P w K mg base "table_of" 4 ["wall"] (spTab C)) (G_end_firsts : Ok P w K mg base "end_firsts" 4 ["table"] (spEnds TW.outs)) (G_start_firsts : Ok P w K mg base "start_firsts" 4 ["table"] (spEnds TW.ins)) :
    FnOk P w K mg base CX0 12 f fd ["wall", "given"] (spCall C (c0 .ends)) := by
  refine F.ok sc_ends (fun vs H Q E h => ?_) (fun cdv A outer s H vs Q E hr h => ?_)
  · obtain ⟨p, l, g, a, is, x, rfl, _⟩ := h
    rfl
  · obtain ⟨p, l, g, a, _, _, rfl, ⟨rfl, rfl⟩, W, hg, hI, k⟩ := h
    refine ⟨_, (pss_cons (ps_set (i := 2) sc_ends.nd rfl (Or.inl rfl) (pe_ok G_table_of (hr.mono (by decide)) rfl (pa_cons (pv 0) pa_nil)))
      (pss_cons (ps_set (i := 3) sc_ends.nd rfl (Or.inl rfl) (pe_ok G_end_firsts (hr.mono (by decide)) rfl (pa_cons (pv 2) pa_nil)))
      (pss_cons (ps_set (i := 4) sc_ends.nd rfl (Or.inl rfl) (pe_ok G_start_firsts (hr.mono (by decide)) rfl (pa_cons (pv 2) pa_nil)))
      (pss_one (ps_ret (pe_op op_cat (pe_op op_cat (pe_lst (pa_cons (pe_callB (lenK K rfl) (by rfl) T.b_len bo_len (pa_cons (pv 3) pa_nil)) (pa_cons (pe_callB (lenK K rfl) (by rfl) T.b_len bo_len (pa_cons (pv 4) pa_nil)) pa_nil))) (pv 3)) (pv 4))))))), ?_⟩
    have hz := hI.size
    refine ⟨_, rfl, p, l, a, rfl, W, TW_fit hI, fun t H1 s1 hT => ?_⟩
    refine ⟨_, rfl, t, a.size, TW.R a, rfl, hT, hI.eqv, (by omega), fun x1 H2 _ s2 h2 => ?_⟩
    refine ⟨_, rfl, t, a.size, TW.R a, rfl, hT.same s2, hI.eqv, (by omega), fun x2 H3 n3 s3 h3 => ?_⟩
    have h2' := s3 _ _ h2
    refine ⟨_, rfl, x1, _, rfl, .inl (SqL.of h2'), _, rfl, x2, _, rfl, .inl (SqL.of h3), (by show 2 ≤ sizeLine; decide), fun q1 hq1 => ?_⟩
    refine ⟨_, rfl, q1, x1, _, _, rfl, rfl, upd_same, (by rw [upd_ne (ne_of_none h2' hq1)]; exact h2'), ?_, fun q2 hq2 => ?_⟩
    · rw [List.length_map]
      exact Nat.le_trans (Nat.add_le_add_left (ends_len hI _) 2) (by decide)
    · have s4 : Same H3 (L2.upd H3 q1 (.lst [.int (List.map nI ((TW.fsts a.size (TW.R a)).filter fun s => !(TW.outs a.size (TW.R a) s))).length, .int (List.map nI ((TW.fsts a.size (TW.R a)).filter fun s => !(TW.ins a.size (TW.R a) s))).length])) := Same.upd1 hq1
      have h3' := s4 _ _ h3
      refine ⟨_, rfl, q2, x2, _, _, rfl, rfl, upd_same, (by rw [upd_ne (ne_of_none h3' hq2)]; exact h3'), ?_, fun q hq => ?_⟩
      · rw [List.length_append, List.length_map, List.length_map]
        have e1 := ends_len hI (fun s => !(TW.outs a.size (TW.R a) s))
        have e2 := ends_len hI (fun s => !(TW.ins a.size (TW.R a) s))
        exact Nat.le_trans (show 2 + _ + _ ≤ 22 by omega) (by decide)
      · refine k.read W (((s1.trans s2).trans s3).trans (s4.trans (Same.upd1 hq2))) hq (by rw [TW.does_ends]) ?_
        rw [TW.does_ends, TW.ends_eq hI.pos, TW.starts_eq]
        show _ = V.int _ :: _
        rw [List.length_map, List.length_map]
        simp only [Su124.num, List.map_cons, List.map_append, List.cons_append, List.nil_append]
        rfl
/-- may a square lean so: what may_lean asks of a spot of the wall -/
theorem may_args {a : Su124.Abs} {i j d : Nat} (h : a.isS i j d = true) : (TW.arr a.m (i, j, d)).1 < a.size ∧ (TW.arr a.m (i, j, d)).2 < a.size := by
  obtain ⟨h1, h2, _⟩ := TW.isS_iff.mp h
  exact TW.arr_lt h1 h2
theorem ok_leans {f : Addr} {fd : FuncData} (F : Fun K "leans" "leans" s_leans f fd) (T : Txt K mg C) (G_has_spot : Ok P w K mg base "has_spot" 2 ["wall", "spot"] (spHasSpot C)) (G_table_of : Ok P w K mg base "table_of" 4 ["wall"] (spTab C)) (G_may_lean : Ok P w K mg base "may_lean" 2 ["table", "rows", "spot"] spMay)
    (G_as_number : Ok P w K mg base "as_number" 1 ["truth"] spNumber) : FnOk P w K mg base CX0 12 f fd ["wall", "given"] (spCall C (c3 .leans)) := by
  refine F.ok sc_leans (fun vs H Q E h => ?_) (fun cdv A outer s H vs Q E hr h => ?_)
  · obtain ⟨p, l, g, a, is, x, rfl, _⟩ := h
    rfl
  · obtain ⟨p, l, g, a, _, _, rfl, ⟨i, j, d, rfl, rfl⟩, W, hg, hI, k⟩ := h
    refine ⟨_, (pss_cons (ps_set (i := 2) sc_leans.nd rfl (Or.inl rfl) (pe_callTy call_tuple_of (by rfl) T.b_tuple bo_tuple (pa_cons (pv 1) pa_nil)))
      (pss_cons (ps_if (pt_not (pt_val (pe_ok G_has_spot (hr.mono (by decide)) rfl (pa_cons (pv 0) (pa_cons (pv 2) pa_nil))))) (pss_one (ps_ret (pe_lst (pa_cons (pe_con T.c_NONE_SUCH rfl) pa_nil)))) pss_nil)
      (pss_one (ps_ret (pe_lst (pa_cons (pe_ok G_as_number (hr.mono (by decide)) rfl (pa_cons (pe_ok G_may_lean (hr.mono (by decide)) rfl (pa_cons (pe_ok G_table_of (hr.mono (by decide)) rfl (pa_cons (pv 0) pa_nil)) (pa_cons (pe_fldK K rfl (pv 0) rfl) (pa_cons (pv 2) pa_nil)))) pa_nil)) pa_nil)))))), ?_⟩
    obtain ⟨dx, hp⟩ := W.ob
    refine ⟨_, rfl, g, _, rfl, .inl ⟨SqL.of hg, fun b hb => ?_⟩⟩
    have s1 : Same H (L2.upd H b (.tup [nI i, nI j, nI d])) := Same.upd1 hb
    have W1 := W.same s1
    refine ⟨_, rfl, _, rfl, p, l, b, a, i, j, d, rfl, W1, upd_same, _, rfl, ite2 (fun hc => ?_) (fun hc => ?_)⟩
    · have e : Su124.does a (.leans i j d) = (a, Su124.no (-2)) := by rw [TW.does_leans, if_pos (nt hc)]
      exact ⟨(by show 1 ≤ sizeLine; decide), fun q hq => k.read W s1 hq (by rw [e]) (by rw [e]; rfl)⟩
    · have z := isS_true hc
      have e : Su124.does a (.leans i j d) = (a, Su124.num (Su124.bit (a.leans i j d)) []) := by rw [TW.does_leans, if_neg (ff z)]
      obtain ⟨h1, h2⟩ := may_args z
      refine ⟨_, rfl, p, l, a, rfl, W1, TW_fit hI, fun t H2 s2 hT => ⟨_, rfl, p, C, dx, _, _, rfl, (s1.trans s2) _ _ hp, T.cl, T.nR, wf_rows _ _ _, _, rfl, t, b, a.size, a.m, i, j, d, TW.R a, rfl, hT, s2 _ _ upd_same, h1, h2, fun H3 s3 => ?_⟩⟩
      rw [← TW.leans_eq]
      exact ⟨_, rfl, (by show 1 ≤ sizeLine; decide), fun q hq => k.read W ((s1.trans s2).trans s3) hq (by rw [e]) (by rw [e]; rfl)⟩
theorem ok_all_leans {f : Addr} {fd : FuncData} (F : Fun K "all_leans" "all_leans" s_all_leans f fd) (T : Txt K mg C) (G_table_of : Ok P w K mg base "table_of" 4 ["wall"] (spTab C)) (G_may_lean : Ok P w K mg base "may_lean" 2 ["table", "rows", "spot"] spMay)
    (G_as_number : Ok P w K mg base "as_number" 1 ["truth"] spNumber) (G_all_spots : Ok P w K mg base "all_spots" 2 ["wall"] (spAll C)) : FnOk P w K mg base CX0 12 f fd ["wall", "given"] (spCall C (c0 .all)) := by
  refine F.ok sc_all_leans (fun vs H Q E h => ?_) (fun cdv A outer s H vs Q E hr h => ?_)
  · obtain ⟨p, l, g, a, is, x, rfl, _⟩ := h
    rfl
  · obtain ⟨p, l, g, a, _, _, rfl, ⟨rfl, rfl⟩, W, hg, hI, k⟩ := h
    refine ⟨_, (pss_cons (ps_set (i := 2) sc_all_leans.nd rfl (Or.inr rfl) (pe_ok G_table_of (hr.mono (by decide)) rfl (pa_cons (pv 0) pa_nil)))
      (pss_cons (ps_setLc (i := 3) rfl sc_all_leans.nd rfl rfl (sw_true rfl rfl rfl rfl) (pi_list (pe_ok G_all_spots (hr.mono (by decide)) rfl (pa_cons (pv 0) pa_nil))) (own := [("spot", 4)]) (blkOk_by (N := ["wall", "given", "table", "told", "spot"]) (sc := defScope s_all_leans) (by decide +kernel)) (fun _ _ _ _ _ => (pg_name (i := 4) sc_all_leans.nd rfl (Or.inl rfl) (Or.inr rfl))) (fun _ _ _ _ _ => pts_nil) (fun _ _ _ _ _ => (pe_ok G_as_number (hr.mono (by decide)) rfl (pa_cons (pe_ok G_may_lean (hr.mono (by decide)) rfl (pa_cons (pv 2) (pa_cons (pe_fldK K rfl (pv 0) rfl) (pa_cons (pv 4) pa_nil)))) pa_nil))))
      (pss_one (ps_ret (pe_op op_cat (pe_lst (pa_cons (pe_callB (sumK K rfl rfl) (by rfl) T.b_sum bo_sum (pa_cons (pv 3) pa_nil)) pa_nil)) (pv 3)))))), ?_⟩
    obtain ⟨dx, hp⟩ := W.ob
    have h50 : a.all3.length ≤ 50 := by
      rw [all3_len]
      have h1 := hI.m5
      have h2 := hI.n5
      exact Nat.le_trans (Nat.mul_le_mul h1 (show a.n * 2 ≤ 10 by omega)) (by decide)
    refine ⟨_, rfl, p, l, a, rfl, W, TW_fit hI, fun t H1 s1 hT => ?_⟩
    refine ⟨_, rfl, p, l, a, rfl, W.same s1, hI.m5, hI.n5, fun y H2 _ s2 hy => ?_⟩
    obtain ⟨as, hl, hlen, hat⟩ := hy
    refine ⟨y, rfl, ⟨_, SqL.of hl⟩, fun D hD => ?_⟩
    refine lcl0 _ a.all3 (fun x => nI (Su124.bit (a.leans x.1 x.2.1 x.2.2))) hD hl (by rw [List.length_map]; exact hlen) (by omega) (fun i v x H3 N hi hx s3 hN => ⟨rfl, ?_⟩) (fun H3 s3 h3 => ?_) gn_mono
    · obtain ⟨b, eb, hb⟩ := hat i x hx
      have hv : v = .ref b := by
        rw [List.getElem?_map, eb] at hi
        exact (Option.some.inj hi).symm
      subst hv
      obtain ⟨h1, h2, _⟩ := TW.mem_all3.mp (List.mem_of_getElem? hx)
      obtain ⟨e1, e2⟩ := TW.arr_lt (a := a) (d := x.2.2) h1 h2
      refine ⟨_, rfl, _, rfl, p, C, dx, _, _, rfl, ((s1.trans s2).trans s3) _ _ hp, T.cl, T.nR, wf_rows _ _ _, _, rfl, t, b, a.size, a.m, x.1, x.2.1, x.2.2, TW.R a, rfl, (hT.same s2).same s3, s3 _ _ hb, e1, e2, fun H4 s4 => ?_⟩
      rw [← TW.leans_eq]
      exact ⟨_, rfl, hN H4 s4⟩
    · have e : a.all3.map (fun x => nI (Su124.bit (a.leans x.1 x.2.1 x.2.2))) = ((a.all3.map fun x => Su124.bit (a.leans x.1 x.2.1 x.2.2)).map fun (n : Nat) => (n : Int)).map V.int := by
        rw [List.map_map, List.map_map]
        rfl
      rw [e] at h3
      refine ⟨_, rfl, D, _, rfl, SqL.of h3, (by show 1 ≤ sizeLine; decide), fun q1 hq1 => ⟨_, rfl, q1, D, _, _, rfl, rfl, upd_same, (by rw [upd_ne (ne_of_none h3 hq1)]; exact h3), ?_, fun q hq => ?_⟩⟩
      · rw [List.length_map, List.length_map, List.length_map]
        exact Nat.le_trans (show 1 + _ ≤ 51 by omega) (by decide)
      · refine k.read W (((s1.trans s2).trans s3).trans (Same.upd1 hq1)) hq (by rw [TW.does_all]) ?_
        rw [TW.does_all, ← TW.count_sum]
        show _ = V.int _ :: _
        rw [List.map_map]
        rfl
theorem ok_lean {f : Addr} {fd : FuncData} (F : Fun K "lean" "lean" s_lean f fd) (T : Txt K mg C) (G_has_spot : Ok P w K mg base "has_spot" 2 ["wall", "spot"] (spHasSpot C)) (G_table_of : Ok P w K mg base "table_of" 4 ["wall"] (spTab C)) (G_may_lean : Ok P w K mg base "may_lean" 2 ["table", "rows", "spot"] spMay)
    (G_as_number : Ok P w K mg base "as_number" 1 ["truth"] spNumber) (G_passage : Ok P w K mg base "passage" 1 ["rows", "spot"] spPassage) : FnOk P w K mg base CX0 12 f fd ["wall", "given"] (spCall C (c3 .lean)) := by
  refine F.ok sc_lean (fun vs H Q E h => ?_) (fun cdv A outer s H vs Q E hr h => ?_)
  · obtain ⟨p, l, g, a, is, x, rfl, _⟩ := h
    rfl
  · obtain ⟨p, l, g, a, _, _, rfl, ⟨i, j, d, rfl, rfl⟩, W, hg, hI, k⟩ := h
    refine ⟨_, (pss_cons (ps_set (i := 2) sc_lean.nd rfl (Or.inl rfl) (pe_callTy call_tuple_of (by rfl) T.b_tuple bo_tuple (pa_cons (pv 1) pa_nil)))
      (pss_cons (ps_if (pt_not (pt_val (pe_ok G_has_spot (hr.mono (by decide)) rfl (pa_cons (pv 0) (pa_cons (pv 2) pa_nil))))) (pss_one (ps_ret (pe_lst (pa_cons (pe_con T.c_NONE_SUCH rfl) pa_nil)))) pss_nil)
      (pss_cons (ps_set (i := 3) sc_lean.nd rfl (Or.inl rfl) (pe_ok G_table_of (hr.mono (by decide)) rfl (pa_cons (pv 0) pa_nil)))
      (pss_cons (ps_if (pt_not (pt_val (pe_ok G_may_lean (hr.mono (by decide)) rfl (pa_cons (pv 3) (pa_cons (pe_fldK K rfl (pv 0) rfl) (pa_cons (pv 2) pa_nil)))))) (pss_one (ps_ret (pe_lst (pa_cons (pe_con T.c_NOT_SO rfl) pa_nil)))) pss_nil)
      (pss_cons (ps_set (i := 4) sc_lean.nd rfl (Or.inl rfl) (pe_ix (ixt K rfl) (pe_ok G_passage (hr.mono (by decide)) rfl (pa_cons (pe_fldK K rfl (pv 0) rfl) (pa_cons (pv 2) pa_nil))) pe_int (fun _ _ => rfl)))
      (pss_one (ps_ret (pe_op op_cat (pe_lst (pa_cons (pe_callB (lenK K rfl) (by rfl) T.b_len bo_len (pa_cons (pv 3) pa_nil)) pa_nil)) (pe_lc rfl sc_lean.nd (pi_list (pe_ix (ixl K rfl) (pv 3) (pv 4) (fun _ _ => rfl))) (own := [("met", 5)]) (blkOk_by (N := ["wall", "given", "spot", "table", "further", "met"]) (sc := defScope s_lean) (by decide +kernel)) (fun _ _ _ _ _ => (pg_name (i := 5) sc_lean.nd rfl (Or.inl rfl) (Or.inr rfl))) (fun _ _ _ _ _ => pts_nil) (fun _ _ _ _ _ => (pe_ok G_as_number (hr.mono (by decide)) rfl (pa_cons (pv 5) pa_nil)))))))))))), ?_⟩
    obtain ⟨dx, hp⟩ := W.ob
    refine ⟨_, rfl, g, _, rfl, .inl ⟨SqL.of hg, fun b hb => ?_⟩⟩
    have s1 : Same H (L2.upd H b (.tup [nI i, nI j, nI d])) := Same.upd1 hb
    have W1 := W.same s1
    refine ⟨_, rfl, _, rfl, p, l, b, a, i, j, d, rfl, W1, upd_same, _, rfl, ite2 (fun hc => ?_) (fun hc => ?_)⟩
    · have e : Su124.does a (.lean i j d) = (a, Su124.no (-2)) := by rw [TW.does_lean, if_pos (nt hc)]
      exact ⟨(by show 1 ≤ sizeLine; decide), fun q hq => k.read W s1 hq (by rw [e]) (by rw [e]; rfl)⟩
    · have z := isS_true hc
      obtain ⟨h1, h2⟩ := may_args z
      refine ⟨_, rfl, p, l, a, rfl, W1, TW_fit hI, fun t H2 s2 hT => ?_⟩
      have hb2 : H2 b = some (.tup [nI i, nI j, nI d]) := s2 _ _ upd_same
      refine ⟨_, rfl, _, rfl, p, C, dx, _, _, rfl, (s1.trans s2) _ _ hp, T.cl, T.nR, wf_rows _ _ _, _, rfl, t, b, a.size, a.m, i, j, d, TW.R a, rfl, hT, hb2, h1, h2, fun H3 s3 => ?_⟩
      rw [← TW.leans_eq]
      refine ⟨_, rfl, ite2 (fun hd => ?_) (fun hd => ?_)⟩
      · have e : Su124.does a (.lean i j d) = (a, Su124.no (-33)) := by rw [TW.does_lean, if_neg (ff z), if_pos (nt hd)]
        exact ⟨(by show 1 ≤ sizeLine; decide), fun q hq => k.read W ((s1.trans s2).trans s3) hq (by rw [e]) (by rw [e]; rfl)⟩
      · have hd : a.leans i j d = true := by
          cases y : a.leans i j d with
          | true => rfl
          | false => rw [y] at hd; exact absurd rfl hd
        have e : Su124.does a (.lean i j d) = (a, Su124.list (a.lean i j d)) := by rw [TW.does_lean, if_neg (ff z), if_neg (ff hd)]
        have s13 := (s1.trans s2).trans s3
        refine ⟨_, rfl, p, C, dx, _, _, rfl, s13 _ _ hp, T.cl, T.nR, wf_rows _ _ _, _, rfl, a.m, i, j, d, b, rfl, s3 _ _ hb2, fun y H4 s4 hy => ⟨y, _, _, _, rfl, rfl, SqT.of hy, at_of (j := 0) rfl rfl, ?_⟩⟩
        obtain ⟨xs, ht, hlen, hrow⟩ := (hT.same (s3.trans s4)).row
        obtain ⟨c, ec, rc⟩ := hrow _ h1
        have hz := hI.size
        refine ⟨_, rfl, t, _, rfl, .inl (SqL.of ht), (by show 1 ≤ sizeLine; decide), fun q1 hq1 => ?_⟩
        have s5 : ∀ o, Same H4 (L2.upd H4 q1 o) := fun o => Same.upd1 hq1
        refine ⟨_, rfl, _, rfl, t, _, _, _, rfl, rfl, SqL.of (s5 _ _ _ ht), at_of rfl ec, c, rfl, ⟨_, SqL.of (s5 _ _ _ rc)⟩, fun D hD => ?_⟩
        refine lcl0 _ (List.range a.size) (fun s => nI (Su124.bit (TW.R a (TW.arr a.m (i, j, d)).1 s))) hD (s5 _ _ _ rc) (by rw [List.length_map]) (by rw [List.length_range]; omega) (fun m v y H5 N hi hy s6 hN => ⟨rfl, ?_⟩) (fun H5 s6 h6 => ?_) gn_mono
        · have hv : v = .bl (TW.R a (TW.arr a.m (i, j, d)).1 y) := by
            rw [List.getElem?_map, hy] at hi
            exact (Option.some.inj hi).symm
          subst hv
          exact ⟨_, rfl, _, rfl, hN H5 (Same.refl _)⟩
        · refine ⟨q1, D, _, _, rfl, rfl, s6 _ _ upd_same, h6, ?_, fun q hq => ?_⟩
          · rw [List.length_map, List.length_range]
            exact Nat.le_trans (show 1 + _ ≤ 1 + 10 by omega) (by decide)
          · refine k.read W ((s13.trans s4).trans ((s5 _).trans s6)) hq (by rw [e]) ?_
            rw [e]
            have e2 : a.lean i j d = a.ss.map fun s => Su124.bit (TW.R a (TW.arr a.m (i, j, d)).1 s) := by
              unfold Su124.Abs.lean TW.R Su124.bit TW.arr Su124.Abs.col
              dsimp only
              split <;> rfl
            show _ = V.int (Int.ofNat (a.lean i j d).length) :: (a.lean i j d).map nI
            rw [e2, List.length_map, List.map_map]
            have e1 : a.ss.length = a.size := List.length_range
            rw [e1, hlen]
            rfl
end
end TP

end

section
set_option Elab.async false
set_option linter.all false
set_option maxRecDepth 100000
set_option maxHeartbeats 4000000
namespace TP
open PySem PySem.Spec PyProof.Rows L2 TR
theorem three_snoc (l : List (Nat × Nat × Nat)) (x : Nat × Nat × Nat) : Su124.three (l ++ [x]) = Su124.three l ++ [x.1, x.2.1, x.2.2] := by
  unfold Su124.three
  rw [List.flatMap_append, List.flatMap_cons, List.flatMap_nil, List.append_nil]
theorem three_len (l : List (Nat × Nat × Nat)) : (Su124.three l).length = l.length * 3 := by
  induction l with
  | nil => rfl
  | cons x l ih =>
    show ([x.1, x.2.1, x.2.2] ++ Su124.three l).length = (l.length + 1) * 3
    rw [List.length_append, ih]
    show 3 + _ = _
    omega
theorem count_R {a b : Su124.Abs} (hm : b.m = a.m) (hn : b.n = a.n) : (a.all3.filter fun x => !(TW.R b (TW.arr a.m x).1 (TW.arr a.m x).2)).length = b.count := by
  unfold Su124.Abs.count
  have e : b.all3 = a.all3 := by unfold Su124.Abs.all3; rw [hm, hn]
  rw [e]
  refine congrArg List.length (List.filter_congr fun x _ => ?_)
  rw [TW.leans_eq, hm]
section
variable {P : Program} {w : World} {K : PySem.W.Frag} {mg : Str → Option Value} {base : Heap} {C : Addr}
def spFlat : Sp := fun vs H Q _ => ∃ (l : Addr) (ts : List (Nat × Nat × Nat)), vs = [.ref l] ∧ SpotsAt H l ts ∧ ts.length ≤ 100 ∧
  ∀ (q : Addr) (H' : Hp), H q = none → Same H H' → H' q = some (.lst ((Su124.three ts).map nI)) → Q (.ref q) H'
theorem ok_flat {f : Addr} {fd : FuncData} (F : Fun K "flat" "flat" s_flat f fd) : FnOk P w K mg base CX0 1 f fd ["spots"] spFlat := by
  refine F.ok sc_flat (fun vs H Q E h => ?_) (fun cdv A outer s H vs Q E hr h => ?_)
  · obtain ⟨l, ts, rfl, _⟩ := h
    rfl
  · obtain ⟨l, ts, rfl, S, hn, k⟩ := h
    refine ⟨_, (pss_cons (ps_set (i := 1) sc_flat.nd rfl (Or.inl rfl) (pe_lst pa_nil))
      (pss_cons (ps_for PassesOwn.never rfl (pi_list (pv 0)) (pg_name (i := 2) sc_flat.nd rfl (Or.inl rfl)) (pss_one (ps_expr (pe_bm PySem.F.plainAttrs_list PySem.F.slot_list_extend PySem.F.type_list_extend (mt_extendT K rfl) (pv 1) (pa_cons (pv 2) pa_nil)))))
      (pss_one (ps_ret (pv 1))))), ?_⟩
    obtain ⟨as, hl, hlen, hat⟩ := S
    refine ⟨Nat.zero_le _, fun D hD => ?_⟩
    have s1 : Same H (L2.upd H D (.lst [])) := Same.upd1 hD
    refine ⟨_, rfl, l, rfl, ⟨_, SqL.of (s1 _ _ hl)⟩, for_list (K := K) (a := l) (xs := as.map V.ref) (fun i σ H2 => ∃ o2 : Option V, σ = [some (.ref l), some (.ref D), o2] ∧ Same H H2 ∧ H2 D = some (.lst ((Su124.three (ts.take i)).map nI))) ?_ ?_ ?_ ?_⟩
    · exact ⟨none, rfl, s1, upd_same⟩
    · rintro i σ H2 _ ⟨_, _, s2, _⟩
      exact SqL.of (s2 _ _ hl)
    · rintro i v σ H2 hi ⟨o2, rfl, s2, hD2⟩
      have hil : i < as.length := by
        have := (List.getElem?_eq_some_iff.mp hi).1
        rw [List.length_map] at this
        exact this
      obtain ⟨x, hx⟩ : ∃ x, ts[i]? = some x := ⟨_, List.getElem?_eq_getElem (by omega)⟩
      obtain ⟨b, eb, hb⟩ := hat i x hx
      have hv : v = .ref b := by
        rw [List.getElem?_map, eb] at hi
        exact (Option.some.inj hi).symm
      subst hv
      refine ⟨_, rfl, .inl ⟨rfl, _, SqL.of hD2⟩, _, rfl, D, b, _, _, rfl, rfl, hD2, SqT.of (s2 _ _ hb), ?_, _, rfl, Same.upd s2 hD, ?_⟩
      · rw [List.length_map, three_len, List.length_take]
        refine Nat.le_trans (show _ + 3 ≤ 1000 by omega) (by decide)
      · rw [upd_same, take_snoc hx, three_snoc, List.map_append]
        rfl
    · rintro σ H2 ⟨o2, rfl, s2, hD2⟩
      rw [List.length_map, hlen, List.take_length] at hD2
      exact ⟨_, rfl, k D H2 hD s2 hD2⟩
theorem ok_spare {f : Addr} {fd : FuncData} (F : Fun K "spare" "spare" s_spare f fd) (T : Txt K mg C) (G_refusal_if_missing : Ok P w K mg base "refusal_if_missing" 3 ["wall", "spot"] (spRef C refM)) (G_is_spare : Ok P w K mg base "is_spare" 3 ["wall", "spot"] (spIsSpare C)) (G_as_number : Ok P w K mg base "as_number" 1 ["truth"] spNumber) :
    FnOk P w K mg base CX0 12 f fd ["wall", "given"] (spCall C (c3 .spare)) := by
  refine F.ok sc_spare (fun vs H Q E h => ?_) (fun cdv A outer s H vs Q E hr h => ?_)
  · obtain ⟨p, l, g, a, is, x, rfl, _⟩ := h
    rfl
  · obtain ⟨p, l, g, a, _, _, rfl, ⟨i, j, d, rfl, rfl⟩, W, hg, hI, k⟩ := h
    refine ⟨_, (pss_cons (ps_set (i := 2) sc_spare.nd rfl (Or.inl rfl) (pe_callTy call_tuple_of (by rfl) T.b_tuple bo_tuple (pa_cons (pv 1) pa_nil)))
      (pss_cons (ps_set (i := 3) sc_spare.nd rfl (Or.inl rfl) (pe_ok G_refusal_if_missing (hr.mono (by decide)) rfl (pa_cons (pv 0) (pa_cons (pv 2) pa_nil))))
      (pss_cons (ps_if (pt_cmpR op_ne (pv 3) (pe_con T.c_NOT_REFUSED rfl) (nomark _)) (pss_one (ps_ret (pe_lst (pa_cons (pv 3) pa_nil)))) pss_nil)
      (pss_one (ps_ret (pe_lst (pa_cons (pe_ok G_as_number (hr.mono (by decide)) rfl (pa_cons (pe_ok G_is_spare (hr.mono (by decide)) rfl (pa_cons (pv 0) (pa_cons (pv 2) pa_nil))) pa_nil)) pa_nil))))))), ?_⟩
    refine ⟨_, rfl, g, _, rfl, .inl ⟨SqL.of hg, fun b hb => ?_⟩⟩
    have s1 : Same H (L2.upd H b (.tup [nI i, nI j, nI d])) := Same.upd1 hb
    have W1 := W.same s1
    refine ⟨_, rfl, _, rfl, p, l, b, a, i, j, d, rfl, W1, upd_same, _, rfl, rfl, _, rfl, ite2 (fun hc => ?_) (fun hc => ?_)⟩
    · have e : Su124.does a (.spare i j d) = (a, Su124.no (refM a i j d)) := by
        rw [TW.does_spare, refM_no (ne_yes hc)]
      exact ⟨_, rfl, (by show 1 ≤ sizeLine; decide), fun q hq => k.read W s1 hq (by rw [e]) (by rw [e]; rfl)⟩
    · obtain ⟨z, hd⟩ := refM_zero (ne_no hc)
      have e : Su124.does a (.spare i j d) = (a, Su124.num (Su124.bit (a.spare i j d)) []) := by rw [TW.does_spare, if_neg (ff z), if_neg (ff hd)]
      exact ⟨_, rfl, _, rfl, p, l, b, a, i, j, d, rfl, W1, hI, upd_same, z, fun H3 s3 => ⟨_, rfl, (by show 1 ≤ sizeLine; decide), fun q hq => k.read W (s1.trans s3) hq (by rw [e]) (by rw [e]; rfl)⟩⟩
theorem ok_spares {f : Addr} {fd : FuncData} (F : Fun K "spares" "spares" s_spares f fd) (T : Txt K mg C) (G_is_spare : Ok P w K mg base "is_spare" 3 ["wall", "spot"] (spIsSpare C)) (G_flat : Ok P w K mg base "flat" 1 ["spots"] spFlat) :
    FnOk P w K mg base CX0 12 f fd ["wall", "given"] (spCall C (c0 .spares)) := by
  refine F.ok sc_spares (fun vs H Q E h => ?_) (fun cdv A outer s H vs Q E hr h => ?_)
  · obtain ⟨p, l, g, a, is, x, rfl, _⟩ := h
    rfl
  · obtain ⟨p, l, g, a, _, _, rfl, ⟨rfl, rfl⟩, W, hg, hI, k⟩ := h
    refine ⟨_, (pss_cons (ps_setLc (i := 2) rfl sc_spares.nd rfl rfl (sw_true rfl rfl rfl rfl) (pi_list (pe_fldK K rfl (pv 0) rfl)) (own := [("spot", 3)]) (blkOk_by (N := ["wall", "given", "spots", "spot"]) (sc := defScope s_spares) (by decide +kernel)) (fun _ _ _ _ _ => (pg_name (i := 3) sc_spares.nd rfl (Or.inl rfl) (Or.inr rfl))) (fun _ _ _ _ _ => (pts_one (pt_val (pe_ok G_is_spare (hr.mono (by decide)) rfl (pa_cons (pv 0) (pa_cons (pv 3) pa_nil)))))) (fun _ _ _ _ _ => (pv 3)))
      (pss_one (ps_ret (pe_op op_cat (pe_lst (pa_cons (pe_callB (lenK K rfl) (by rfl) T.b_len bo_len (pa_cons (pv 2) pa_nil)) pa_nil)) (pe_ok G_flat (hr.mono (by decide)) rfl (pa_cons (pv 2) pa_nil)))))), ?_⟩
    obtain ⟨dx, hp⟩ := W.ob
    obtain ⟨ys, hl, hY⟩ := W.ts.pairs
    have hlen := inv_len hI
    refine ⟨_, rfl, p, C, dx, _, _, rfl, hp, T.cl, T.nT, wf_ties _ _ _, l, rfl, ⟨_, SqL.of hl⟩, fun D hD => ?_⟩
    refine lcl _ ys (fun y => a.spare y.2.1 y.2.2.1 y.2.2.2) vR hD hl (by rw [List.length_map]) (by rw [hY.len]; omega) (fun m v y H3 N M hi hy s3 hN hM => ⟨rfl, ?_⟩) (fun H3 s3 h3 => ?_)
    · have hv : v = vR y := by
        rw [List.getElem?_map, hy] at hi
        exact (Option.some.inj hi).symm
      subst hv
      have hym := List.mem_of_getElem? hy
      have hya : y.2 ∈ a.ties := by
        rw [← hY.1]
        exact List.mem_map_of_mem (f := fun y => y.2) hym
      refine ⟨_, rfl, _, rfl, p, l, y.1, a, y.2.1, y.2.2.1, y.2.2.2, rfl, W.same s3, hI, s3 _ _ (hY.2 y hym), TW.isS_iff.mpr (hI.ok _ hya), fun H4 s4 => ⟨_, rfl, ite2 (fun hc => ?_) (fun hc => ?_)⟩⟩
      · exact ⟨_, rfl, hN H4 s4 hc⟩
      · exact hM H4 s4 (Bool.eq_false_iff.mpr hc)
    · have hF := (hY.same s3).filter fun x => a.spare x.1 x.2.1 x.2.2
      have hfl : (a.ties.filter fun x => a.spare x.1 x.2.1 x.2.2).length ≤ 50 := Nat.le_trans (List.length_filter_le _ _) hlen
      refine ⟨_, rfl, D, _, rfl, .inl (SqL.of h3), (by show 1 ≤ sizeLine; decide), fun q1 hq1 => ?_⟩
      have s4 : ∀ o, Same H3 (L2.upd H3 q1 o) := fun o => Same.upd1 hq1
      refine ⟨_, rfl, D, _, rfl, (hF.same (s4 _)).spots (s4 _ _ _ h3), (by omega), fun q2 H4 nq2 s5 hq2 => ?_⟩
      refine ⟨q1, q2, _, _, rfl, rfl, s5 _ _ upd_same, hq2, ?_, fun q hq => ?_⟩
      · show 1 + ((Su124.three _).map nI).length ≤ _
        rw [List.length_map, three_len]
        exact Nat.le_trans (show 1 + _ ≤ 1000 by omega) (by decide)
      · refine k.read W ((s3.trans (s4 _)).trans s5) hq (by rw [TW.does_spares]) ?_
        rw [TW.does_spares]
        show _ = V.int _ :: _
        rw [List.length_map, hF.len]
        rfl
theorem ok_ties {f : Addr} {fd : FuncData} (F : Fun K "ties" "ties" s_ties f fd) (T : Txt K mg C) (G_flat : Ok P w K mg base "flat" 1 ["spots"] spFlat) : FnOk P w K mg base CX0 12 f fd ["wall", "given"] (spCall C (c0 .ties)) := by
  refine F.ok sc_ties (fun vs H Q E h => ?_) (fun cdv A outer s H vs Q E hr h => ?_)
  · obtain ⟨p, l, g, a, is, x, rfl, _⟩ := h
    rfl
  · obtain ⟨p, l, g, a, _, _, rfl, ⟨rfl, rfl⟩, W, hg, hI, k⟩ := h
    refine ⟨_, (pss_one (ps_ret (pe_op op_cat (pe_lst (pa_cons (pe_callB (lenK K rfl) (by rfl) T.b_len bo_len (pa_cons (pe_fldK K rfl (pv 0) rfl) pa_nil)) pa_nil)) (pe_ok G_flat (hr.mono (by decide)) rfl (pa_cons (pe_fldK K rfl (pv 0) rfl) pa_nil))))), ?_⟩
    obtain ⟨dx, hp⟩ := W.ob
    obtain ⟨as, hl, hlen, _⟩ := W.ts
    have hn := inv_len hI
    refine ⟨_, rfl, p, C, dx, _, _, rfl, hp, T.cl, T.nT, wf_ties _ _ _, l, _, rfl, .inl (SqL.of hl), (by show 1 ≤ sizeLine; decide), fun q1 hq1 => ?_⟩
    have s4 : ∀ o, Same H (L2.upd H q1 o) := fun o => Same.upd1 hq1
    refine ⟨_, rfl, p, C, dx, _, _, rfl, s4 _ _ _ hp, T.cl, T.nT, wf_ties _ _ _, l, a.ties, rfl, W.ts.same (s4 _), (by omega), fun q2 H4 nq2 s5 hq2 => ?_⟩
    refine ⟨q1, q2, _, _, rfl, rfl, s5 _ _ upd_same, hq2, ?_, fun q hq => ?_⟩
    · show 1 + ((Su124.three _).map nI).length ≤ _
      rw [List.length_map, three_len]
      exact Nat.le_trans (show 1 + _ ≤ 1000 by omega) (by decide)
    · refine k.read W ((s4 _).trans s5) hq (by rw [TW.does_ties]) ?_
      rw [TW.does_ties]
      show _ = V.int _ :: _
      rw [List.length_map, hlen]
      rfl
theorem ok_state {f : Addr} {fd : FuncData} (F : Fun K "state" "state" s_state f fd) (T : Txt K mg C) (G_table_of : Ok P w K mg base "table_of" 4 ["wall"] (spTab C)) (G_needed_at_least : Ok P w K mg base "needed_at_least" 5 ["table"] spNeed) : FnOk P w K mg base CX0 12 f fd ["wall", "given"] (spCall C (c0 .state)) := by
  refine F.ok sc_state (fun vs H Q E h => ?_) (fun cdv A outer s H vs Q E hr h => ?_)
  · obtain ⟨p, l, g, a, is, x, rfl, _⟩ := h
    rfl
  · obtain ⟨p, l, g, a, _, _, rfl, ⟨rfl, rfl⟩, W, hg, hI, k⟩ := h
    refine ⟨_, (pss_one (ps_ret (pe_lst (pa_cons (pe_fldK K rfl (pv 0) rfl) (pa_cons (pe_fldK K rfl (pv 0) rfl) (pa_cons (pe_callB (lenK K rfl) (by rfl) T.b_len bo_len (pa_cons (pe_fldK K rfl (pv 0) rfl) pa_nil)) (pa_cons (pe_ok G_needed_at_least (hr.mono (by decide)) rfl (pa_cons (pe_ok G_table_of (hr.mono (by decide)) rfl (pa_cons (pv 0) pa_nil)) pa_nil)) pa_nil))))))), ?_⟩
    obtain ⟨dx, hp⟩ := W.ob
    obtain ⟨as, hl, hlen, _⟩ := W.ts
    have hz := hI.size
    refine ⟨_, rfl, p, C, dx, _, _, rfl, hp, T.cl, T.nR, wf_rows _ _ _, _, rfl, p, C, dx, _, _, rfl, hp, T.cl, T.nC, wf_cols _ _ _, _, rfl, p, C, dx, _, _, rfl, hp, T.cl, T.nT, wf_ties _ _ _, l, _, rfl, .inl (SqL.of hl), _, rfl, p, l, a, rfl, W, TW_fit hI, fun t H1 s1 ht => ?_⟩
    refine ⟨t, a.size, TW.R a, rfl, ht, hI.eqv, (by omega), fun H2 s2 => ⟨(by show 4 ≤ sizeLine; decide), fun q hq => k.read W (s1.trans s2) hq (by rw [TW.does_state]) ?_⟩⟩
    rw [TW.does_state, TW.bound_need hI.pos, List.length_map, hlen]
    rfl
theorem ok_would {f : Addr} {fd : FuncData} (F : Fun K "would" "would" s_would f fd) (T : Txt K mg C) (G_refusal_if_there : Ok P w K mg base "refusal_if_there" 3 ["wall", "spot"] (spRef C refT)) (G_table_of : Ok P w K mg base "table_of" 4 ["wall"] (spTab C)) (G_table_with : Ok P w K mg base "table_with" 2 ["table", "step"] spWith)
    (G_passage : Ok P w K mg base "passage" 1 ["rows", "spot"] spPassage) (G_firsts : Ok P w K mg base "firsts" 3 ["table"] spFirsts) (G_lean_count : Ok P w K mg base "lean_count" 3 ["wall", "table"] (spLeanCount C)) : FnOk P w K mg base CX0 12 f fd ["wall", "given"] (spCall C (c3 .would)) := by
  refine F.ok sc_would (fun vs H Q E h => ?_) (fun cdv A outer s H vs Q E hr h => ?_)
  · obtain ⟨p, l, g, a, is, x, rfl, _⟩ := h
    rfl
  · obtain ⟨p, l, g, a, _, _, rfl, ⟨i, j, d, rfl, rfl⟩, W, hg, hI, k⟩ := h
    refine ⟨_, (pss_cons (ps_set (i := 2) sc_would.nd rfl (Or.inl rfl) (pe_callTy call_tuple_of (by rfl) T.b_tuple bo_tuple (pa_cons (pv 1) pa_nil)))
      (pss_cons (ps_set (i := 3) sc_would.nd rfl (Or.inl rfl) (pe_ok G_refusal_if_there (hr.mono (by decide)) rfl (pa_cons (pv 0) (pa_cons (pv 2) pa_nil))))
      (pss_cons (ps_if (pt_cmpR op_ne (pv 3) (pe_con T.c_NOT_REFUSED rfl) (nomark _)) (pss_one (ps_ret (pe_lst (pa_cons (pv 3) pa_nil)))) pss_nil)
      (pss_cons (ps_set (i := 4) sc_would.nd rfl (Or.inl rfl) (pe_ok G_table_of (hr.mono (by decide)) rfl (pa_cons (pv 0) pa_nil)))
      (pss_cons (ps_set (i := 5) sc_would.nd rfl (Or.inl rfl) (pe_ok G_table_with (hr.mono (by decide)) rfl (pa_cons (pv 4) (pa_cons (pe_ok G_passage (hr.mono (by decide)) rfl (pa_cons (pe_fldK K rfl (pv 0) rfl) (pa_cons (pv 2) pa_nil))) pa_nil))))
      (pss_one (ps_ret (pe_lst (pa_cons (pe_callB (lenK K rfl) (by rfl) T.b_len bo_len (pa_cons (pe_ok G_firsts (hr.mono (by decide)) rfl (pa_cons (pv 5) pa_nil)) pa_nil)) (pa_cons (pe_op op_sub (pe_ok G_lean_count (hr.mono (by decide)) rfl (pa_cons (pv 0) (pa_cons (pv 4) pa_nil))) (pe_ok G_lean_count (hr.mono (by decide)) rfl (pa_cons (pv 0) (pa_cons (pv 5) pa_nil)))) pa_nil)))))))))), ?_⟩
    obtain ⟨dx, hp⟩ := W.ob
    refine ⟨_, rfl, g, _, rfl, .inl ⟨SqL.of hg, fun b hb => ?_⟩⟩
    have s1 : Same H (L2.upd H b (.tup [nI i, nI j, nI d])) := Same.upd1 hb
    have W1 := W.same s1
    refine ⟨_, rfl, _, rfl, p, l, b, a, i, j, d, rfl, W1, upd_same, _, rfl, rfl, _, rfl, ite2 (fun hc => ?_) (fun hc => ?_)⟩
    · have e : Su124.does a (.would i j d) = (a, Su124.no (refT a i j d)) := by
        rw [TW.does_would, refT_no (ne_yes hc)]
      exact ⟨_, rfl, (by show 1 ≤ sizeLine; decide), fun q hq => k.read W s1 hq (by rw [e]) (by rw [e]; rfl)⟩
    · obtain ⟨z, hd⟩ := refT_zero (ne_no hc)
      have e : Su124.does a (.would i j d) = (a, Su124.num (a.with_ i j d).parts.length [a.count - (a.with_ i j d).count]) := by
        rw [TW.does_would, if_neg (ff z), if_neg (tt hd)]
      have hI2 := hI.with_ z hd
      have hz := hI.size
      have hS := TW.isS_iff.mp z
      obtain ⟨hu, hv⟩ := TW.arr_lt (a := a) (d := d) hS.1 hS.2.1
      refine ⟨_, rfl, p, l, a, rfl, W1, TW_fit hI, fun t H2 s2 ht => ?_⟩
      have s12 := s1.trans s2
      refine ⟨_, rfl, _, rfl, p, C, dx, _, _, rfl, s12 _ _ hp, T.cl, T.nR, wf_rows _ _ _, _, rfl, a.m, i, j, d, b, rfl, s2 _ _ upd_same, fun st H3 s3 h3 => ?_⟩
      refine ⟨t, st, a.size, _, _, TW.R a, rfl, ht.same s3, h3, hu, hv, (by omega), fun t2 H4 s4 ht2 => ?_⟩
      have ht2 : TblAt H4 t2 a.size (TW.R (a.with_ i j d)) := ht2.congr fun u v hu' hv' => (TW.R_snoc (b := a) (x := (i, j, d)) hI.ok hS hu').symm
      have s14 := (s12.trans s3).trans s4
      refine ⟨_, rfl, t2, a.size, TW.R (a.with_ i j d), rfl, ht2, hI2.eqv, (by omega), fun q1 H5 s5 hq1 => ⟨q1, _, rfl, .inl (SqL.of hq1), ?_⟩⟩
      refine ⟨_, rfl, _, rfl, p, l, t, a, TW.R a, rfl, W.same (s14.trans s5), hI.m5, hI.n5, (ht.same (s3.trans s4)).same s5, fun H6 s6 => ?_⟩
      refine ⟨_, rfl, _, rfl, p, l, t2, a, TW.R (a.with_ i j d), rfl, W.same ((s14.trans s5).trans s6), hI.m5, hI.n5, ht2.same (s5.trans s6), fun H7 s7 => ?_⟩
      rw [count_R (a := a) (b := a) rfl rfl, count_R (a := a) (b := a.with_ i j d) rfl rfl, List.length_map]
      refine ⟨_, _, rfl, rfl, (by show 2 ≤ sizeLine; decide), fun q hq => k.read W (((s14.trans s5).trans s6).trans s7) hq (by rw [e]) ?_⟩
      rw [e]
      have le : (a.with_ i j d).count ≤ a.count := TW.count_mono (a := a) (b := a.with_ i j d) rfl rfl hI.arr hI2.arr fun x hx => List.mem_append.mpr (.inl hx)
      show [V.int _, V.int _] = [V.int _, V.int _]
      rw [TW.parts_eq]
      refine congrArg (fun z => [V.int _, V.int z]) ?_
      omega
theorem ok_falls {f : Addr} {fd : FuncData} (F : Fun K "falls" "falls" s_falls f fd) (T : Txt K mg C) (G_refusal_if_missing : Ok P w K mg base "refusal_if_missing" 3 ["wall", "spot"] (spRef C refM)) (G_table_by : Ok P w K mg base "table_by" 3 ["wall", "spots"] (spTabBy C)) (G_ties_without : Ok P w K mg base "ties_without" 1 ["wall", "spot"] (spWithout C))
    (G_table_of : Ok P w K mg base "table_of" 4 ["wall"] (spTab C)) (G_firsts : Ok P w K mg base "firsts" 3 ["table"] spFirsts) (G_lean_count : Ok P w K mg base "lean_count" 3 ["wall", "table"] (spLeanCount C)) : FnOk P w K mg base CX0 12 f fd ["wall", "given"] (spCall C (c3 .falls)) := by
  refine F.ok sc_falls (fun vs H Q E h => ?_) (fun cdv A outer s H vs Q E hr h => ?_)
  · obtain ⟨p, l, g, a, is, x, rfl, _⟩ := h
    rfl
  · obtain ⟨p, l, g, a, _, _, rfl, ⟨i, j, d, rfl, rfl⟩, W, hg, hI, k⟩ := h
    refine ⟨_, (pss_cons (ps_set (i := 2) sc_falls.nd rfl (Or.inl rfl) (pe_callTy call_tuple_of (by rfl) T.b_tuple bo_tuple (pa_cons (pv 1) pa_nil)))
      (pss_cons (ps_set (i := 3) sc_falls.nd rfl (Or.inl rfl) (pe_ok G_refusal_if_missing (hr.mono (by decide)) rfl (pa_cons (pv 0) (pa_cons (pv 2) pa_nil))))
      (pss_cons (ps_if (pt_cmpR op_ne (pv 3) (pe_con T.c_NOT_REFUSED rfl) (nomark _)) (pss_one (ps_ret (pe_lst (pa_cons (pv 3) pa_nil)))) pss_nil)
      (pss_cons (ps_set (i := 4) sc_falls.nd rfl (Or.inl rfl) (pe_ok G_table_by (hr.mono (by decide)) rfl (pa_cons (pv 0) (pa_cons (pe_ok G_ties_without (hr.mono (by decide)) rfl (pa_cons (pv 0) (pa_cons (pv 2) pa_nil))) pa_nil))))
      (pss_one (ps_ret (pe_lst (pa_cons (pe_callB (lenK K rfl) (by rfl) T.b_len bo_len (pa_cons (pe_ok G_firsts (hr.mono (by decide)) rfl (pa_cons (pv 4) pa_nil)) pa_nil)) (pa_cons (pe_op op_sub (pe_ok G_lean_count (hr.mono (by decide)) rfl (pa_cons (pv 0) (pa_cons (pv 4) pa_nil))) (pe_ok G_lean_count (hr.mono (by decide)) rfl (pa_cons (pv 0) (pa_cons (pe_ok G_table_of (hr.mono (by decide)) rfl (pa_cons (pv 0) pa_nil)) pa_nil)))) pa_nil))))))))), ?_⟩
    refine ⟨_, rfl, g, _, rfl, .inl ⟨SqL.of hg, fun b hb => ?_⟩⟩
    have s1 : Same H (L2.upd H b (.tup [nI i, nI j, nI d])) := Same.upd1 hb
    have W1 := W.same s1
    refine ⟨_, rfl, _, rfl, p, l, b, a, i, j, d, rfl, W1, upd_same, _, rfl, rfl, _, rfl, ite2 (fun hc => ?_) (fun hc => ?_)⟩
    · have e : Su124.does a (.falls i j d) = (a, Su124.no (refM a i j d)) := by
        rw [TW.does_falls, refM_no (ne_yes hc)]
      exact ⟨_, rfl, (by show 1 ≤ sizeLine; decide), fun q hq => k.read W s1 hq (by rw [e]) (by rw [e]; rfl)⟩
    · obtain ⟨z, hd⟩ := refM_zero (ne_no hc)
      have e : Su124.does a (.falls i j d) = (a, Su124.num (a.without i j d).parts.length [(a.without i j d).count - a.count]) := by
        rw [TW.does_falls, if_neg (ff z), if_neg (ff hd)]
      have hI2 := hI.without i j d
      have hz := hI.size
      refine ⟨_, rfl, _, rfl, _, rfl, p, l, b, a, i, j, d, rfl, W1, Nat.le_trans (inv_len hI) (by decide), upd_same, fun q0 H2 _ s2 hq0 => ?_⟩
      have s12 := s1.trans s2
      refine ⟨p, l, q0, a, a.without i j d, rfl, W.same s12, hq0, rfl, rfl, TW_fit hI2, fun t2 H3 s3 ht2 => ?_⟩
      have s13 := s12.trans s3
      refine ⟨_, rfl, t2, a.size, TW.R (a.without i j d), rfl, ht2, hI2.eqv, (by omega), fun q1 H4 s4 hq1 => ⟨q1, _, rfl, .inl (SqL.of hq1), ?_⟩⟩
      refine ⟨_, rfl, _, rfl, p, l, t2, a, TW.R (a.without i j d), rfl, W.same (s13.trans s4), hI.m5, hI.n5, ht2.same s4, fun H5 s5 => ?_⟩
      have s15 := (s13.trans s4).trans s5
      refine ⟨_, rfl, _, rfl, p, l, a, rfl, W.same s15, TW_fit hI, fun t H6 s6 ht => ?_⟩
      refine ⟨p, l, t, a, TW.R a, rfl, W.same (s15.trans s6), hI.m5, hI.n5, ht, fun H7 s7 => ?_⟩
      rw [count_R (a := a) (b := a) rfl rfl, count_R (a := a) (b := a.without i j d) rfl rfl, List.length_map]
      refine ⟨_, _, rfl, rfl, (by show 2 ≤ sizeLine; decide), fun q hq => k.read W ((s15.trans s6).trans s7) hq (by rw [e]) ?_⟩
      rw [e]
      have le : a.count ≤ (a.without i j d).count := TW.count_mono (a := a.without i j d) (b := a) rfl rfl hI2.arr hI.arr fun x hx => (List.mem_filter.mp hx).1
      show [V.int _, V.int _] = [V.int _, V.int _]
      rw [TW.parts_eq]
      refine congrArg (fun z => [V.int _, V.int z]) ?_
      omega
end
end TP

end

section
set_option Elab.async false
set_option linter.all false
set_option maxRecDepth 100000
set_option maxHeartbeats 4000000
namespace TP
open PySem PySem.Spec PyProof.Rows L2 TR
theorem cut_from {xs : List V} {i : Nat} (hi : i ≤ xs.length) : cutV xs (some (i : Int)) none = xs.drop i := by
  unfold cutV
  have e : HT.sIx xs.length 0 (some (i : Int)) = i := by
    show (if (i : Int) < 0 then ((i : Int) + (xs.length : Int)).toNat else min (i : Int).toNat xs.length) = i
    rw [if_neg (by omega)]
    omega
  rw [e]
  show (xs.drop i).take (xs.length - i) = _
  rw [← List.length_drop, List.take_length]
theorem way_get {l : List Nat} {i : Nat} (h : i < l.length) : (l.map nI)[i]? = some (nI (l.getD i 0)) := by
  rw [List.getElem?_map, List.getD_eq_getElem?_getD, List.getElem?_eq_getElem h]
  rfl
theorem inV_nat (t : Nat) : ∀ ts : List Nat, inV (nI t) (ts.map nI) = ts.contains t
  | [] => rfl
  | y :: ts => by
    have ih := inV_nat t ts
    unfold inV at ih ⊢
    rw [List.map_cons, List.any_cons, ih, List.contains_cons]
    refine congrArg (fun b => b || ts.contains t) ?_
    show ((y : Int) == (t : Int)) = (t == y)
    by_cases e : y = t
    · subst e
      rw [beq_self_eq_true, beq_self_eq_true]
    · rw [beq_eq_false_iff_ne.mpr (fun q => e (Int.ofNat_inj.mp q)), beq_eq_false_iff_ne.mpr (fun q => e q.symm)]
theorem flat_nat (ts : List Nat) : (ts.map nI).all flatV = true := by
  rw [List.all_map, List.all_eq_true]
  exact fun _ _ => rfl
theorem gt_mono {K : PySem.W.Frag} {n i j : Nat} : ∀ (v : V) (σ : L2.St) (H : Hp) (Q Q' : L2.St → Hp → Prop), (∀ σ2 H2, Q σ2 H2 → Q' σ2 H2) → gTup K n (gCons (gName i) (gCons (gName j) gNil)) v σ H Q → gTup K n (gCons (gName i) (gCons (gName j) gNil)) v σ H Q' := by
  rintro v σ H Q Q' h ⟨a, xs, e1, e2, e3, x, ys, e4, x', ys', e5, e6, q⟩
  exact ⟨a, xs, e1, e2, e3, x, ys, e4, x', ys', e5, e6, h _ _ q⟩
theorem uneven_len (m n : Nat) (q : Nat → Nat → Bool) : ((sq1 n m).filter fun x => q x.1 x.2).length = ((List.range m).flatMap fun i => (List.range n).filter fun j => q i j).length := by
  unfold sq1
  rw [List.filter_flatMap, List.length_flatMap, List.length_flatMap]
  refine congrArg List.sum (List.map_congr_left fun i _ => ?_)
  rw [List.filter_map, List.length_map]
  rfl
theorem SpotsAt.set {H : Hp} {l q : Addr} {ts : List (Nat × Nat × Nat)} {as : List Addr} {x : Nat × Nat × Nat} {m : Nat} (hl : H l = some (.lst (as.map V.ref))) (hlen : as.length = ts.length)
    (hat : ∀ (i : Nat) (x : Nat × Nat × Nat), ts[i]? = some x → ∃ a, as[i]? = some a ∧ H a = some (.tup [nI x.1, nI x.2.1, nI x.2.2])) (hq : H q = some (.tup [nI x.1, nI x.2.1, nI x.2.2])) :
    SpotsAt (L2.upd H l (.lst ((as.map V.ref).set m (.ref q)))) l (ts.set m x) := by
  refine ⟨as.set m q, ?_, by rw [List.length_set, List.length_set, hlen], fun i y e => ?_⟩
  · rw [upd_same, ← List.map_set]
  · by_cases z : m = i
    · subst z
      have hm : m < ts.length := by
        have := (List.getElem?_eq_some_iff.mp e).1
        rw [List.length_set] at this
        exact this
      rw [List.getElem?_set_self hm] at e
      cases e
      exact ⟨q, List.getElem?_set_self (by omega), by rw [upd_ne (ne_of hq hl (by intro z; cases z))]; exact hq⟩
    · rw [List.getElem?_set_ne z] at e ⊢
      obtain ⟨a, e1, e2⟩ := hat i y e
      exact ⟨a, e1, by rw [upd_ne (ne_of e2 hl (by intro z; cases z))]; exact e2⟩
section
variable {P : Program} {w : World} {K : PySem.W.Frag} {mg : Str → Option Value} {base : Heap} {C : Addr}
def cT (is : List Nat) (x : Su124.Call) : Prop := ∃ l : List Nat, is = l.length :: l ∧ x = .turn l
theorem ok_turn {f : Addr} {fd : FuncData} (F : Fun K "turn" "turn" s_turn f fd) (T : Txt K mg C) (G_strip_count : Ok P w K mg base "strip_count" 1 ["wall"] (spCount C)) (G_passages_by : Ok P w K mg base "passages_by" 2 ["wall", "spots"] (spPasses C)) (G_all_squares : Ok P w K mg base "all_squares" 1 ["wall"] (spSquares C)) (G_as_number : Ok P w K mg base "as_number" 1 ["truth"] spNumber) :
    FnOk P w K mg base CX0 12 f fd ["wall", "given"] (spCall C cT) := by
  refine F.ok sc_turn (fun vs H Q E h => ?_) (fun cdv A outer s H vs Q E hr h => ?_)
  · obtain ⟨p, l, g, a, is, x, rfl, _⟩ := h
    rfl
  · obtain ⟨p, l, g, a, _, _, rfl, ⟨y, rfl, rfl⟩, W, hg, hI, k⟩ := h
    refine ⟨_, (pss_cons (ps_set (i := 2) sc_turn.nd rfl (Or.inr rfl) (pe_slice (slK K rfl) (pv 1) (po_some pe_int) po_none))
      (pss_cons (ps_if (pt_cmpR op_ne (pe_callB (lenK K rfl) (by rfl) T.b_len bo_len (pa_cons (pv 2) pa_nil)) (pe_ok G_strip_count (hr.mono (by decide)) rfl (pa_cons (pv 0) pa_nil)) (nomark _)) (pss_one (ps_ret (pe_lst (pa_cons (pe_con T.c_OUT_OF_RANGE rfl) pa_nil)))) pss_nil)
      (pss_cons (ps_set (i := 3) sc_turn.nd rfl (Or.inl rfl) (pe_callB (allK K rfl rfl) (by rfl) T.b_all bo_all (pa_cons (pe_lc rfl sc_turn.nd (pi_list (pe_ok G_passages_by (hr.mono (by decide)) rfl (pa_cons (pv 0) (pa_cons (pe_fldK K rfl (pv 0) rfl) pa_nil)))) (own := [("held", 4), ("holder", 5)]) (blkOk_by (N := ["wall", "given", "way", "keeps", "held", "holder", "uneven", "row", "column"]) (sc := defScope s_turn) (by decide +kernel)) (fun _ _ _ _ _ => (pg_tupK (n := 2) K rfl rfl (pgs_cons (pg_name (i := 4) sc_turn.nd rfl (Or.inl rfl) (Or.inr rfl)) (pgs_cons (pg_name (i := 5) sc_turn.nd rfl (Or.inl rfl) (Or.inr rfl)) pgs_nil)))) (fun _ _ _ _ _ => pts_nil) (fun _ _ _ _ _ => (pe_cmpR op_le (pe_ix (ixl K rfl) (pv 2) (pv 4) (fun _ _ => rfl)) (pe_ix (ixl K rfl) (pv 2) (pv 5) (fun _ _ => rfl)) (nomark _)))) pa_nil)))
      (pss_cons (ps_setLc (i := 6) rfl sc_turn.nd rfl rfl (sw_true rfl rfl rfl rfl) (pi_list (pe_ok G_all_squares (hr.mono (by decide)) rfl (pa_cons (pv 0) pa_nil))) (own := [("row", 7), ("column", 8)]) (blkOk_by (N := ["wall", "given", "way", "keeps", "held", "holder", "uneven", "row", "column"]) (sc := defScope s_turn) (by decide +kernel)) (fun _ _ _ _ _ => (pg_tupK (n := 2) K rfl rfl (pgs_cons (pg_name (i := 7) sc_turn.nd rfl (Or.inl rfl) (Or.inr rfl)) (pgs_cons (pg_name (i := 8) sc_turn.nd rfl (Or.inl rfl) (Or.inr rfl)) pgs_nil)))) (fun _ _ _ _ _ => (pts_one (pt_cmpR op_ne (pe_ix (ixl K rfl) (pv 2) (pv 7) (fun _ _ => rfl)) (pe_ix (ixl K rfl) (pv 2) (pe_op op_add (pe_fldK K rfl (pv 0) rfl) (pv 8)) (fun _ _ => rfl)) (nomark _)))) (fun _ _ _ _ _ => (pv 7)))
      (pss_one (ps_ret (pe_lst (pa_cons (pe_ok G_as_number (hr.mono (by decide)) rfl (pa_cons (pv 3) pa_nil)) (pa_cons (pe_callB (lenK K rfl) (by rfl) T.b_len bo_len (pa_cons (pv 6) pa_nil)) pa_nil))))))))), ?_⟩
    obtain ⟨dx, hp⟩ := W.ob
    refine ⟨_, rfl, _, rfl, g, _, rfl, SqL.of hg, fun q0 hq0 => ?_⟩
    have ecut : cutV ((y.length :: y).map nI) (some 1) none = y.map nI := cut_from (xs := (y.length :: y).map nI) (i := 1) (by rw [List.length_map, List.length_cons]; omega)
    rw [ecut]
    have s1 : Same H (L2.upd H q0 (.lst (y.map nI))) := Same.upd1 hq0
    have W1 := W.same s1
    refine ⟨_, rfl, q0, _, rfl, .inl (SqL.of upd_same), _, rfl, p, l, a, rfl, W1, rfl, _, rfl, ite2 (fun hc => ?_) (fun hc => ?_)⟩
    · have hne : y.length ≠ a.size := fun z => by
        rw [List.length_map, z, decide_eq_true rfl] at hc
        cases hc
      have e : Su124.does a (.turn y) = (a, Su124.no (-22)) := by rw [TW.does_turn, if_pos hne]
      exact ⟨(by show 1 ≤ sizeLine; decide), fun q hq => k.read W s1 hq (by rw [e]) (by rw [e]; rfl)⟩
    · have hlen : y.length = a.size := by
        apply Classical.byContradiction
        intro z
        refine hc ?_
        rw [decide_eq_false (fun v => z (by injection v with v; rw [List.length_map] at v; omega))]
        rfl
      have e : Su124.does a (.turn y) = (a, Su124.num (Su124.bit (a.turns y)) [((List.range a.m).flatMap fun i => (List.range a.n).filter fun j => y.getD i 0 != y.getD (a.col j) 0).length]) := by rw [TW.does_turn, if_neg (fun z => z hlen)]
      have hz := hI.size
      have hln := inv_len hI
      have hq1 : (L2.upd H q0 (.lst (y.map nI))) q0 = some (.lst (y.map nI)) := upd_same
      refine ⟨_, rfl, _, rfl, p, C, dx, _, _, rfl, s1 _ _ hp, T.cl, T.nT, wf_ties _ _ _, p, l, l, a, a.ties, rfl, W1, W1.ts, (by omega), fun q2 H2 _ s2 hP => ?_⟩
      rw [← TW.arrows_eq] at hP
      obtain ⟨bs, hl2, hlen2, hat2⟩ := hP
      have hbl : a.arrows.length ≤ 50 := by
        rw [TW.arrows_eq, List.length_map]
        exact hln
      refine ⟨q2, rfl, ⟨_, SqL.of hl2⟩, fun D hD => ?_⟩
      refine lcl0 _ a.arrows (fun x => V.bl (decide (y.getD x.1 0 ≤ y.getD x.2 0))) hD hl2 (by rw [List.length_map]; exact hlen2) (by omega) (fun m v x H3 N hi hy s3 hN => ?_) (fun H3 s3 h3 => ?_) gt_mono
      · obtain ⟨b, eb, hb⟩ := hat2 m x hy
        have hv : v = .ref b := by
          rw [List.getElem?_map, eb] at hi
          exact (Option.some.inj hi).symm
        subst hv
        obtain ⟨hx1, hx2⟩ := hI.arr x (List.mem_of_getElem? hy)
        have hw := s3 _ _ (s2 _ _ hq1)
        refine ⟨b, _, rfl, SqT.of (s3 _ _ hb), rfl, _, _, rfl, _, _, rfl, rfl, rfl, ?_⟩
        refine ⟨_, rfl, _, rfl, q0, _, _, _, rfl, rfl, SqL.of hw, at_of (j := x.1) rfl (way_get (by omega)), _, rfl, _, rfl, q0, _, _, _, rfl, rfl, SqL.of hw, at_of (j := x.2) rfl (way_get (by omega)), _, _, rfl, rfl, ?_⟩
        have n := hN H3 (Same.refl _)
        rw [dec2 (show y.getD x.1 0 ≤ y.getD x.2 0 ↔ ((y.getD x.1 0 : Nat) : Int) ≤ ((y.getD x.2 0 : Nat) : Int) by omega)] at n
        exact n
      · rw [show (a.arrows.map fun x => V.bl (decide (y.getD x.1 0 ≤ y.getD x.2 0))) = (a.arrows.map fun x => decide (y.getD x.1 0 ≤ y.getD x.2 0)).map V.bl by rw [List.map_map]; rfl] at h3
        refine ⟨D, _, rfl, SqL.of h3, ?_⟩
        have s13 := (s1.trans s2).trans s3
        refine ⟨_, rfl, p, l, a, rfl, W.same s13, hI.m5, hI.n5, fun q3 H4 _ s4 hq3 => ?_⟩
        obtain ⟨cs, hl3, hlen3, hat3⟩ := hq3
        have hsl : (sq1 a.n a.m).length ≤ 25 := by
          rw [sq1_len]
          exact Nat.mul_le_mul hI.m5 hI.n5
        refine ⟨q3, rfl, ⟨_, SqL.of hl3⟩, fun D2 hD2 => ?_⟩
        refine lcl _ (sq1 a.n a.m) (fun x => y.getD x.1 0 != y.getD (a.m + x.2) 0) (fun x => nI x.1) hD2 hl3 (by rw [List.length_map]; exact hlen3) (by omega) (fun m v x H5 N M hi hy s5 hN hM => ?_) (fun H5 s5 h5 => ?_)
        · obtain ⟨b, eb, hb⟩ := hat3 m x hy
          have hv : v = .ref b := by
            rw [List.getElem?_map, eb] at hi
            exact (Option.some.inj hi).symm
          subst hv
          obtain ⟨hx1, hx2⟩ := mem_sq1 (List.mem_of_getElem? hy)
          have hsz : a.size = a.m + a.n := rfl
          have hw := (((s2.trans s3).trans s4).trans s5) _ _ hq1
          refine ⟨b, _, rfl, SqT.of (s5 _ _ hb), rfl, _, _, rfl, _, _, rfl, rfl, rfl, ?_⟩
          refine ⟨_, rfl, _, rfl, q0, _, _, _, rfl, rfl, SqL.of hw, at_of (j := x.1) rfl (way_get (by omega)), _, rfl, _, rfl, p, C, dx, _, _, rfl, ((s13.trans s4).trans s5) _ _ hp, T.cl, T.nR, wf_rows _ _ _, _, rfl, _, _, rfl, rfl, q0, _, _, _, rfl, rfl, SqL.of hw, at_of (j := a.m + x.2) (by omega) (way_get (by omega)), rfl, _, rfl, ite2 (fun hc => ?_) (fun hc => ?_)⟩
          · refine ⟨_, rfl, hN H5 (Same.refl _) (bne_iff_ne.mpr fun z => ?_)⟩
            rw [z, decide_eq_true rfl] at hc
            cases hc
          · refine hM H5 (Same.refl _) ?_
            cases z : (y.getD x.1 0 != y.getD (a.m + x.2) 0) with
            | false => rfl
            | true =>
              refine absurd ?_ hc
              rw [decide_eq_false (fun v => bne_iff_ne.mp z (by injection v with v; exact Int.ofNat_inj.mp v))]
              rfl
        · refine ⟨_, rfl, _, rfl, _, rfl, D2, _, rfl, .inl (SqL.of h5), (by show 2 ≤ sizeLine; decide), fun q hq => k.read W ((s13.trans s4).trans s5) hq (by rw [e]) ?_⟩
          rw [e]
          show [V.int _, V.int _] = [V.int _, V.int _]
          rw [List.length_map]
          have e1 : a.turns y = (a.arrows.map fun x => decide (y.getD x.1 0 ≤ y.getD x.2 0)).all id := by
            unfold Su124.Abs.turns
            rw [hlen, beq_self_eq_true, Bool.true_and, List.all_map]
            rfl
          rw [e1]
          have e2 : ((sq1 a.n a.m).filter fun x => y.getD x.1 0 != y.getD (a.m + x.2) 0).length = ((List.range a.m).flatMap fun i => (List.range a.n).filter fun j => y.getD i 0 != y.getD (a.col j) 0).length := uneven_len a.m a.n (fun i j => y.getD i 0 != y.getD (a.m + j) 0)
          rw [e2]
          rfl
def c2 (mk : Nat → Nat → Su124.Call) (is : List Nat) (x : Su124.Call) : Prop := ∃ i j, is = [i, j] ∧ x = mk i j
theorem ok_stiff {f : Addr} {fd : FuncData} (F : Fun K "stiff" "stiff" s_stiff f fd) (T : Txt K mg C) (G_has_square : Ok P w K mg base "has_square" 1 ["wall", "row", "column"] (spSquare C)) (G_table_of : Ok P w K mg base "table_of" 4 ["wall"] (spTab C)) (G_together : Ok P w K mg base "together" 1 ["table", "strip"] spTogether) (G_as_number : Ok P w K mg base "as_number" 1 ["truth"] spNumber) :
    FnOk P w K mg base CX0 12 f fd ["wall", "given"] (spCall C (c2 .stiff)) := by
  refine F.ok sc_stiff (fun vs H Q E h => ?_) (fun cdv A outer s H vs Q E hr h => ?_)
  · obtain ⟨p, l, g, a, is, x, rfl, _⟩ := h
    rfl
  · obtain ⟨p, l, g, a, _, _, rfl, ⟨i, j, rfl, rfl⟩, W, hg, hI, k⟩ := h
    refine ⟨_, (pss_cons (ps_set (i := 2) sc_stiff.nd rfl (Or.inr rfl) (pe_ix (ixl K rfl) (pv 1) pe_int (fun _ _ => rfl)))
      (pss_cons (ps_set (i := 3) sc_stiff.nd rfl (Or.inr rfl) (pe_ix (ixl K rfl) (pv 1) pe_int (fun _ _ => rfl)))
      (pss_cons (ps_if (pt_not (pt_val (pe_ok G_has_square (hr.mono (by decide)) rfl (pa_cons (pv 0) (pa_cons (pv 2) (pa_cons (pv 3) pa_nil)))))) (pss_one (ps_ret (pe_lst (pa_cons (pe_con T.c_NONE_SUCH rfl) pa_nil)))) pss_nil)
      (pss_cons (ps_set (i := 4) sc_stiff.nd rfl (Or.inl rfl) (pe_cmpR (inSeqK K rfl) (pe_op op_add (pe_fldK K rfl (pv 0) rfl) (pv 3)) (pe_ok G_together (hr.mono (by decide)) rfl (pa_cons (pe_ok G_table_of (hr.mono (by decide)) rfl (pa_cons (pv 0) pa_nil)) (pa_cons (pv 2) pa_nil))) rfl))
      (pss_cons (ps_set (i := 5) sc_stiff.nd rfl (Or.inl rfl) (pe_callB (allK K rfl rfl) (by rfl) T.b_all bo_all (pa_cons (pe_lc rfl sc_stiff.nd (pi_range1 rfl T.b_range (pa_cons (pe_con T.c_KINDS rfl) pa_nil)) (own := [("kind", 6)]) (blkOk_by (N := ["wall", "given", "row", "column", "hangs", "both", "kind"]) (sc := defScope s_stiff) (by decide +kernel)) (fun _ _ _ _ _ => (pg_name (i := 6) sc_stiff.nd rfl (Or.inl rfl) (Or.inr rfl))) (fun _ _ _ _ _ => pts_nil) (fun _ _ _ _ _ => (pe_cmpR (op_inT (hu_of hr)) (pe_tup (pa_cons (pv 2) (pa_cons (pv 3) (pa_cons (pv 6) pa_nil)))) (pe_fldK K rfl (pv 0) rfl) rfl))) pa_nil)))
      (pss_one (ps_ret (pe_lst (pa_cons (pe_ok G_as_number (hr.mono (by decide)) rfl (pa_cons (pv 4) pa_nil)) (pa_cons (pe_ok G_as_number (hr.mono (by decide)) rfl (pa_cons (pv 5) pa_nil)) pa_nil)))))))))), ?_⟩
    obtain ⟨dx, hp⟩ := W.ob
    refine ⟨_, rfl, g, _, _, _, rfl, rfl, SqL.of hg, at_of (j := 0) rfl rfl, ?_⟩
    refine ⟨_, rfl, g, _, _, _, rfl, rfl, SqL.of hg, at_of (j := 1) rfl rfl, ?_⟩
    have eS : a.isS i j 0 = (decide (i < a.m) && decide (j < a.n)) := by
      rw [isS_eq, show decide (0 < 2) = true from rfl, Bool.and_true]
    refine ⟨_, rfl, _, rfl, _, rfl, p, l, a, i, j, rfl, W, _, rfl, ite2 (fun hc => ?_) (fun hc => ?_)⟩
    · have z : a.isS i j 0 = false := by
        rw [eS]
        exact nt hc
      have e : Su124.does a (.stiff i j) = (a, Su124.no (-2)) := by rw [TW.does_stiff, if_pos z]
      exact ⟨(by show 1 ≤ sizeLine; decide), fun q hq => k.read W (Same.refl H) hq (by rw [e]) (by rw [e]; rfl)⟩
    · have z : a.isS i j 0 = true := by
        rw [← eS] at hc
        exact isS_true hc
      have e : Su124.does a (.stiff i j) = (a, Su124.num (Su124.bit (a.back i (a.col j))) [Su124.bit (a.has i j 0 && a.has i j 1)]) := by rw [TW.does_stiff, if_neg (ff z)]
      have hS := TW.isS_iff.mp z
      have hz := hI.size
      have hsz : a.size = a.m + a.n := rfl
      refine ⟨_, rfl, p, C, dx, _, _, rfl, hp, T.cl, T.nR, wf_rows _ _ _, _, rfl, _, _, rfl, rfl, _, rfl, p, l, a, rfl, W, TW_fit hI, fun t H1 s1 ht => ?_⟩
      refine ⟨_, rfl, t, a.size, i, TW.R a, rfl, ht, (by omega), (by omega), fun r H2 s2 hr2 => ?_⟩
      have s12 := s1.trans s2
      refine ⟨r, _, rfl, .inl (SqL.of hr2), rfl, flat_nat _, ?_⟩
      have eB : (TW.tog a.size (TW.R a) i).contains (a.m + j) = a.back i (a.col j) := by
        rw [TW.back_eq, Bool.eq_iff_iff, List.contains_iff_mem, TW.mem_tog, Bool.and_eq_true]
        constructor
        · exact fun h => h.2
        · exact fun h => ⟨by omega, h⟩
      have eI : inV ((fun (i j : Int) => V.int (i + j)) (a.m : Int) (j : Int)) ((TW.tog a.size (TW.R a) i).map nI) = a.back i (a.col j) := by
        show inV (V.int ((a.m : Int) + (j : Int))) _ = _
        rw [show V.int ((a.m : Int) + (j : Int)) = nI (a.m + j) from congrArg V.int (by omega), inV_nat, eB]
      rw [if_neg Bool.false_ne_true, eI]
      obtain ⟨as, hT, hlen, hat⟩ := (W.same s12).ts.tups
      refine ⟨_, rfl, (by decide), (by decide), fun D hD => ?_⟩
      refine lcr0 (n := 2) (fun d => V.bl (a.has i j d)) hD (by omega) (fun d H3 N hi s3 hN => ⟨rfl, ?_⟩) (fun H3 s3 h3 => ?_) gn_mono
      · refine ⟨_, rfl, _, rfl, _, rfl, (by show 3 ≤ sizeLine; decide), fun q2 hq2 => ?_⟩
        rw [Int.zero_add]
        have s4 : Same H3 (L2.upd H3 q2 (.tup [nI i, nI j, nI d])) := Same.upd1 hq2
        obtain ⟨as, hT, hlen, hat⟩ := (((W.same s12).same s3).same s4).ts.tups
        refine ⟨_, rfl, p, C, dx, _, _, rfl, ((s12.trans s3).trans s4) _ _ hp, T.cl, T.nT, wf_ties _ _ _, q2, l, [(i : Int), (j : Int), (d : Int)], as, _, rfl, rfl, upd_same, hT, ?_⟩
        rw [if_neg Bool.false_ne_true, has_dec]
        exact hN _ s4
      · rw [map_bl] at h3
        refine ⟨D, _, rfl, SqL.of h3, ?_⟩
        refine ⟨_, rfl, _, rfl, _, rfl, _, rfl, (by show 2 ≤ sizeLine; decide), fun q hq => k.read W (s12.trans s3) hq (by rw [e]) ?_⟩
        rw [e]
        have eb : ((List.range 2).map fun d => a.has i j d).all id = (a.has i j 0 && a.has i j 1) := by
          show (a.has i j 0 && (a.has i j 1 && true)) = _
          rw [Bool.and_true]
        rw [eb]
        rfl
theorem ok_flip {f : Addr} {fd : FuncData} (F : Fun K "flip" "flip" s_flip f fd) (T : Txt K mg C) (G_refusal_if_missing : Ok P w K mg base "refusal_if_missing" 3 ["wall", "spot"] (spRef C refM)) (G_other_kind : Ok P w K mg base "other_kind" 1 ["spot"] spOther) (G_part_count : Ok P w K mg base "part_count" 5 ["wall"] (spPc C)) : FnOk P w K mg base CX0 12 f fd ["wall", "given"] (spCall C (c3 .flip)) := by
  refine F.ok sc_flip (fun vs H Q E h => ?_) (fun cdv A outer s H vs Q E hr h => ?_)
  · obtain ⟨p, l, g, a, is, x, rfl, _⟩ := h
    rfl
  · obtain ⟨p, l, g, a, _, _, rfl, ⟨i, j, d, rfl, rfl⟩, W, hg, hI, k⟩ := h
    refine ⟨_, (pss_cons (ps_set (i := 2) sc_flip.nd rfl (Or.inl rfl) (pe_callTy call_tuple_of (by rfl) T.b_tuple bo_tuple (pa_cons (pv 1) pa_nil)))
      (pss_cons (ps_set (i := 3) sc_flip.nd rfl (Or.inl rfl) (pe_ok G_refusal_if_missing (hr.mono (by decide)) rfl (pa_cons (pv 0) (pa_cons (pv 2) pa_nil))))
      (pss_cons (ps_if (pt_cmpR op_ne (pv 3) (pe_con T.c_NOT_REFUSED rfl) (nomark _)) (pss_one (ps_ret (pe_lst (pa_cons (pv 3) pa_nil)))) pss_nil)
      (pss_cons (ps_set (i := 4) sc_flip.nd rfl (Or.inl rfl) (pe_ok G_other_kind (hr.mono (by decide)) rfl (pa_cons (pv 2) pa_nil)))
      (pss_cons (ps_if (pt_cmpR (op_inT (hu_of hr)) (pv 4) (pe_fldK K rfl (pv 0) rfl) rfl) (pss_one (ps_ret (pe_lst (pa_cons (pe_con T.c_THERE_ALREADY rfl) pa_nil)))) pss_nil)
      (pss_cons (ps_asg (pv 4) (pg_sub (pe_fldK K rfl (pv 0) rfl) (pe_bm PySem.F.plainAttrs_list PySem.F.slot_list_index PySem.F.type_list_index (mt_indexT (hu_of hr)) (pe_fldK K rfl (pv 0) rfl) (pa_cons (pv 2) pa_nil)) set_list))
      (pss_one (ps_ret (pe_lst (pa_cons (pe_ok G_part_count (hr.mono (by decide)) rfl (pa_cons (pv 0) pa_nil)) pa_nil)))))))))), ?_⟩
    obtain ⟨dx, hp⟩ := W.ob
    refine ⟨_, rfl, g, _, rfl, .inl ⟨SqL.of hg, fun b hb => ?_⟩⟩
    have s1 : Same H (L2.upd H b (.tup [nI i, nI j, nI d])) := Same.upd1 hb
    have W1 := W.same s1
    refine ⟨_, rfl, _, rfl, p, l, b, a, i, j, d, rfl, W1, upd_same, _, rfl, rfl, _, rfl, ite2 (fun hc => ?_) (fun hc => ?_)⟩
    · have e : Su124.does a (.flip i j d) = (a, Su124.no (refM a i j d)) := by
        rw [TW.does_flip, refM_no (ne_yes hc)]
      exact ⟨_, rfl, (by show 1 ≤ sizeLine; decide), fun q hq => k.read W s1 hq (by rw [e]) (by rw [e]; rfl)⟩
    · obtain ⟨z, hd⟩ := refM_zero (ne_no hc)
      have hS := TW.isS_iff.mp z
      refine ⟨_, rfl, b, i, j, d, rfl, upd_same, (by omega), fun b2 H2 nb2 s2 hb2 => ?_⟩
      have s12 := s1.trans s2
      have W2 := W.same s12
      have hb2' : H2 b = some (.tup [nI i, nI j, nI d]) := s2 _ _ upd_same
      obtain ⟨as, hT, hlen, hat⟩ := W2.ts.tups
      refine ⟨_, rfl, _, rfl, p, C, dx, _, _, rfl, s12 _ _ hp, T.cl, T.nT, wf_ties _ _ _, b2, l, [(i : Int), (j : Int), ((1 - d : Nat) : Int)], as, _, rfl, rfl, hb2, hT, _, rfl, ?_⟩
      rw [if_neg Bool.false_ne_true, has_dec]
      refine ite2 (fun hf => ?_) (fun hf => ?_)
      · have e : Su124.does a (.flip i j d) = (a, Su124.no (-17)) := by rw [TW.does_flip, if_neg (ff z), if_neg (ff hd), if_pos hf]
        exact ⟨(by show 1 ≤ sizeLine; decide), fun q hq => k.read W s12 hq (by rw [e]) (by rw [e]; rfl)⟩
      · have hf : a.has i j (1 - d) = false := Bool.eq_false_iff.mpr hf
        have e : Su124.does a (.flip i j d) = (TW.flipped a i j d, Su124.num (TW.flipped a i j d).parts.length []) := by rw [TW.does_flip, if_neg (ff z), if_neg (ff hd), if_neg (tt hf)]
        have hI2 := hI.flip z hf
        obtain ⟨m, hm1, hm2, hm3⟩ := first_at (TW.has_iff.mp hd)
        have hml : m < as.length := by
          have := (List.getElem?_eq_some_iff.mp hm1).1
          omega
        refine ⟨_, rfl, _, rfl, p, C, dx, _, _, rfl, s12 _ _ hp, T.cl, T.nT, wf_ties _ _ _, _, rfl, p, C, dx, _, _, rfl, s12 _ _ hp, T.cl, T.nT, wf_ties _ _ _, .inl ⟨rfl, _, SqL.of hT.1⟩, _, rfl, b, l, [(i : Int), (j : Int), (d : Int)], as, _, m, rfl, rfl, hb2', hT, ?_, fun m' hm' q => ?_, l, _, _, m, rfl, rfl, hT.1, ixN_nat (by rw [List.length_map]; exact hml), ?_⟩
        · rw [List.getElem?_map, hm1]
          rfl
        · rw [List.getElem?_map] at q
          cases y : a.ties[m']? with
          | none =>
            rw [y] at q
            cases q
          | some x =>
            rw [y] at q
            have q := tup_inj (x := x) (y := (i, j, d)) (Option.some.inj q)
            exact hm2 m' hm' (by rw [y, q])
        have nlp : p ≠ l := ne_of (s12 _ _ hp) hT.1 (by intro z; cases z)
        have W3 : WallAt C (L2.upd H2 l (.lst ((as.map V.ref).set m (.ref b2)))) p l (TW.flipped a i j d) := by
          refine ⟨⟨dx, ?_⟩, ?_⟩
          · rw [upd_ne nlp]
            exact s12 _ _ hp
          · rw [TW.flipped_set hI hm1]
            exact SpotsAt.set (x := (i, j, 1 - d)) hT.1 hlen hat hb2
        refine ⟨_, rfl, p, l, TW.flipped a i j d, rfl, W3, TW_fit hI2, fun H3 s3 => ⟨(by show 1 ≤ sizeLine; decide), fun q hq => ?_⟩⟩
        have hq2 := s3.free hq
        have nql : q ≠ l := fun y => by rw [y, upd_same] at hq2; cases hq2
        rw [upd_ne nql] at hq2
        have hq0 := s12.free hq2
        refine k q l _ hq0 (.inl rfl) (fun c o e1 h1 h2 => ?_) ?_ ?_
        · rw [upd_ne (ne_of_none e1 hq0)]
          refine s3 _ _ ?_
          rw [upd_ne h2]
          exact s12 _ _ e1
        · rw [e]
          exact (W3.same s3).same (Same.upd1 hq)
        · rw [e, upd_same]
          rfl
end
end TP

end

section
set_option Elab.async false
set_option linter.all false
set_option maxRecDepth 100000
set_option maxHeartbeats 4000000
namespace TP
open PySem PySem.Spec PyProof.Rows L2 TR
theorem fos_need {k : Nat} {b : Su124.Abs} {ts : List (Nat × Nat × Nat)} (h : k < TW.need b.size (TW.R b)) : TW.fos k b ts = none := by
  cases k with
  | zero => exact if_pos h
  | succ k => exact if_pos h
theorem fos_zero {b : Su124.Abs} {ts : List (Nat × Nat × Nat)} (h : ¬ 0 < TW.need b.size (TW.R b)) : TW.fos 0 b ts = some [] := if_neg h
theorem fos_succ {k : Nat} {b : Su124.Abs} {ts : List (Nat × Nat × Nat)} (h : ¬ k + 1 < TW.need b.size (TW.R b)) : TW.fos (k + 1) b ts = TW.floop (TW.fos k) b ts := if_neg h
theorem floop_no {g : Su124.Abs → List (Nat × Nat × Nat) → Option (List (Nat × Nat × Nat))} {b : Su124.Abs} {x : Nat × Nat × Nat} {l : List (Nat × Nat × Nat)} (h : TW.R b (TW.arr b.m x).1 (TW.arr b.m x).2 = true) : TW.floop g b (x :: l) = TW.floop g b l := if_pos h
theorem floop_none {g : Su124.Abs → List (Nat × Nat × Nat) → Option (List (Nat × Nat × Nat))} {b : Su124.Abs} {x : Nat × Nat × Nat} {l : List (Nat × Nat × Nat)} (h : ¬ TW.R b (TW.arr b.m x).1 (TW.arr b.m x).2 = true) (hg : g (TW.plus b [x]) l = none) : TW.floop g b (x :: l) = TW.floop g b l := by
  have e : TW.floop g b (x :: l) = (match g (TW.plus b [x]) l with | some r => some (x :: r) | none => TW.floop g b l) := if_neg h
  rw [e, hg]
theorem floop_some {g : Su124.Abs → List (Nat × Nat × Nat) → Option (List (Nat × Nat × Nat))} {b : Su124.Abs} {x : Nat × Nat × Nat} {l r : List (Nat × Nat × Nat)} (h : ¬ TW.R b (TW.arr b.m x).1 (TW.arr b.m x).2 = true) (hg : g (TW.plus b [x]) l = some r) : TW.floop g b (x :: l) = some (x :: r) := by
  have e : TW.floop g b (x :: l) = (match g (TW.plus b [x]) l with | some r => some (x :: r) | none => TW.floop g b l) := if_neg h
  rw [e, hg]
theorem PairsAt.drop {H : Hp} {ys : List (Addr × Nat × Nat × Nat)} {ts : List (Nat × Nat × Nat)} (h : PairsAt H ys ts) (i : Nat) : PairsAt H (ys.drop i) (ts.drop i) :=
  ⟨by rw [← h.1, List.map_drop], fun y hy => h.2 y (List.mem_of_mem_drop hy)⟩
theorem floop_len {g : Su124.Abs → List (Nat × Nat × Nat) → Option (List (Nat × Nat × Nat))} {k : Nat} (hg : ∀ b l r, g b l = some r → r.length = k) : ∀ {b : Su124.Abs} {l r : List (Nat × Nat × Nat)}, TW.floop g b l = some r → r.length = k + 1
  | b, [], r, h => by cases h
  | b, x :: l, r, h => by
    by_cases hr : TW.R b (TW.arr b.m x).1 (TW.arr b.m x).2 = true
    · rw [floop_no hr] at h
      exact floop_len hg h
    · cases e : g (TW.plus b [x]) l with
      | none =>
        rw [floop_none hr e] at h
        exact floop_len hg h
      | some q =>
        rw [floop_some hr e] at h
        cases h
        rw [List.length_cons, hg _ _ _ e]
theorem fos_len : ∀ (k : Nat) (b : Su124.Abs) (l r : List (Nat × Nat × Nat)), TW.fos k b l = some r → r.length = k
  | 0, b, l, r, h => by
    by_cases hn : 0 < TW.need b.size (TW.R b)
    · rw [fos_need hn] at h
      cases h
    · rw [fos_zero hn] at h
      cases h
      rfl
  | k + 1, b, l, r, h => by
    by_cases hn : k + 1 < TW.need b.size (TW.R b)
    · rw [fos_need hn] at h
      cases h
    · rw [fos_succ hn] at h
      exact floop_len (fos_len k) h
section
variable {P : Program} {w : World} {K : PySem.W.Frag} {mg : Str → Option Value} {base : Heap} {C : Addr}
def spFos (k : Nat) : Sp := fun vs H Q _ => ∃ (t l : Addr) (b : Su124.Abs) (ts : List (Nat × Nat × Nat)), vs = [.ref t, nI b.m, .ref l, nI k] ∧ TblAt H t b.size (TW.R b) ∧ SpotsAt H l ts ∧ TW.In b b.ties ∧ TW.In b ts ∧ 0 < b.size ∧ b.size ≤ 10 ∧ ts.length ≤ 50 ∧ k ≤ 4 ∧
  (∀ (H' : Hp), Same H H' → TW.fos k b ts = none → Q .non H') ∧ (∀ (q : Addr) (H' : Hp) (r : List (Nat × Nat × Nat)), Same H H' → TW.fos k b ts = some r → SpotsAt H' q r → Q (.ref q) H')
def spFosP : Nat → Sp
  | 0 => fun _ _ _ _ => False
  | k + 1 => spFos k
theorem step_fos {k : Nat} {f : Addr} {fd : FuncData} (F : Fun K "first_of_size" "first_of_size" s_first_of_size f fd) (T : Txt0 mg) (G_needed_at_least : Ok P w K mg base "needed_at_least" 5 ["table"] spNeed) (G_may_lean : Ok P w K mg base "may_lean" 2 ["table", "rows", "spot"] spMay) (G_table_with : Ok P w K mg base "table_with" 2 ["table", "step"] spWith)
    (G_passage : Ok P w K mg base "passage" 1 ["rows", "spot"] spPassage) (G_first_of_size : Ok P w K mg base "first_of_size" (5 + k) ["table", "rows", "spots", "size"] (spFosP k)) : FnOk P w K mg base CX0 (5 + k + 1) f fd ["table", "rows", "spots", "size"] (spFos k) := by
  refine F.ok sc_first_of_size (fun vs H Q E h => ?_) (fun cdv A outer s H vs Q E hr h => ?_)
  · obtain ⟨t, l, b, ts, rfl, _⟩ := h
    rfl
  · obtain ⟨t, l, b, ts, rfl, hT, hS, hb, hts, h0, hz, hlen, hk4, kn, ks⟩ := h
    refine ⟨_, (pss_cons (ps_if (pt_cmpR op_gt (pe_ok G_needed_at_least (hr.mono (by omega)) rfl (pa_cons (pv 0) pa_nil)) (pv 3) (nomark _)) (pss_one (ps_ret pe_non)) pss_nil)
      (pss_cons (ps_if (pt_cmpR op_eq (pv 3) pe_int (nomark _)) (pss_one (ps_ret (pe_lst pa_nil))) pss_nil)
      (pss_cons (ps_for PassesOwn.never rfl (pi_enumK K rfl rfl T.b_enumerate (pa_cons (pv 2) pa_nil)) (pg_tupK (n := 2) K rfl rfl (pgs_cons (pg_name (i := 4) sc_first_of_size.nd rfl (Or.inl rfl)) (pgs_cons (pg_name (i := 5) sc_first_of_size.nd rfl (Or.inl rfl)) pgs_nil))) (pss_one (ps_if (pt_val (pe_ok G_may_lean (hr.mono (by omega)) rfl (pa_cons (pv 0) (pa_cons (pv 1) (pa_cons (pv 5) pa_nil))))) (pss_cons (ps_set (i := 6) sc_first_of_size.nd rfl (Or.inl rfl) (pe_ok G_table_with (hr.mono (by omega)) rfl (pa_cons (pv 0) (pa_cons (pe_ok G_passage (hr.mono (by omega)) rfl (pa_cons (pv 1) (pa_cons (pv 5) pa_nil))) pa_nil))))
      (pss_cons (ps_set (i := 7) sc_first_of_size.nd rfl (Or.inl rfl) (pe_ok G_first_of_size (hr.mono (by omega)) rfl (pa_cons (pv 6) (pa_cons (pv 1) (pa_cons (pe_slice (slK K rfl) (pv 2) (po_some (pe_op op_add (pv 4) pe_int)) po_none) (pa_cons (pe_op op_sub (pv 3) pe_int) pa_nil))))))
      (pss_one (ps_if (pt_cmp (pc_notN (pv 7))) (pss_one (ps_ret (pe_op op_cat (pe_lst (pa_cons (pv 5) pa_nil)) (pv 7)))) pss_nil)))) pss_nil)))
      (pss_one (ps_ret pe_non))))), ?_⟩
    have E1 := TW.eqv_of (TW.arrOk_of hb)
    obtain ⟨ys, hl, hY⟩ := hS.pairs
    refine ⟨_, rfl, t, b.size, TW.R b, rfl, hT, E1, (by omega), fun H1 s1 => ⟨_, rfl, _, _, rfl, rfl, _, rfl, ite2 (fun hc => ?_) (fun hc => ?_)⟩⟩
    · exact kn H1 s1 (fos_need (by have := of_decide_eq_true hc; omega))
    · have hne : ¬ k < TW.need b.size (TW.R b) := fun z => hc (decide_eq_true (by omega))
      refine ⟨_, rfl, rfl, _, rfl, ite2 (fun hd => ?_) (fun hd => ?_)⟩
      · have hk0 : k = 0 := by
          have z := of_decide_eq_true hd
          injection z with z
          omega
        subst hk0
        exact ⟨Nat.zero_le _, fun q hq => ks q _ [] (s1.trans (Same.upd1 hq)) (fos_zero hne) ⟨[], upd_same, rfl, fun i x z => by cases z⟩⟩
      · obtain ⟨k', rfl⟩ : ∃ k', k = k' + 1 := by
          cases k with
          | zero => exact absurd (decide_eq_true rfl) hd
          | succ k' => exact ⟨k', rfl⟩
        refine ⟨_, rfl, l, _, rfl, SqL.of (s1 _ _ hl), for_enum (K := K) (a := l) (xs := ys.map vR) (fun i σ H2 => ∃ o4 o5 o6 o7 : Option V, σ = [some (.ref t), some (nI b.m), some (.ref l), some (nI (k' + 1)), o4, o5, o6, o7] ∧ Same H H2 ∧ TW.floop (TW.fos k') b (ts.drop i) = TW.floop (TW.fos k') b ts) ?_ ?_ ?_ ?_⟩
        · exact ⟨none, none, none, none, rfl, s1, rfl⟩
        · rintro i σ H2 _ ⟨_, _, _, _, _, s2, _⟩
          exact SqL.of (s2 _ _ hl)
        · rintro i v σ H2 T2 hi ⟨o4, o5, o6, o7, rfl, s2, hfl⟩ hT2
          obtain ⟨y, hy⟩ : ∃ y, ys[i]? = some y := by
            rw [List.getElem?_map] at hi
            cases z : ys[i]? with
            | none =>
              rw [z] at hi
              cases hi
            | some y => exact ⟨y, rfl⟩
          have hv : v = vR y := by
            rw [List.getElem?_map, hy] at hi
            exact (Option.some.inj hi).symm
          subst hv
          have hil : i < ys.length := (List.getElem?_eq_some_iff.mp hy).1
          have hx : ts[i]? = some y.2 := by
            rw [← hY.1, List.getElem?_map, hy]
            rfl
          have hxm : y.2 ∈ ts := List.mem_of_getElem? hx
          have hxw := hts _ hxm
          have hdrop : ts.drop i = y.2 :: ts.drop (i + 1) := by
            obtain ⟨h1, h2⟩ := List.getElem?_eq_some_iff.mp hx
            rw [List.drop_eq_getElem_cons h1, h2]
          rw [hdrop] at hfl
          obtain ⟨hu, hv⟩ := TW.arr_in hxw
          have s3 : Same H (L2.upd H2 T2 (.tup [.int (i : Nat), vR y])) := s2.trans (Same.upd1 hT2)
          have hyt := hY.2 y (List.mem_of_getElem? hy)
          refine ⟨T2, _, rfl, SqT.of upd_same, rfl, _, _, rfl, _, _, rfl, rfl, ?_⟩
          refine ⟨_, rfl, _, rfl, _, rfl, t, y.1, b.size, b.m, y.2.1, y.2.2.1, y.2.2.2, TW.R b, rfl, hT.same s3, s3 _ _ hyt, hu, hv, fun H3 s4 => ⟨_, rfl, ite2 (fun hc2 => ?_) (fun hc2 => ?_)⟩⟩
          · have hlean : ¬ TW.R b (TW.arr b.m y.2).1 (TW.arr b.m y.2).2 = true := tt (nt hc2)
            have s14 := s3.trans s4
            refine ⟨_, rfl, _, rfl, _, rfl, b.m, y.2.1, y.2.2.1, y.2.2.2, y.1, rfl, s14 _ _ hyt, fun st H4 s5 h5 => ?_⟩
            have s15 := s14.trans s5
            refine ⟨t, st, b.size, _, _, TW.R b, rfl, hT.same s15, h5, hu, hv, (by omega), fun t2 H5 s6 ht2 => ?_⟩
            have s16 := s15.trans s6
            have ht2 : TblAt H5 t2 b.size (TW.R (TW.plus b [y.2])) := ht2.congr fun u v hu' hv' => (TW.R_snoc hb hxw hu').symm
            refine ⟨_, rfl, _, rfl, _, rfl, _, rfl, _, _, rfl, rfl, _, rfl, l, _, rfl, SqL.of (s16 _ _ hl), fun q hq => ?_⟩
            have ecut : cutV (ys.map vR) (some ((i : Int) + 1)) none = (ys.drop (i + 1)).map vR := by
              rw [List.map_drop]
              exact cut_from (xs := ys.map vR) (i := i + 1) (by rw [List.length_map]; omega)
            have ecut2 : cutV (ys.map vR) (some ((fun (i j : Int) => i + j) (i : Int) 1)) none = (ys.drop (i + 1)).map vR := ecut
            have hin : TW.In (TW.plus b [y.2]) (TW.plus b [y.2]).ties := TW.plus_in hb fun z hz => by
              simp at hz
              subst hz
              exact hxw
            have next : TW.fos k' (TW.plus b [y.2]) (ts.drop (i + 1)) = none → TW.floop (TW.fos k') b (ts.drop (i + 1)) = TW.floop (TW.fos k') b ts := fun e => by
              rw [floop_none hlean e] at hfl
              exact hfl
            refine ⟨_, rfl, _, _, rfl, rfl, ?_⟩
            refine ⟨t2, q, TW.plus b [y.2], ts.drop (i + 1), ?_, ht2.same (Same.upd1 hq), ((hY.same (s16.trans (Same.upd1 hq))).drop (i + 1)).spots (by rw [upd_same]; exact congrArg (fun l => some (HO.lst l)) ecut), hin, fun z hz => hts z (List.mem_of_mem_drop hz), h0, hz, (by rw [List.length_drop]; omega), (by omega), fun H6 s7 e6 => ?_, fun q6 H6 r s7 e6 hr6 => ?_⟩
            · show [V.ref t2, nI b.m, V.ref q, V.int (((k' + 1 : Nat) : Int) - 1)] = [V.ref t2, nI b.m, V.ref q, nI k']
              rw [show (((k' + 1 : Nat) : Int) - 1) = (k' : Int) by omega]
            · refine ⟨_, rfl, _, rfl, ?_⟩
              exact ⟨_, _, _, _, rfl, (s16.trans (Same.upd1 hq)).trans s7, next e6⟩
            · refine ⟨_, rfl, _, rfl, ?_⟩
              have s17 := (s16.trans (Same.upd1 hq)).trans s7
              obtain ⟨zs, hr7, hZ⟩ := hr6.pairs
              have hzl : zs.length = k' := by
                rw [hZ.len]
                exact fos_len _ _ _ _ e6
              refine ⟨_, rfl, (by show 1 ≤ sizeLine; decide), fun q1 hq1 => ⟨_, rfl, q1, q6, _, _, rfl, rfl, upd_same, (by rw [upd_ne (ne_of_none hr7 hq1)]; exact hr7), ?_, fun q9 hq9 => ?_⟩⟩
              · rw [List.length_map, hzl]
                exact Nat.le_trans (show 1 + k' ≤ 1000 by omega) (by decide)
              · have s8 : Same H6 (L2.upd H6 q1 (.lst [vR y])) := Same.upd1 hq1
                refine ks q9 _ (y.2 :: r) ((s17.trans s8).trans (Same.upd1 hq9)) ?_ ?_
                · rw [fos_succ hne, ← hfl]
                  exact floop_some hlean e6
                · refine PairsAt.spots (ys := y :: zs) ⟨?_, fun z hz => ?_⟩ ?_
                  · rw [List.map_cons, hZ.1]
                  · rcases List.mem_cons.mp hz with rfl | hz
                    · exact ((s17.trans s8).trans (Same.upd1 hq9)) _ _ hyt
                    · exact (s8.trans (Same.upd1 hq9)) _ _ (hZ.2 z hz)
                  · rw [upd_same]
                    rfl
          · have hlean : TW.R b (TW.arr b.m y.2).1 (TW.arr b.m y.2).2 = true := by
              cases z : TW.R b (TW.arr b.m y.2).1 (TW.arr b.m y.2).2 with
              | true => rfl
              | false =>
                refine absurd ?_ hc2
                show (!(TW.R b (TW.arr b.m y.2).1 (TW.arr b.m y.2).2)) = true
                rw [z]
                rfl
            rw [floop_no hlean] at hfl
            exact ⟨_, _, _, _, rfl, s3.trans s4, hfl⟩
        · rintro σ H2 ⟨o4, o5, o6, o7, rfl, s2, hfl⟩
          refine kn H2 s2 ?_
          rw [fos_succ hne, ← hfl, List.length_map, hY.len, List.drop_length]
          rfl
theorem ok_fos {f : Addr} {fd : FuncData} (F : Fun K "first_of_size" "first_of_size" s_first_of_size f fd) (m : mg "first_of_size" = some (.ref f)) (bd : Binds K fd ["table", "rows", "spots", "size"] []) (T : Txt0 mg) (G_needed_at_least : Ok P w K mg base "needed_at_least" 5 ["table"] spNeed) (G_may_lean : Ok P w K mg base "may_lean" 2 ["table", "rows", "spot"] spMay) (G_table_with : Ok P w K mg base "table_with" 2 ["table", "step"] spWith)
    (G_passage : Ok P w K mg base "passage" 1 ["rows", "spot"] spPassage) : ∀ k, FnOk P w K mg base CX0 (5 + k + 1) f fd ["table", "rows", "spots", "size"] (spFos k)
  | 0 => step_fos (k := 0) F T G_needed_at_least G_may_lean G_table_with G_passage ⟨f, fd, ⟨fun _ _ _ _ h => (show False from h).elim, fun _ _ _ _ _ _ _ _ _ _ _ _ _ h => (show False from h).elim⟩, m, F.kp, bd⟩
  | k + 1 => step_fos (k := k + 1) F T G_needed_at_least G_may_lean G_table_with G_passage ⟨f, fd, ok_fos F m bd T G_needed_at_least G_may_lean G_table_with G_passage k, m, F.kp, bd⟩
def spFosAll : Sp := fun vs H Q E => ∃ k, k ≤ 4 ∧ spFos k vs H Q E
theorem ok_fos_all {f : Addr} {fd : FuncData} (O : ∀ k, FnOk P w K mg base CX0 (5 + k + 1) f fd ["table", "rows", "spots", "size"] (spFos k)) : FnOk P w K mg base CX0 10 f fd ["table", "rows", "spots", "size"] spFosAll := by
  refine ⟨fun vs H Q E ⟨k, _, h⟩ => (O k).len vs H Q E h, ?_⟩
  rintro A outer s H args us vs Q E hr he hb hv ⟨k, hk, h⟩
  exact (O k).run A outer s H args us vs Q E (hr.mono (by omega)) he hb hv h
def spFewest : Sp := fun vs H Q _ => ∃ (t l : Addr) (a : Su124.Abs), vs = [.ref t, nI a.m, .ref l, nI 4] ∧ TblAt H t a.size (TW.R a) ∧ SpotsAt H l a.all3 ∧ TW.Inv a ∧
  (∀ (H' : Hp), Same H H' → a.put = none → Q .non H') ∧ (∀ (q : Addr) (H' : Hp) (r : List (Nat × Nat × Nat)), Same H H' → a.put = some r → r.length ≤ 4 → SpotsAt H' q r → Q (.ref q) H')
theorem ok_fewest {f : Addr} {fd : FuncData} (F : Fun K "fewest" "fewest" s_fewest f fd) (T : Txt0 mg) (G_needed_at_least : Ok P w K mg base "needed_at_least" 5 ["table"] spNeed) (G_first_of_size : Ok P w K mg base "first_of_size" 10 ["table", "rows", "spots", "size"] spFosAll) : FnOk P w K mg base CX0 11 f fd ["table", "rows", "spots", "most"] spFewest := by
  refine F.ok sc_fewest (fun vs H Q E h => ?_) (fun cdv A outer s H vs Q E hr h => ?_)
  · obtain ⟨t, l, a, rfl, _⟩ := h
    rfl
  · obtain ⟨t, l, a, rfl, hT, hS, hI, kn, ks⟩ := h
    refine ⟨_, (pss_cons (ps_for PassesOwn.never rfl (pi_range2 rfl T.b_range (pa_cons (pe_ok G_needed_at_least (hr.mono (by decide)) rfl (pa_cons (pv 0) pa_nil)) (pa_cons (pe_op op_add (pv 3) pe_int) pa_nil))) (pg_name (i := 4) sc_fewest.nd rfl (Or.inl rfl)) (pss_cons (ps_set (i := 5) sc_fewest.nd rfl (Or.inl rfl) (pe_ok G_first_of_size (hr.mono (by decide)) rfl (pa_cons (pv 0) (pa_cons (pv 1) (pa_cons (pv 2) (pa_cons (pv 4) pa_nil))))))
      (pss_one (ps_if (pt_cmp (pc_notN (pv 5))) (pss_one (ps_ret (pv 5))) pss_nil))))
      (pss_one (ps_ret pe_non))), ?_⟩
    have hz := hI.size
    have hlen : a.all3.length ≤ 50 := by
      rw [all3_len]
      exact Nat.mul_le_mul hI.m5 (show a.n * 2 ≤ 10 by have := hI.n5; omega)
    refine ⟨_, rfl, t, a.size, TW.R a, rfl, hT, hI.eqv, (by omega), fun H1 s1 => ?_⟩
    have hnd : TW.need a.size (TW.R a) ≤ 100 := by
      unfold TW.need
      split
      · omega
      · refine Nat.max_le.mpr ⟨?_, ?_⟩
        · exact Nat.le_trans (List.length_filter_le _ _) (Nat.le_trans (fsts_len _ _) (by omega))
        · exact Nat.le_trans (List.length_filter_le _ _) (Nat.le_trans (fsts_len _ _) (by omega))
    refine ⟨_, rfl, _, _, rfl, rfl, _, _, rfl, ⟨(by omega), (by omega), (by show _ ≤ (4 : Int) + 1; omega), (by show (4 : Int) + 1 < _; omega)⟩, for_range (n := ((4 : Int) + 1 - (TW.need a.size (TW.R a) : Nat)).toNat) (fun i σ H2 => ∃ o4 o5 : Option V, σ = [some (.ref t), some (nI a.m), some (.ref l), some (nI 4), o4, o5] ∧ Same H H2 ∧ ∀ j, j < TW.need a.size (TW.R a) + i → TW.pput a j = none) ?_ ?_ ?_⟩
    · exact ⟨none, none, rfl, s1, fun j hj => TW.pput_low hI hj⟩
    · rintro i σ H2 hi ⟨o4, o5, rfl, s2, hno⟩
      have hk : TW.need a.size (TW.R a) + i ≤ 4 := by omega
      have hfos := TW.pput_fos hI hno
      refine ⟨_, rfl, _, rfl, _, rfl, _, rfl, TW.need a.size (TW.R a) + i, hk, t, l, a, a.all3, ?_, hT.same s2, hS.same s2, hI.ok, fun x hx => TW.mem_all3.mp hx, hI.pos, hz, hlen, hk, fun H3 s3 e3 => ?_, fun q H3 r s3 e3 hr3 => ?_⟩
      · show [V.ref t, nI a.m, V.ref l, V.int (((TW.need a.size (TW.R a) : Nat) : Int) + (i : Int))] = [V.ref t, nI a.m, V.ref l, nI (TW.need a.size (TW.R a) + i)]
        rw [show nI (TW.need a.size (TW.R a) + i) = V.int (((TW.need a.size (TW.R a) : Nat) : Int) + (i : Int)) from congrArg V.int (by omega)]
      · refine ⟨_, rfl, _, rfl, ?_⟩
        refine ⟨_, _, rfl, s2.trans s3, fun j hj => ?_⟩
        by_cases z : j = TW.need a.size (TW.R a) + i
        · subst z
          rw [← hfos]
          exact e3
        · exact hno j (by omega)
      · refine ⟨_, rfl, _, rfl, ?_⟩
        refine ⟨_, rfl, ks q H3 r (s2.trans s3) (TW.put_some (by omega) hno (by rw [← hfos]; exact e3)) ?_ hr3⟩
        rw [fos_len _ _ _ _ e3]
        exact hk
    · rintro σ H2 ⟨o4, o5, rfl, s2, hno⟩
      exact kn H2 s2 (TW.put_none fun j hj => hno j (by omega))
theorem ok_put {f : Addr} {fd : FuncData} (F : Fun K "put" "put" s_put f fd) (T : Txt K mg C) (G_fewest : Ok P w K mg base "fewest" 11 ["table", "rows", "spots", "most"] spFewest) (G_table_of : Ok P w K mg base "table_of" 4 ["wall"] (spTab C)) (G_all_spots : Ok P w K mg base "all_spots" 2 ["wall"] (spAll C)) (G_flat : Ok P w K mg base "flat" 1 ["spots"] spFlat) :
    FnOk P w K mg base CX0 12 f fd ["wall", "given"] (spCall C (c0 .put)) := by
  refine F.ok sc_put (fun vs H Q E h => ?_) (fun cdv A outer s H vs Q E hr h => ?_)
  · obtain ⟨p, l, g, a, is, x, rfl, _⟩ := h
    rfl
  · obtain ⟨p, l, g, a, _, _, rfl, ⟨rfl, rfl⟩, W, hg, hI, k⟩ := h
    refine ⟨_, (pss_cons (ps_if (pt_cmpR op_gt (pe_op op_mul (pe_fldK K rfl (pv 0) rfl) (pe_fldK K rfl (pv 0) rfl)) (pe_con T.c_MOST_SQUARES_TO_PUT rfl) (nomark _)) (pss_one (ps_ret (pe_lst (pa_cons (pe_con T.c_TOO_MANY rfl) pa_nil)))) pss_nil)
      (pss_cons (ps_set (i := 2) sc_put.nd rfl (Or.inl rfl) (pe_ok G_fewest (hr.mono (by decide)) rfl (pa_cons (pe_ok G_table_of (hr.mono (by decide)) rfl (pa_cons (pv 0) pa_nil)) (pa_cons (pe_fldK K rfl (pv 0) rfl) (pa_cons (pe_ok G_all_spots (hr.mono (by decide)) rfl (pa_cons (pv 0) pa_nil)) (pa_cons (pe_con T.c_MOST_TIES_TO_PUT rfl) pa_nil))))))
      (pss_cons (ps_if (pt_cmp (pc_isN (pv 2))) (pss_one (ps_ret (pe_lst (pa_cons (pe_con T.c_NOT_SO rfl) pa_nil)))) pss_nil)
      (pss_one (ps_ret (pe_op op_cat (pe_lst (pa_cons (pe_callB (lenK K rfl) (by rfl) T.b_len bo_len (pa_cons (pv 2) pa_nil)) pa_nil)) (pe_ok G_flat (hr.mono (by decide)) rfl (pa_cons (pv 2) pa_nil)))))))), ?_⟩
    obtain ⟨dx, hp⟩ := W.ob
    have hm := hI.m5
    have hn := hI.n5
    have hmul : ((a.m : Nat) : Int) * ((a.n : Nat) : Int) = ((a.m * a.n : Nat) : Int) := (Int.natCast_mul _ _).symm
    refine ⟨_, rfl, p, C, dx, _, _, rfl, hp, T.cl, T.nR, wf_rows _ _ _, _, rfl, p, C, dx, _, _, rfl, hp, T.cl, T.nC, wf_cols _ _ _, _, _, rfl, rfl, .inl ⟨(by omega), (by omega)⟩, _, _, rfl, rfl, _, rfl, ite2 (fun hc => ?_) (fun hc => ?_)⟩
    · have h9 : 9 < a.m * a.n := by
        have z := of_decide_eq_true hc
        rw [hmul] at z
        omega
      have e : Su124.does a .put = (a, Su124.no (-28)) := by rw [TW.does_put, if_pos h9]
      exact ⟨(by show 1 ≤ sizeLine; decide), fun q hq => k.read W (Same.refl H) hq (by rw [e]) (by rw [e]; rfl)⟩
    · have h9 : ¬ 9 < a.m * a.n := fun z => hc (decide_eq_true (by rw [hmul]; omega))
      refine ⟨_, rfl, p, l, a, rfl, W, TW_fit hI, fun t H1 s1 ht => ?_⟩
      refine ⟨_, rfl, p, C, dx, _, _, rfl, s1 _ _ hp, T.cl, T.nR, wf_rows _ _ _, _, rfl, p, l, a, rfl, W.same s1, hm, hn, fun q1 H2 _ s2 hq1 => ?_⟩
      have s12 := s1.trans s2
      refine ⟨t, q1, a, rfl, ht.same s2, hq1, hI, fun H3 s3 ep => ?_, fun q3 H3 r s3 ep hrl hr3 => ?_⟩
      · refine ⟨_, rfl, _, rfl, ?_⟩
        have e : Su124.does a .put = (a, Su124.no (-33)) := by rw [TW.does_put, if_neg h9, ep]
        exact ⟨(by show 1 ≤ sizeLine; decide), fun q hq => k.read W (s12.trans s3) hq (by rw [e]) (by rw [e]; rfl)⟩
      · refine ⟨_, rfl, _, rfl, ?_⟩
        have e : Su124.does a .put = (a, Su124.num r.length (Su124.three r)) := by rw [TW.does_put, if_neg h9, ep]
        have hr4 := hr3
        obtain ⟨as, hl3, hlen3, _⟩ := hr3
        refine ⟨_, rfl, q3, _, rfl, .inl (SqL.of hl3), (by show 1 ≤ sizeLine; decide), fun q4 hq4 => ?_⟩
        have s4 : ∀ o, Same H3 (L2.upd H3 q4 o) := fun o => Same.upd1 hq4
        refine ⟨_, rfl, q3, r, rfl, hr4.same (s4 _), (by omega), fun q5 H5 _ s5 hq5 => ?_⟩
        refine ⟨q4, q5, _, _, rfl, rfl, s5 _ _ upd_same, hq5, ?_, fun q hq => ?_⟩
        · show 1 + ((Su124.three _).map nI).length ≤ _
          rw [List.length_map, three_len]
          exact Nat.le_trans (show 1 + _ ≤ 1000 by omega) (by decide)
        · refine k.read W ((s12.trans s3).trans ((s4 _).trans s5)) hq (by rw [e]) ?_
          rw [e]
          show _ = V.int _ :: _
          rw [List.length_map, hlen3]
          rfl
end
end TP

end

section
set_option Elab.async false
set_option linter.all false
set_option maxRecDepth 100000
set_option maxHeartbeats 4000000
namespace TP
open PySem PySem.Spec PyProof.Rows L2 TR
/-! ### the state of the line -/
def abs0 : Su124.Abs := ⟨0, 0, []⟩
def StAt (C : Addr) (H : Hp) (p l : Addr) (st : Option Su124.Abs) : Prop := WallAt C H p l (st.getD abs0) ∧ ∀ a, st = some a → TW.Inv a
theorem inv_does {a : Su124.Abs} (h : TW.Inv a) (x : Su124.Call) : TW.Inv (Su124.does a x).1 := by
  cases x with
  | begin_ m n =>
    rw [TW.does_begin]
    split
    · exact h
    · rename_i q
      exact TW.Inv.begin (by cases z : Su124.okB m n with | true => rfl | false => exact absurd z q)
  | tie i j d =>
    rw [TW.does_tie]
    split
    · exact h
    · rename_i q
      split
      · exact h
      · rename_i q2
        exact h.with_ (by cases z : a.isS i j d with | true => rfl | false => exact absurd z q) (Bool.eq_false_iff.mpr q2)
  | free i j d =>
    rw [TW.does_free]
    split
    · exact h
    · split
      · exact h
      · exact h.without i j d
  | flip i j d =>
    rw [TW.does_flip]
    split
    · exact h
    · rename_i q
      split
      · exact h
      · split
        · exact h
        · rename_i q2
          exact h.flip (by cases z : a.isS i j d with | true => rfl | false => exact absurd z q) (Bool.eq_false_iff.mpr q2)
  | reach s => rw [TW.does_reach]; split <;> exact h
  | part s => rw [TW.does_part]; split <;> exact h
  | leans i j d => rw [TW.does_leans]; split <;> exact h
  | lean i j d =>
    rw [TW.does_lean]
    split
    · exact h
    · split <;> exact h
  | turn l => rw [TW.does_turn]; split <;> exact h
  | spare i j d =>
    rw [TW.does_spare]
    split
    · exact h
    · split <;> exact h
  | put =>
    rw [TW.does_put]
    split
    · exact h
    · split <;> exact h
  | would i j d =>
    rw [TW.does_would]
    split
    · exact h
    · split <;> exact h
  | falls i j d =>
    rw [TW.does_falls]
    split
    · exact h
    · split <;> exact h
  | stiff i j => rw [TW.does_stiff]; split <;> exact h
  | firm => exact h
  | parts => exact h
  | ends => exact h
  | all => exact h
  | spares => exact h
  | ties => exact h
  | state => exact h
theorem step_some (a : Su124.Abs) (x : Su124.Call) : Su124.step (some a) x = (some (Su124.does a x).1, (Su124.does a x).2) := rfl
theorem step_none {k : Int} {is : List Nat} {x : Su124.Call} (h : TW.Dec k is x) (hk : k ≠ 0) : Su124.step none x = (none, Su124.no (-11)) := by
  cases h <;> first | rfl | exact absurd rfl hk
theorem step_begin (m n : Nat) : Su124.step none (.begin_ m n) = (if Su124.okB m n = false then (none, Su124.no (-22)) else (some ⟨m, n, []⟩, Su124.no 0)) := by
  show (if (Su124.does ⟨1, 1, []⟩ (.begin_ m n)).2.value < 0 then none else some (Su124.does ⟨1, 1, []⟩ (.begin_ m n)).1, (Su124.does ⟨1, 1, []⟩ (.begin_ m n)).2) = _
  rw [TW.does_begin]
  split <;> rfl
section
variable {P : Program} {w : World} {K : PySem.W.Frag} {mg : Str → Option Value} {base : Heap} {C : Addr}
def spInit (C : Addr) : Sp := fun vs H Q _ => ∃ (p dx : Addr), vs = [.ref p] ∧ H p = some (.ins C dx []) ∧ ∀ (l : Addr) (H' : Hp), WallAt C H' p l abs0 → H l = none → (∀ b o, H b = some o → b ≠ p → H' b = some o) → Q .non H'
theorem ok_Wall_init {f : Addr} {fd : FuncData} (F : Fun K "__init__" "Wall.__init__" s_Wall_init f fd) (T : Txt K mg C) : FnOk P w K mg base CX0 1 f fd ["self"] (spInit C) := by
  refine F.ok sc_Wall_init (fun vs H Q E h => ?_) (fun cdv A outer s H vs Q E hr h => ?_)
  · obtain ⟨p, dx, rfl, _⟩ := h
    rfl
  · obtain ⟨p, dx, rfl, hp, k⟩ := h
    refine ⟨_, (pss_cons (ps_fld (pv 0) pe_int rfl)
      (pss_cons (ps_fld (pv 0) pe_int rfl)
      (pss_one (ps_fld (pv 0) (pe_lst pa_nil) rfl)))), ?_⟩
    refine ⟨_, rfl, p, C, dx, [], rfl, hp, T.cl, T.nR, (by show 0 < 1000; decide), ?_⟩
    refine ⟨_, rfl, p, C, dx, _, rfl, upd_same, T.cl, T.nC, (by show 1 < 1000; decide), ?_⟩
    rw [upd_upd]
    refine ⟨Nat.zero_le _, fun l hl => ?_⟩
    have npl : l ≠ p := fun z => by rw [z, upd_same] at hl; cases hl
    have hl0 : H l = none := by rw [upd_ne npl] at hl; exact hl
    have few : (putF "columns" (V.int 0) (putF "rows" (V.int 0) [])).length < 1000 := by
      show (if ("rows" : Str) = "columns" then [(("rows" : Str), V.int 0)] else (("rows" : Str), V.int 0) :: [("columns", V.int 0)]).length < 1000
      rw [if_neg n_rc]
      decide
    refine ⟨_, rfl, p, C, dx, _, rfl, (by rw [upd_ne npl.symm]; exact upd_same), T.cl, T.nT, few, ?_⟩
    refine k l _ ⟨⟨dx, upd_same⟩, [], ?_, rfl, fun i x z => by cases z⟩ hl0 fun b o e hb => ?_
    · rw [upd_ne npl, upd_same]
      rfl
    · rw [upd_ne hb, upd_ne (ne_of_none e hl0), upd_ne hb]
      exact e
/-- what the table of calls gives -/
def Has (P : Program) (w : World) (K : PySem.W.Frag) (mg : Str → Option Value) (base : Heap) (kvs : List (Int × Value)) (k : Int) (sp : Sp) : Prop :=
  ∃ (f : Addr) (fd : FuncData), valueAt kvs k = some (.ref f) ∧ FnOk P w K mg base CX0 12 f fd ["wall", "given"] sp ∧ PySem.W.keepIn K (.ref f) = true ∧ Binds K fd ["wall", "given"] []
/-- the numbers handed to a call's def: of turn with their count -/
def giv (k : Int) (is : List Nat) : List Nat := if k = 11 then is.length :: is else is
theorem enc_giv (k : Int) (is : List Nat) : TW.enc k is = k :: TW.nat (giv k is) := by
  unfold TW.enc giv
  split <;> rfl
def spOf (C : Addr) (k : Int) : Sp := fun vs H Q _ => ∃ (p l g : Addr) (a : Su124.Abs) (is : List Nat) (x : Su124.Call), vs = [.ref p, .ref g] ∧ TW.Dec k is x ∧ WallAt C H p l a ∧ H g = some (.lst ((giv k is).map nI)) ∧ (k ≠ 0 → TW.Inv a) ∧ CallOk C H p l a x Q
def spOne (C : Addr) : Sp := fun vs H Q _ => ∃ (p l g : Addr) (k : Int) (is : List Nat) (x : Su124.Call) (st : Option Su124.Abs), vs = [.ref p, .int k, .ref g] ∧ TW.Dec k is x ∧ StAt C H p l st ∧ H g = some (.lst ((giv k is).map nI)) ∧
  ∀ (q l' : Addr) (H' : Hp), H q = none → (l' = l ∨ H l' = none) → Keeps H H' p l → StAt C H' p l' (Su124.step st x).1 → H' q = some (.lst (ansV (Su124.step st x).2)) → Q (.ref q) H'
structure Txt2 (K : PySem.W.Frag) (mg : Str → Option Value) (C : Addr) (kvs hvs : List (Int × Value)) : Prop extends Txt K mg C where
  d_CALLS : TopD K mg "CALLS" kvs
  d_HOW_MANY_GIVEN : TopD K mg "HOW_MANY_GIVEN" hvs
theorem ok_answer_one {kvs hvs : List (Int × Value)} {f : Addr} {fd : FuncData} (F : Fun K "answer_one" "answer_one" s_answer_one f fd) (T : Txt2 K mg C kvs hvs) (G : ∀ k is x, TW.Dec k is x → Has P w K mg base kvs k (spOf C k)) : FnOk P w K mg base CX0 13 f fd ["wall", "number", "given"] (spOne C) := by
  refine F.ok sc_answer_one (fun vs H Q E h => ?_) (fun cdv A outer s H vs Q E hr h => ?_)
  · obtain ⟨p, l, g, k, is, x, st, rfl, _⟩ := h
    rfl
  · obtain ⟨p, l, g, k, is, x, st, rfl, hD, hS, hg, q⟩ := h
    refine ⟨_, (pss_cons (ps_if (PW.pt (pw_and (pt_cmpR op_ne (pv 1) (pe_con T.c_BEGIN rfl) (nomark _)) (pw_and1 (pt_cmpR op_eq (pe_fldK K rfl (pv 0) rfl) pe_int (nomark _))))) (pss_one (ps_ret (pe_lst (pa_cons (pe_con T.c_NOT_BEGUN rfl) pa_nil)))) pss_nil)
      (pss_one (ps_ret (pe_callS (pe_top T.d_CALLS rfl (pv 1) (fun _ _ => rfl)) hr (pa_cons (pv 0) (pa_cons (pv 2) pa_nil)))))), ?_⟩
    obtain ⟨dx, hp⟩ := hS.1.ob
    obtain ⟨f1, fd1, hv, F1, kp1, b1⟩ := G k is x hD
    have go : ∀ a, st = some a ∨ (st = none ∧ a = abs0 ∧ k = 0) → CallOk C H p l a x Q := fun a ha r l' H' h1 h2 h3 h4 h5 => by
      rcases ha with rfl | ⟨rfl, rfl, rfl⟩
      · exact q r l' H' h1 h2 h3 ⟨h4, fun b e => by rw [step_some] at e; cases e; exact inv_does (hS.2 a rfl) x⟩ h5
      · cases hD with
        | begin_ m n =>
          rw [TW.does_begin] at h4 h5
          refine q r l' H' h1 h2 h3 ?_ ?_
          · rw [step_begin]
            split
            · rename_i z
              rw [if_pos z] at h4
              exact ⟨h4, fun b e => by cases e⟩
            · rename_i z
              rw [if_neg z] at h4
              exact ⟨h4, fun b e => by cases e; exact TW.Inv.begin (by cases y : Su124.okB m n with | true => rfl | false => exact absurd y z)⟩
          · rw [step_begin, h5]
            split <;> rfl
    have call : ∀ a, st = some a ∨ (st = none ∧ a = abs0 ∧ k = 0) → spOf C k [.ref p, .ref g] H Q E0 := fun a ha => by
      refine ⟨p, l, g, a, is, x, rfl, hD, ?_, hg, fun hne => ?_, go a ha⟩
      · rcases ha with rfl | ⟨rfl, rfl, _⟩
        · exact hS.1
        · exact hS.1
      · rcases ha with rfl | ⟨_, _, z⟩
        · exact hS.2 a rfl
        · exact absurd z hne
    refine ⟨_, rfl, rfl, _, rfl, ite2 (fun hc => ?_) (fun hc => ?_)⟩
    · have hk0 : k ≠ 0 := fun z => by
        subst z
        cases hc
      refine ⟨_, rfl, p, C, dx, _, _, rfl, hp, T.cl, T.nR, wf_rows _ _ _, rfl, _, rfl, ite2 (fun hd => ?_) (fun hd => ?_)⟩
      · have hst : st = none := by
          cases st with
          | none => rfl
          | some a =>
            have h1 := (hS.2 a rfl).m1
            have z := of_decide_eq_true hd
            injection z with z
            have z : ((a.m : Nat) : Int) = 0 := z
            omega
        subst hst
        refine ⟨(by show 1 ≤ sizeLine; decide), fun r hr2 => q r l _ hr2 (.inl rfl) (Keeps.of (Same.upd1 hr2)) ?_ ?_⟩
        · rw [step_none hD hk0]
          exact ⟨hS.1.same (Same.upd1 hr2), fun b e => by cases e⟩
        · rw [step_none hD hk0, upd_same]
          rfl
      · obtain ⟨a, rfl⟩ : ∃ a, st = some a := by
          cases st with
          | none => exact absurd (decide_eq_true rfl) hd
          | some a => exact ⟨a, rfl⟩
        exact ⟨_, rfl, k, _, .ref f1, rfl, hv, rfl, f1, fd1, _, _, rfl, F1, kp1, b1, _, rfl, _, rfl, call a (.inl rfl)⟩
    · have hk0 : k = 0 := by
        apply Classical.byContradiction
        intro z
        refine hc ?_
        rw [decide_eq_false (fun y => z (by injection y))]
        rfl
      refine iteF ?_
      refine ⟨_, rfl, k, _, .ref f1, rfl, hv, rfl, f1, fd1, _, _, rfl, F1, kp1, b1, _, rfl, _, rfl, ?_⟩
      cases st with
      | none => exact call abs0 (.inr ⟨rfl, rfl, hk0⟩)
      | some a => exact call a (.inl rfl)
end
end TP

end

section
set_option Elab.async false
set_option linter.all false
set_option maxRecDepth 100000
set_option maxHeartbeats 4000000
namespace TP
open PySem PySem.Spec PyProof.Rows L2 TR
/-- what was handed in: it stays whatever is done -/
def Arg (K : PySem.W.Frag) (H : Hp) (a : Addr) (xs : List V) : Prop := (∃ o, H a = some (.frz o (.lst xs))) ∨ ∀ H', SqL K H' a xs
theorem Arg.sq {K : PySem.W.Frag} {H : Hp} {a : Addr} {xs : List V} (h : Arg K H a xs) : SqL K H a xs := by
  rcases h with ⟨o, h⟩ | h
  · exact .inl (.inr ⟨o, h⟩)
  · exact h H
theorem Arg.same {K : PySem.W.Frag} {H H' : Hp} {a : Addr} {xs : List V} (h : Arg K H a xs) (s : Same H H') : Arg K H' a xs := by
  rcases h with ⟨o, h⟩ | h
  · exact .inl ⟨o, s _ _ h⟩
  · exact .inr h
theorem Arg.upd {K : PySem.W.Frag} {H : Hp} {a D : Addr} {xs ys : List V} {o : HO} (h : Arg K H a xs) (hD : H D = some (.lst ys)) : Arg K (L2.upd H D o) a xs := by
  rcases h with ⟨u, h⟩ | h
  · exact .inl ⟨u, by rw [upd_ne (ne_of h hD (by intro z; cases z))]; exact h⟩
  · exact .inr h
theorem Arg.keeps {K : PySem.W.Frag} {H H' : Hp} {a p l C dx : Addr} {fs : List (Str × V)} {xs ys : List V} (h : Arg K H a xs) (k : Keeps H H' p l) (hp : H p = some (.ins C dx fs)) (hl : H l = some (.lst ys)) : Arg K H' a xs := by
  rcases h with ⟨u, h⟩ | h
  · exact .inl ⟨u, k _ _ h (ne_of h hp (by intro z; cases z)) (ne_of h hl (by intro z; cases z))⟩
  · exact .inr h
theorem StAt.same {C : Addr} {H H' : Hp} {p l : Addr} {st : Option Su124.Abs} (h : StAt C H p l st) (s : Same H H') : StAt C H' p l st := ⟨h.1.same s, h.2⟩
theorem SpotsAt.upd {H : Hp} {l D : Addr} {ts : List (Nat × Nat × Nat)} {ys : List V} {o : HO} (h : SpotsAt H l ts) (hD : H D = some (.lst ys)) (hne : l ≠ D) : SpotsAt (L2.upd H D o) l ts := by
  obtain ⟨as, h1, h2, h3⟩ := h
  refine ⟨as, by rw [upd_ne hne]; exact h1, h2, fun i x e => ?_⟩
  obtain ⟨a, e1, e2⟩ := h3 i x e
  exact ⟨a, e1, by rw [upd_ne (ne_of e2 hD (by intro z; cases z))]; exact e2⟩
theorem StAt.upd {C : Addr} {H : Hp} {p l D : Addr} {st : Option Su124.Abs} {ys : List V} {o : HO} (h : StAt C H p l st) (hD : H D = some (.lst ys)) (hne : l ≠ D) : StAt C (L2.upd H D o) p l st := by
  obtain ⟨⟨⟨dx, h1⟩, h2⟩, h3⟩ := h
  exact ⟨⟨⟨dx, by rw [upd_ne (ne_of h1 hD (by intro z; cases z))]; exact h1⟩, h2.upd hD hne⟩, h3⟩
theorem ansV_I (r : Su124.Ans) : ansV r = (TW.ansI r).map V.int := by
  unfold ansV TW.ansI TW.nat
  rw [List.map_cons, List.map_map]
  rfl
def muA (n : Nat) (σ : L2.St) : Nat := match (σ.getD 3 none : Option V) with
  | some (V.int z) => n - z.toNat
  | _ => 0
theorem cut_nat {xs : List V} {i j : Nat} (hi : i ≤ j) (hj : j ≤ xs.length) : cutV xs (some (i : Int)) (some (j : Int)) = (xs.drop i).take (j - i) := by
  unfold cutV
  have e : ∀ (d k : Nat), k ≤ xs.length → HT.sIx xs.length d (some (k : Int)) = k := fun d k hk => by
    unfold HT.sIx
    simp
    rw [if_neg (by omega)]
    omega
  rw [e 0 i (by omega), e xs.length j hj]
section
variable {P : Program} {w : World} {K : PySem.W.Frag} {mg : Str → Option Value} {base : Heap} {C : Addr}
/-- how many numbers stand behind a call's number -/
def Gives (hvs : List (Int × Value)) : Prop := ∀ k is x, TW.Dec k is x → k ≠ 11 → ∃ t, valueAt hvs k = some (.int (is.length : Int) t)
def spBehind (K : PySem.W.Frag) : Sp := fun vs H Q _ => ∃ (a : Addr) (done : Nat) (ns t : List Int) (k : Int) (is : List Nat) (x : Su124.Call), vs = [.ref a, nI done] ∧ Arg K H a (ns.map V.int) ∧ TW.Dec k is x ∧ ns.drop done = k :: (TW.nat (giv k is) ++ t) ∧ Q (nI (done + 1 + (giv k is).length)) H
theorem get_int {ns : List Int} {i : Nat} {k : Int} {r : List Int} (h : ns.drop i = k :: r) : (ns.map V.int)[i]? = some (.int k) := by
  have z : (ns.drop i)[0]? = some k := by rw [h]; rfl
  rw [List.getElem?_drop] at z
  rw [List.getElem?_map, show ns[i]? = some k from z]
  rfl
theorem ok_behind_call {kvs hvs : List (Int × Value)} {f : Addr} {fd : FuncData} (F : Fun K "behind_call" "behind_call" s_behind_call f fd) (T : Txt2 K mg C kvs hvs) (hG : Gives hvs) : FnOk P w K mg base CX0 1 f fd ["calls", "at"] (spBehind K) := by
  refine F.ok sc_behind_call (fun vs H Q E h => ?_) (fun cdv A outer s H vs Q E hr h => ?_)
  · obtain ⟨a, done, ns, t, k, is, x, rfl, _⟩ := h
    rfl
  · obtain ⟨a, done, ns, t, k, is, x, rfl, hA, hD, hdrop, q⟩ := h
    refine ⟨_, (pss_cons (ps_if (pt_cmpR op_eq (pe_ix (ixl K rfl) (pv 0) (pv 1) (fun _ _ => rfl)) (pe_con T.c_TURN rfl) (nomark _)) (pss_one (ps_ret (pe_op op_add (pe_op op_add (pv 1) pe_int) (pe_ix (ixl K rfl) (pv 0) (pe_op op_add (pv 1) pe_int) (fun _ _ => rfl))))) pss_nil)
      (pss_one (ps_ret (pe_op op_add (pe_op op_add (pv 1) pe_int) (pe_top T.d_HOW_MANY_GIVEN rfl (pe_ix (ixl K rfl) (pv 0) (pv 1) (fun _ _ => rfl)) (fun _ _ => rfl)))))), ?_⟩
    refine ⟨_, rfl, _, rfl, a, _, _, _, rfl, rfl, hA.sq, at_of (j := done) rfl (get_int hdrop), rfl, _, rfl, ite2 (fun hc => ?_) (fun hc => ?_)⟩
    · have hk : k = 11 := by
        have z := of_decide_eq_true hc
        injection z
      subst hk
      have eg : giv 11 is = is.length :: is := rfl
      rw [eg] at hdrop q
      have hdrop1 : ns.drop (done + 1) = (is.length : Int) :: (TW.nat is ++ t) := by
        rw [← List.drop_drop, hdrop]
        rfl
      refine ⟨_, rfl, _, _, rfl, rfl, _, rfl, _, rfl, _, _, rfl, rfl, a, _, _, _, rfl, rfl, hA.sq, at_of (j := done + 1) rfl (get_int hdrop1), _, _, rfl, rfl, ?_⟩
      rw [show nI (done + 1 + (is.length :: is).length) = V.int ((done : Int) + 2 + (is.length : Int)) from congrArg V.int (by rw [List.length_cons]; omega)] at q
      exact q
    · have hk : k ≠ 11 := fun z => by
        subst z
        exact hc (decide_eq_true rfl)
      have eg : giv k is = is := if_neg hk
      rw [eg] at hdrop q
      obtain ⟨tk, hgv⟩ := hG k is x hD hk
      refine ⟨_, rfl, _, _, rfl, rfl, _, rfl, _, rfl, a, _, _, _, rfl, rfl, hA.sq, at_of (j := done) rfl (get_int hdrop), k, _, .int (is.length : Int), rfl, hgv, ⟨tk, rfl⟩, _, _, rfl, rfl, ?_⟩
      rw [show nI (done + 1 + is.length) = V.int ((done : Int) + 1 + (is.length : Int)) from congrArg V.int (by omega)] at q
      exact q
def spAnswers (K : PySem.W.Frag) : Sp := fun vs H Q _ => ∃ (a : Addr) (ns : List Int) (raw : List (List (List Int))), vs = [.ref a] ∧ Arg K H a (ns.map V.int) ∧ (∀ z, z ∈ ns → 0 ≤ z) ∧ PyFlat.calls PySu124.shape ns.length ns = some raw ∧ (TW.play none raw).length ≤ 10000000 ∧
  ∀ (q : Addr) (H' : Hp), H' q = some (.lst ((TW.play none raw).map V.int)) → Q (.ref q) H'
theorem ok_answers {kvs hvs : List (Int × Value)} {f fI : Addr} {fd fdI : FuncData} (F : Fun K "answers" "answers" s_answers f fd) (T : Txt2 K mg C kvs hvs) (M_Wall : Mk K C fI) (FI : Fun K "__init__" "Wall.__init__" s_Wall_init fI fdI) (b_Wall_init : Binds K fdI ["self"] [])
    (G_answer_one : Ok P w K mg base "answer_one" 13 ["wall", "number", "given"] (spOne C)) (G_behind_call : Ok P w K mg base "behind_call" 1 ["calls", "at"] (spBehind K)) : FnOk P w K mg base CX0 14 f fd ["calls"] (spAnswers K) := by
  have G_Wall_init : FnOk P w K mg base CX0 1 fI fdI ["self"] (spInit C) := ok_Wall_init FI T.toTxt
  refine F.ok sc_answers (fun vs H Q E h => ?_) (fun cdv A outer s H vs Q E hr h => ?_)
  · obtain ⟨a, ns, raw, rfl, _⟩ := h
    rfl
  · obtain ⟨a, ns, raw, rfl, hA, hns, hraw, hbig, k⟩ := h
    refine ⟨_, (pss_cons (ps_set (i := 1) sc_answers.nd rfl (Or.inl rfl) (pe_make0 M_Wall G_Wall_init (hr.mono (by decide)) rfl T.mg_Wall b_Wall_init .nil pass0))
      (pss_cons (ps_set (i := 2) sc_answers.nd rfl (Or.inl rfl) (pe_lst pa_nil))
      (pss_cons (ps_set (i := 3) sc_answers.nd rfl (Or.inl rfl) pe_int)
      (pss_cons (ps_while PassesOwn.never (pt_cmpR op_lt (pv 3) (pe_callB (lenK K rfl) (by rfl) T.b_len bo_len (pa_cons (pv 0) pa_nil)) (nomark _)) (pss_cons (ps_set (i := 4) sc_answers.nd rfl (Or.inl rfl) (pe_ok G_behind_call (hr.mono (by decide)) rfl (pa_cons (pv 0) (pa_cons (pv 3) pa_nil))))
      (pss_cons (ps_set (i := 5) sc_answers.nd rfl (Or.inl rfl) (pe_ok G_answer_one (hr.mono (by decide)) rfl (pa_cons (pv 1) (pa_cons (pe_ix (ixl K rfl) (pv 0) (pv 3) (fun _ _ => rfl)) (pa_cons (pe_slice (slK K rfl) (pv 0) (po_some (pe_op op_add (pv 3) pe_int)) (po_some (pv 4))) pa_nil)))))
      (pss_cons (ps_expr (pe_bm PySem.F.plainAttrs_list PySem.F.slot_list_append PySem.F.type_list_append mt_append (pv 2) (pa_cons (pe_callB (lenK K rfl) (by rfl) T.b_len bo_len (pa_cons (pv 5) pa_nil)) pa_nil)))
      (pss_cons (ps_expr (pe_bm PySem.F.plainAttrs_list PySem.F.slot_list_extend PySem.F.type_list_extend mt_extend (pv 2) (pa_cons (pv 5) pa_nil)))
      (pss_one (ps_set (i := 3) sc_answers.nd rfl (Or.inl rfl) (pv 4))))))))
      (pss_one (ps_ret (pv 2))))))), ?_⟩
    have hnl : (ns.map V.int).length = ns.length := List.length_map _
    intro p dx hp hdx hne
    refine ⟨p, dx, rfl, upd_same, fun l H1 W1 hl1 kp1 => ⟨rfl, ?_⟩⟩
    have s1 : Same H H1 := Same.made hp hdx kp1
    refine ⟨Nat.zero_le _, fun D hD => ?_⟩
    have s2 : Same H1 (L2.upd H1 D (.lst [])) := Same.upd1 hD
    obtain ⟨asW, hlW, _⟩ := W1.ts
    refine while_by (fun σ H' => ∃ (done : Nat) (st : Option Su124.Abs) (l : Addr) (fu : Nat) (cs : List (List (List Int))) (out : List Int) (o4 o5 : Option V), σ = [some (.ref a), some (.ref p), some (.ref D), some (nI done), o4, o5] ∧ done ≤ ns.length ∧
      PyFlat.calls PySu124.shape fu (ns.drop done) = some cs ∧ StAt C H' p l st ∧ l ≠ D ∧ H' D = some (.lst (out.map V.int)) ∧ out ++ TW.play st cs = TW.play none raw ∧ Arg K H' a (ns.map V.int)) (fun σ _ => muA ns.length σ) ?_ ?_ ?_
    · exact ⟨0, none, l, ns.length, raw, [], none, none, rfl, Nat.zero_le _, hraw, ⟨W1.same s2, fun b e => by cases e⟩, ne_of_none hlW hD, upd_same, rfl, (hA.same s1).same s2⟩
    · rintro σ H2 ⟨done, st, l2, fu, cs, out, o4, o5, rfl, hdone, hcs, hS, hlD, hD2, hout, hA2⟩
      refine ⟨_, rfl, _, rfl, a, _, rfl, .inl hA2.sq, _, _, rfl, rfl, _, rfl, ite2 (fun hc => ?_) (fun hc => ?_)⟩
      · have hlt : done < ns.length := by
          have z := of_decide_eq_true hc
          rw [hnl] at z
          omega
        obtain ⟨k0, r0, hr0⟩ : ∃ k0 r0, ns.drop done = k0 :: r0 := ⟨_, _, List.drop_eq_getElem_cons hlt⟩
        rw [hr0] at hcs
        have hmem : ∀ z, z ∈ k0 :: r0 → z ∈ ns := fun z hz => by
          rw [← hr0] at hz
          exact List.mem_of_mem_drop hz
        obtain ⟨js, x, fu', t, cs', hDec, henc, hcs', _, hplay⟩ := TW.split hcs fun z hz => hns z (hmem z hz)
        obtain ⟨is, his⟩ : ∃ is, is = giv k0 js := ⟨_, rfl⟩
        rw [enc_giv, ← his] at henc
        have hr0' : r0 = TW.nat is ++ t := by
          injection henc
        have hdrop : ns.drop done = k0 :: (TW.nat is ++ t) := by rw [hr0, hr0']
        have hlen : ns.length = done + 1 + is.length + t.length := by
          have z := congrArg List.length hr0
          rw [hr0', List.length_drop, List.length_cons, List.length_append, TW.nat_len] at z
          omega
        refine ⟨_, rfl, _, rfl, a, done, ns, t, k0, js, x, rfl, hA2, hDec, (by rw [← his]; exact hdrop), ?_⟩
        rw [← his]
        refine ⟨_, rfl, _, rfl, _, rfl, a, _, _, _, rfl, rfl, hA2.sq, at_of (j := done) rfl (get_int hdrop), _, rfl, _, rfl, _, _, rfl, rfl, _, rfl, _, rfl, _, rfl, a, _, rfl, hA2.sq, fun g hg => ?_⟩
        have hcut : cutV (ns.map V.int) (some ((done : Int) + 1)) (some ((done + 1 + is.length : Nat) : Int)) = is.map nI := by
          have z := cut_nat (xs := ns.map V.int) (i := done + 1) (j := done + 1 + is.length) (by omega) (by rw [hnl]; omega)
          have e1 : ns.drop (done + 1) = r0 := by
            rw [← List.drop_drop, hr0]
            rfl
          rw [← List.map_drop, e1, hr0', ← List.map_take, show done + 1 + is.length - (done + 1) = (TW.nat is).length by rw [TW.nat_len]; omega, List.take_left] at z
          rw [show (done : Int) + 1 = ((done + 1 : Nat) : Int) by omega, z]
          unfold TW.nat
          rw [List.map_map]
          rfl
        rw [hcut]
        have s3 : Same H2 (L2.upd H2 g (.lst (is.map nI))) := Same.upd1 hg
        have hD3 := s3 _ _ hD2
        refine ⟨p, l2, g, k0, js, x, st, rfl, hDec, hS.same s3, (by rw [← his]; exact upd_same), fun q l3 H4 hq hl3 hk4 hS4 hq4 => ?_⟩
        obtain ⟨dx3, hp3⟩ := (hS.same s3).1.ob
        obtain ⟨as3, hl23, _⟩ := (hS.same s3).1.ts
        have hD4 : H4 D = some (.lst (out.map V.int)) := hk4 _ _ hD3 (ne_of hD3 hp3 (by intro z; cases z)) hlD.symm
        have hA4 : Arg K H4 a (ns.map V.int) := (hA2.same s3).keeps hk4 hp3 hl23
        have nql : q ≠ D := fun z => by
          rw [z, hD3] at hq
          cases hq
        have nl3 : l3 ≠ D := by
          rcases hl3 with rfl | z
          · exact hlD
          · exact (ne_of_none hD3 z).symm
        have htot : out.length + (TW.ansI (Su124.step st x).2).length + 1 ≤ 10000000 := by
          have z := congrArg List.length hout
          rw [hplay, List.length_append, List.length_append, List.length_cons] at z
          omega
        have line : (10000000 : Nat) < sizeLine := by rw [sizeLine_eq]; decide
        refine ⟨_, rfl, .inl ⟨rfl, _, SqL.of hD4⟩, _, rfl, q, _, rfl, .inl (SqL.of hq4), D, _, _, rfl, rfl, hD4, (by rw [List.length_map]; omega), ?_⟩
        refine ⟨_, rfl, .inl ⟨rfl, _, SqL.of upd_same⟩, _, rfl, D, q, _, _, rfl, rfl, upd_same, (by rw [upd_ne nql]; exact hq4), ?_, ?_⟩
        · rw [ansV_I, List.length_append, List.length_map, List.length_map]
          show out.length + 1 + _ ≤ _
          omega
        · rw [upd_upd]
          refine ⟨_, rfl, ⟨done + 1 + is.length, (Su124.step st x).1, l3, fu', cs', out ++ (((TW.ansI (Su124.step st x).2).length : Int) :: TW.ansI (Su124.step st x).2), some (nI (done + 1 + is.length)), some (.ref q), rfl, (by omega), ?_, hS4.upd hD4 nl3, nl3, ?_, ?_, hA4.upd hD4⟩, ?_⟩
          · rw [← List.drop_drop, ← List.drop_drop, hr0, hr0']
            show PyFlat.calls PySu124.shape fu' ((TW.nat is ++ t).drop is.length) = some cs'
            rw [show is.length = (TW.nat is).length by rw [TW.nat_len], List.drop_left]
            exact hcs'
          · rw [upd_same, ansV_I]
            simp [List.map_append, List.append_assoc]
          · rw [← hout, hplay, List.append_assoc]
          · show ns.length - ((done + 1 + is.length : Nat) : Int).toNat < ns.length - ((done : Nat) : Int).toNat
            omega
      · have hge : done = ns.length := by
          apply Classical.byContradiction
          intro z
          refine hc (decide_eq_true ?_)
          rw [hnl]
          omega
        subst hge
        rw [List.drop_length] at hcs
        have hcs0 : cs = [] := by
          cases fu <;> exact (Option.some.inj hcs).symm
        subst hcs0
        refine ⟨_, rfl, k D H2 ?_⟩
        have e : TW.play st [] = [] := rfl
        rw [e, List.append_nil] at hout
        rw [hD2, hout]
    · rintro σ H3 Q1 Q2 hq ⟨v, e1, v2, e2, b, ys, e3, e4, i, j, e5, e6, c, e7, q⟩
      exact ⟨v, e1, v2, e2, b, ys, e3, e4, i, j, e5, e6, c, e7, hq _ _ q⟩
end
end TP

end

section
set_option Elab.async false
set_option linter.all false
set_option maxRecDepth 100000
set_option maxHeartbeats 4000000
namespace TP
open PySem PySem.Spec PyProof.Rows L2 TR
/-- a def stands at the file's top -/
def Def (K : PySem.W.Frag) (mg : Str → Option Value) (x : Str) (st : Stmt) : Prop := ∃ f fd, Fun K x x st f fd ∧ mg x = some (.ref f)
theorem mk_def {K : PySem.W.Frag} {h : Heap} {mg : Str → Option Value} (X : K.In h) (G : h.Ns mainGlobals mg) {x : Str} {st : Stmt} {f : Addr} {od an : Option Addr} {sl : Array (Option Value)} {oc kV dc pm cd ct : Value}
    (a : PySem.W.nsIn K mainGlobals x = some (some (.ref f))) (l : K.lookup f = some ⟨oc, od, .func (PySem.W.fnOf x x (defArgs st) (defBody st) (defScope st) .none kV dc pm an cd ct), sl⟩) (c : PySem.W.codeIn K cd x = true) (k : PySem.W.keepIn K (.ref f) = true) :
    Def K mg x st := ⟨f, _, fun_mk (st := st) l c k, PySem.W.mg_of X G a⟩
theorem mg_no {K : PySem.W.Frag} {h : Heap} {mg : Str → Option Value} {n : Str} (X : K.In h) (G : h.Ns mainGlobals mg) (e : PySem.W.nsIn K mainGlobals n = some none) : mg n = none := by
  obtain ⟨o, es, ep, ho, hd, hk, hf⟩ := G
  unfold PySem.W.nsIn at e
  split at e
  · rename_i c d es' n' sl q
    have z := X _ _ q
    rw [ho] at z
    cases z
    cases hd
    split at e
    · cases e
    · rename_i he
      rw [← hf]
      unfold nsFind findBy
      rw [← Array.find?_toList, he]
      rfl
  · cases e
def tokOf (e : DictEntry) : Tok := match e.key with
  | .int _ t => t
  | _ => 0
theorem paired_of : ∀ {es : List DictEntry} {kvs : List (Int × Value)}, es.map (fun e => (e.hash, e.key, e.val)) = (kvs.zip (es.map tokOf)).map (fun p => (hashInt p.1.1, Value.int p.1.1 p.2, p.1.2)) → es.length = kvs.length →
    Paired (fun (e : DictEntry) (kv : Int × Value) => e.hash = hashInt kv.1 ∧ (∃ t, e.key = .int kv.1 t) ∧ e.val = kv.2) es kvs
  | [], [], _, _ => .nil
  | [], _ :: _, _, h => by cases h
  | _ :: _, [], _, h => by cases h
  | e :: es, kv :: kvs, h, hl => by
    rw [List.map_cons, List.map_cons, List.zip_cons_cons, List.map_cons] at h
    injection h with h1 h2
    injection h1 with h3 h4
    injection h4 with h5 h6
    exact .cons ⟨h3, ⟨_, h5⟩, h6⟩ (paired_of h2 (by simpa using hl))
theorem mk_dict {K : PySem.W.Frag} {h : Heap} {mg : Str → Option Value} (X : K.In h) (G : h.Ns mainGlobals mg) {x : Str} {d : Addr} {es : Array DictEntry} {ep : Nat} {kvs : List (Int × Value)}
    (a : PySem.W.nsIn K mainGlobals x = some (some (.ref d))) (l : K.lookup d = some ⟨.type "dict", none, .dict es ep, #[]⟩)
    (z : es.toList.map (fun e => (e.hash, e.key, e.val)) = (kvs.zip (es.toList.map tokOf)).map (fun p => (hashInt p.1.1, Value.int p.1.1 p.2, p.1.2))) (n : es.toList.length = kvs.length) (nd : (kvs.map (·.1)).Nodup) : TopD K mg x kvs :=
  ⟨⟨d, es, ep, PySem.W.mg_of X G a, l, paired_of z n⟩, nd⟩
theorem mk_int {K : PySem.W.Frag} {h : Heap} {mg : Str → Option Value} (X : K.In h) (G : h.Ns mainGlobals mg) {x : Str} {k : Int} {t : Tok} (a : PySem.W.nsIn K mainGlobals x = some (some (.int k t))) : ∃ t, mg x = some (.int k t) := ⟨t, PySem.W.mg_of X G a⟩
/-- the two tables of the top -/
abbrev callsL (v : Nat → Value) : List (Int × Value) := [(0, v 0), (1, v 1), (2, v 2), (3, v 3), (4, v 4), (5, v 5), (6, v 6), (7, v 7), (8, v 8), (9, v 9), (10, v 10), (11, v 11), (12, v 12), (13, v 13), (14, v 14), (15, v 15), (16, v 16), (17, v 17), (18, v 18), (19, v 19), (20, v 20)]
abbrev giveL (t : Nat → Tok) : List (Int × Value) := [(0, .int 2 (t 0)), (1, .int 3 (t 1)), (2, .int 3 (t 2)), (3, .int 0 (t 3)), (4, .int 1 (t 4)), (5, .int 1 (t 5)), (6, .int 0 (t 6)), (7, .int 0 (t 7)), (8, .int 3 (t 8)), (9, .int 0 (t 9)), (10, .int 3 (t 10)), (12, .int 3 (t 11)), (13, .int 0 (t 12)), (14, .int 0 (t 13)), (15, .int 3 (t 14)), (16, .int 3 (t 15)), (17, .int 2 (t 16)), (18, .int 3 (t 17)), (19, .int 0 (t 18)), (20, .int 0 (t 19))]
def vtok (e : DictEntry) : Tok := match e.val with
  | .int _ t => t
  | _ => 0
theorem mk_give {K : PySem.W.Frag} {h : Heap} {mg : Str → Option Value} (X : K.In h) (G : h.Ns mainGlobals mg) {d : Addr} {es : Array DictEntry} {ep : Nat}
    (a : PySem.W.nsIn K mainGlobals "HOW_MANY_GIVEN" = some (some (.ref d))) (l : K.lookup d = some ⟨.type "dict", none, .dict es ep, #[]⟩)
    (z : es.toList.map (fun e => (e.hash, e.key, e.val)) = ((giveL fun i => (es.toList.map vtok).getD i 0).zip (es.toList.map tokOf)).map (fun p => (hashInt p.1.1, Value.int p.1.1 p.2, p.1.2)))
    (n : es.toList.length = 20) : ∃ t, TopD K mg "HOW_MANY_GIVEN" (giveL t) :=
  ⟨fun i => (es.toList.map vtok).getD i 0, mk_dict X G a l z n (show ([0, 1, 2, 3, 4, 5, 6, 7, 8, 9, 10, 12, 13, 14, 15, 16, 17, 18, 19, 20] : List Int).Nodup by decide +kernel)⟩
/-- the names of the calls in the table's order -/
def callNames : List Str := ["begin", "tie", "free", "firm", "reach", "part", "parts", "ends", "leans", "all_leans", "lean", "turn", "spare", "spares", "put", "would", "falls", "stiff", "flip", "ties", "state"]
theorem mk_calls {K : PySem.W.Frag} {h : Heap} {mg : Str → Option Value} (X : K.In h) (G : h.Ns mainGlobals mg) {d : Addr} {es : Array DictEntry} {ep : Nat}
    (a : PySem.W.nsIn K mainGlobals "CALLS" = some (some (.ref d))) (l : K.lookup d = some ⟨.type "dict", none, .dict es ep, #[]⟩)
    (z : es.toList.map (fun e => (e.hash, e.key, e.val)) = ((callsL fun i => (es.toList.map (·.val)).getD i .none).zip (es.toList.map tokOf)).map (fun p => (hashInt p.1.1, Value.int p.1.1 p.2, p.1.2)))
    (n : es.toList.length = 21) (y : callNames.map (fun x => PySem.W.nsIn K mainGlobals x) = es.toList.map fun e => some (some e.val)) :
    ∃ v, TopD K mg "CALLS" (callsL v) ∧ ∀ i x, callNames[i]? = some x → mg x = some (v i) := by
  refine ⟨fun i => (es.toList.map (·.val)).getD i .none, mk_dict X G a l z n (show ([0, 1, 2, 3, 4, 5, 6, 7, 8, 9, 10, 11, 12, 13, 14, 15, 16, 17, 18, 19, 20] : List Int).Nodup by decide +kernel), fun i x e => ?_⟩
  have q : (callNames.map (fun x => PySem.W.nsIn K mainGlobals x))[i]? = some (PySem.W.nsIn K mainGlobals x) := by rw [List.getElem?_map, e]; rfl
  rw [y, List.getElem?_map] at q
  cases w : es.toList[i]? with
  | none =>
    rw [w] at q
    cases q
  | some en =>
    rw [w] at q
    have q := (Option.some.inj q).symm
    refine PySem.W.mg_of X G (q.trans ?_)
    show some (some en.val) = some (some ((es.toList.map (·.val)).getD i .none))
    rw [List.getD_eq_getElem?_getD, List.getElem?_map, w]
    rfl
def ClsAt (K : PySem.W.Frag) (mg : Str → Option Value) (C : Addr) : Prop := mg "Wall" = some (.ref C) ∧ Cls K C ∧ NoAttr K C "rows" ∧ NoAttr K C "columns" ∧ NoAttr K C "ties" ∧ ∃ fI fdI, Mk K C fI ∧ Fun K "__init__" "Wall.__init__" s_Wall_init fI fdI
theorem mk_cls {K : PySem.W.Frag} {h : Heap} {mg : Str → Option Value} (X : K.In h) (G : h.Ns mainGlobals mg) {C f1 : Addr} {od1 an1 : Option Addr} {sl1 : Array (Option Value)} {oc1 kV1 dc1 pm1 cd1 ct1 : Value}
    (aC : PySem.W.nsIn K mainGlobals "Wall" = some (some (.ref C))) (a1 : PySem.W.findIn K (.ref C) "__init__" = some (some (.ref f1))) (i1 : PySem.W.isFn K (.ref f1) = true)
    (l1 : K.lookup f1 = some ⟨oc1, od1, .func (PySem.W.fnOf "__init__" "Wall.__init__" (defArgs s_Wall_init) (defBody s_Wall_init) (defScope s_Wall_init) .none kV1 dc1 pm1 an1 cd1 ct1), sl1⟩) (c1 : PySem.W.codeIn K cd1 "Wall.__init__" = true) (k1 : PySem.W.keepIn K (.ref f1) = true)
    (pg : PySem.W.plainGet K C Str.empty = true) (hd : PySem.W.hasDictIn K C = true) (po : PySem.W.plainOver K C = true) (sa : PySem.W.findIn K (.ref C) "__setattr__" = some (some (.builtin "object.__setattr__"))) (mk : PySem.W.makesIn K C = true) (kc : PySem.W.keepIn K (.ref C) = true)
    (nR : PySem.W.findIn K (.ref C) "rows" = some none) (nC : PySem.W.findIn K (.ref C) "columns" = some none) (nT : PySem.W.findIn K (.ref C) "ties" = some none) : ∃ C, ClsAt K mg C :=
  ⟨C, PySem.W.mg_of X G aC, ⟨pg, hd, po, sa⟩, nR, nC, nT, f1, _, ⟨mk, a1, i1, kc⟩, fun_mk (st := s_Wall_init) l1 c1 k1⟩
theorem arg_of {K : PySem.W.Frag} {H : Hp} {a : Addr} {xs : List V} (hO : OnlyF H) (h : SqL K H a xs) : Arg K H a xs := by
  rcases h with (h | ⟨o, h⟩) | h
  · rcases hO a with z | ⟨o, u, z⟩
    · rw [h] at z
      cases z
    · rw [h] at z
      cases z
  · exact .inl ⟨o, h⟩
  · exact .inr fun H' => .inr h
theorem ok_of {P : Program} {w : World} {K : PySem.W.Frag} {mg : Str → Option Value} {base : Heap} {x : Str} {f : Addr} {fd : FuncData} {k : Nat} {ps : List Str} {sp : Sp} {st : Stmt} (O : FnOk P w K mg base CX0 k f fd ps sp) (m : mg x = some (.ref f)) (F : Fun K x x st f fd) (b : Binds K fd ps []) : Ok P w K mg base x k ps sp :=
  ⟨f, fd, O, m, F.kp, b⟩
theorem has_of {P : Program} {w : World} {K : PySem.W.Frag} {mg : Str → Option Value} {base : Heap} {kvs : List (Int × Value)} {k : Int} {j : Nat} {x : Str} {f : Addr} {fd : FuncData} {sp sp' : Sp} {st : Stmt} {u : Value} (h5 : j ≤ 12) (O : FnOk P w K mg base CX0 j f fd ["wall", "given"] sp) (m : mg x = some (.ref f)) (F : Fun K x x st f fd) (b : Binds K fd ["wall", "given"] [])
    (e : mg x = some u) (hv : valueAt kvs k = some u) (hi : ∀ vs H Q E, sp' vs H Q E → sp vs H Q E) : Has P w K mg base kvs k sp' := by
  rw [m] at e
  cases e
  exact ⟨f, fd, hv, (O.mono h5).imp hi, F.kp, b⟩
theorem all_mk {P : Program} {w : World} {K : PySem.W.Frag} {mg : Str → Option Value} {fa C : Addr} {v : Nat → Value} {t : Nat → Tok} (hfa : mg "answers" = some (.ref fa))
    (D_passage : Def K mg "passage" s_passage) (D_met_from : Def K mg "met_from" s_met_from) (D_reach_table : Def K mg "reach_table" s_reach_table) (D_met_by_either : Def K mg "met_by_either" s_met_by_either) (D_table_with : Def K mg "table_with" s_table_with) (D_reached : Def K mg "reached" s_reached) (D_together : Def K mg "together" s_together) (D_first_of_part : Def K mg "first_of_part" s_first_of_part) (D_firsts : Def K mg "firsts" s_firsts) (D_leads_out : Def K mg "leads_out" s_leads_out) (D_is_led_to : Def K mg "is_led_to" s_is_led_to) (D_end_firsts : Def K mg "end_firsts" s_end_firsts) (D_start_firsts : Def K mg "start_firsts" s_start_firsts) (D_needed_at_least : Def K mg "needed_at_least" s_needed_at_least) (D_may_lean : Def K mg "may_lean" s_may_lean) (D_strip_count : Def K mg "strip_count" s_strip_count) (D_ties_without : Def K mg "ties_without" s_ties_without) (D_passages_by : Def K mg "passages_by" s_passages_by) (D_table_by : Def K mg "table_by" s_table_by) (D_table_of : Def K mg "table_of" s_table_of) (D_part_count : Def K mg "part_count" s_part_count) (D_has_square : Def K mg "has_square" s_has_square) (D_has_spot : Def K mg "has_spot" s_has_spot) (D_has_strip : Def K mg "has_strip" s_has_strip) (D_all_squares : Def K mg "all_squares" s_all_squares) (D_all_spots : Def K mg "all_spots" s_all_spots) (D_other_kind : Def K mg "other_kind" s_other_kind) (D_lean_count : Def K mg "lean_count" s_lean_count) (D_is_spare : Def K mg "is_spare" s_is_spare) (D_first_of_size : Def K mg "first_of_size" s_first_of_size) (D_fewest : Def K mg "fewest" s_fewest) (D_flat : Def K mg "flat" s_flat) (D_in_range : Def K mg "in_range" s_in_range) (D_as_number : Def K mg "as_number" s_as_number) (D_refusal_if_there : Def K mg "refusal_if_there" s_refusal_if_there) (D_refusal_if_missing : Def K mg "refusal_if_missing" s_refusal_if_missing) (D_begin : Def K mg "begin" s_begin) (D_tie : Def K mg "tie" s_tie) (D_free : Def K mg "free" s_free) (D_firm : Def K mg "firm" s_firm) (D_reach : Def K mg "reach" s_reach) (D_part : Def K mg "part" s_part) (D_parts : Def K mg "parts" s_parts) (D_ends : Def K mg "ends" s_ends) (D_leans : Def K mg "leans" s_leans) (D_all_leans : Def K mg "all_leans" s_all_leans) (D_lean : Def K mg "lean" s_lean) (D_turn : Def K mg "turn" s_turn) (D_spare : Def K mg "spare" s_spare) (D_spares : Def K mg "spares" s_spares) (D_put : Def K mg "put" s_put) (D_would : Def K mg "would" s_would) (D_falls : Def K mg "falls" s_falls) (D_stiff : Def K mg "stiff" s_stiff) (D_flip : Def K mg "flip" s_flip) (D_ties : Def K mg "ties" s_ties) (D_state : Def K mg "state" s_state) (D_behind_call : Def K mg "behind_call" s_behind_call) (D_answer_one : Def K mg "answer_one" s_answer_one) (D_answers : Def K mg "answers" s_answers)
    (hC : ClsAt K mg C) (T0 : Txt0 mg) (b_sum : mg "sum" = none) (b_tuple : mg "tuple" = none)
    (q1 : ∃ t, mg "NONE_SUCH" = some (.int (-2) t)) (q2 : ∃ t, mg "NOT_THERE" = some (.int (-6) t)) (q3 : ∃ t, mg "NOT_BEGUN" = some (.int (-11) t)) (q4 : ∃ t, mg "THERE_ALREADY" = some (.int (-17) t)) (q5 : ∃ t, mg "OUT_OF_RANGE" = some (.int (-22) t)) (q6 : ∃ t, mg "NOT_SO" = some (.int (-33) t))
    (q7 : ∃ t, mg "MOST_IN_A_LINE" = some (.int 5 t)) (q8 : ∃ t, mg "KINDS" = some (.int 2 t)) (q9 : ∃ t, mg "BEGIN" = some (.int 0 t)) (q10 : ∃ t, mg "TOO_MANY" = some (.int (-28) t)) (q11 : ∃ t, mg "NOT_REFUSED" = some (.int 0 t)) (q12 : ∃ t, mg "MOST_SQUARES_TO_PUT" = some (.int 9 t)) (q13 : ∃ t, mg "MOST_TIES_TO_PUT" = some (.int 4 t)) (q14 : ∃ t, mg "TURN" = some (.int 11 t))
    (dC : TopD K mg "CALLS" (callsL v)) (nC : ∀ i x, callNames[i]? = some x → mg x = some (v i)) (dH : TopD K mg "HOW_MANY_GIVEN" (giveL t)) :
    ∃ fd : FuncData, (∀ (s : Shared) (us : List Value), us.length = (["calls"] : List Str).length → BindsTo s fd ⟨us, []⟩ ((["calls"] : List Str).zip us)) ∧ ∀ base : Heap, FnOk P w K mg base CX0 14 fa fd ["calls"] (spAnswers K) := by
  obtain ⟨f_passage, fd_passage, F_passage, m_passage⟩ := D_passage
  have b_passage := F_passage.binds (ps := ["rows", "spot"]) fun _ _ _ _ _ _ us hl => match us, hl with | [_, _], _ => rfl
  obtain ⟨f_met_from, fd_met_from, F_met_from, m_met_from⟩ := D_met_from
  have b_met_from := F_met_from.binds (ps := ["count", "passages", "start"]) fun _ _ _ _ _ _ us hl => match us, hl with | [_, _, _], _ => rfl
  obtain ⟨f_reach_table, fd_reach_table, F_reach_table, m_reach_table⟩ := D_reach_table
  have b_reach_table := F_reach_table.binds (ps := ["count", "passages"]) fun _ _ _ _ _ _ us hl => match us, hl with | [_, _], _ => rfl
  obtain ⟨f_met_by_either, fd_met_by_either, F_met_by_either, m_met_by_either⟩ := D_met_by_either
  have b_met_by_either := F_met_by_either.binds (ps := ["line", "other"]) fun _ _ _ _ _ _ us hl => match us, hl with | [_, _], _ => rfl
  obtain ⟨f_table_with, fd_table_with, F_table_with, m_table_with⟩ := D_table_with
  have b_table_with := F_table_with.binds (ps := ["table", "step"]) fun _ _ _ _ _ _ us hl => match us, hl with | [_, _], _ => rfl
  obtain ⟨f_reached, fd_reached, F_reached, m_reached⟩ := D_reached
  have b_reached := F_reached.binds (ps := ["table", "strip"]) fun _ _ _ _ _ _ us hl => match us, hl with | [_, _], _ => rfl
  obtain ⟨f_together, fd_together, F_together, m_together⟩ := D_together
  have b_together := F_together.binds (ps := ["table", "strip"]) fun _ _ _ _ _ _ us hl => match us, hl with | [_, _], _ => rfl
  obtain ⟨f_first_of_part, fd_first_of_part, F_first_of_part, m_first_of_part⟩ := D_first_of_part
  have b_first_of_part := F_first_of_part.binds (ps := ["table", "strip"]) fun _ _ _ _ _ _ us hl => match us, hl with | [_, _], _ => rfl
  obtain ⟨f_firsts, fd_firsts, F_firsts, m_firsts⟩ := D_firsts
  have b_firsts := F_firsts.binds (ps := ["table"]) fun _ _ _ _ _ _ us hl => match us, hl with | [_], _ => rfl
  obtain ⟨f_leads_out, fd_leads_out, F_leads_out, m_leads_out⟩ := D_leads_out
  have b_leads_out := F_leads_out.binds (ps := ["table", "strip"]) fun _ _ _ _ _ _ us hl => match us, hl with | [_, _], _ => rfl
  obtain ⟨f_is_led_to, fd_is_led_to, F_is_led_to, m_is_led_to⟩ := D_is_led_to
  have b_is_led_to := F_is_led_to.binds (ps := ["table", "strip"]) fun _ _ _ _ _ _ us hl => match us, hl with | [_, _], _ => rfl
  obtain ⟨f_end_firsts, fd_end_firsts, F_end_firsts, m_end_firsts⟩ := D_end_firsts
  have b_end_firsts := F_end_firsts.binds (ps := ["table"]) fun _ _ _ _ _ _ us hl => match us, hl with | [_], _ => rfl
  obtain ⟨f_start_firsts, fd_start_firsts, F_start_firsts, m_start_firsts⟩ := D_start_firsts
  have b_start_firsts := F_start_firsts.binds (ps := ["table"]) fun _ _ _ _ _ _ us hl => match us, hl with | [_], _ => rfl
  obtain ⟨f_needed_at_least, fd_needed_at_least, F_needed_at_least, m_needed_at_least⟩ := D_needed_at_least
  have b_needed_at_least := F_needed_at_least.binds (ps := ["table"]) fun _ _ _ _ _ _ us hl => match us, hl with | [_], _ => rfl
  obtain ⟨f_may_lean, fd_may_lean, F_may_lean, m_may_lean⟩ := D_may_lean
  have b_may_lean := F_may_lean.binds (ps := ["table", "rows", "spot"]) fun _ _ _ _ _ _ us hl => match us, hl with | [_, _, _], _ => rfl
  obtain ⟨f_strip_count, fd_strip_count, F_strip_count, m_strip_count⟩ := D_strip_count
  have b_strip_count := F_strip_count.binds (ps := ["wall"]) fun _ _ _ _ _ _ us hl => match us, hl with | [_], _ => rfl
  obtain ⟨f_ties_without, fd_ties_without, F_ties_without, m_ties_without⟩ := D_ties_without
  have b_ties_without := F_ties_without.binds (ps := ["wall", "spot"]) fun _ _ _ _ _ _ us hl => match us, hl with | [_, _], _ => rfl
  obtain ⟨f_passages_by, fd_passages_by, F_passages_by, m_passages_by⟩ := D_passages_by
  have b_passages_by := F_passages_by.binds (ps := ["wall", "spots"]) fun _ _ _ _ _ _ us hl => match us, hl with | [_, _], _ => rfl
  obtain ⟨f_table_by, fd_table_by, F_table_by, m_table_by⟩ := D_table_by
  have b_table_by := F_table_by.binds (ps := ["wall", "spots"]) fun _ _ _ _ _ _ us hl => match us, hl with | [_, _], _ => rfl
  obtain ⟨f_table_of, fd_table_of, F_table_of, m_table_of⟩ := D_table_of
  have b_table_of := F_table_of.binds (ps := ["wall"]) fun _ _ _ _ _ _ us hl => match us, hl with | [_], _ => rfl
  obtain ⟨f_part_count, fd_part_count, F_part_count, m_part_count⟩ := D_part_count
  have b_part_count := F_part_count.binds (ps := ["wall"]) fun _ _ _ _ _ _ us hl => match us, hl with | [_], _ => rfl
  obtain ⟨f_has_square, fd_has_square, F_has_square, m_has_square⟩ := D_has_square
  have b_has_square := F_has_square.binds (ps := ["wall", "row", "column"]) fun _ _ _ _ _ _ us hl => match us, hl with | [_, _, _], _ => rfl
  obtain ⟨f_has_spot, fd_has_spot, F_has_spot, m_has_spot⟩ := D_has_spot
  have b_has_spot := F_has_spot.binds (ps := ["wall", "spot"]) fun _ _ _ _ _ _ us hl => match us, hl with | [_, _], _ => rfl
  obtain ⟨f_has_strip, fd_has_strip, F_has_strip, m_has_strip⟩ := D_has_strip
  have b_has_strip := F_has_strip.binds (ps := ["wall", "strip"]) fun _ _ _ _ _ _ us hl => match us, hl with | [_, _], _ => rfl
  obtain ⟨f_all_squares, fd_all_squares, F_all_squares, m_all_squares⟩ := D_all_squares
  have b_all_squares := F_all_squares.binds (ps := ["wall"]) fun _ _ _ _ _ _ us hl => match us, hl with | [_], _ => rfl
  obtain ⟨f_all_spots, fd_all_spots, F_all_spots, m_all_spots⟩ := D_all_spots
  have b_all_spots := F_all_spots.binds (ps := ["wall"]) fun _ _ _ _ _ _ us hl => match us, hl with | [_], _ => rfl
  obtain ⟨f_other_kind, fd_other_kind, F_other_kind, m_other_kind⟩ := D_other_kind
  have b_other_kind := F_other_kind.binds (ps := ["spot"]) fun _ _ _ _ _ _ us hl => match us, hl with | [_], _ => rfl
  obtain ⟨f_lean_count, fd_lean_count, F_lean_count, m_lean_count⟩ := D_lean_count
  have b_lean_count := F_lean_count.binds (ps := ["wall", "table"]) fun _ _ _ _ _ _ us hl => match us, hl with | [_, _], _ => rfl
  obtain ⟨f_is_spare, fd_is_spare, F_is_spare, m_is_spare⟩ := D_is_spare
  have b_is_spare := F_is_spare.binds (ps := ["wall", "spot"]) fun _ _ _ _ _ _ us hl => match us, hl with | [_, _], _ => rfl
  obtain ⟨f_first_of_size, fd_first_of_size, F_first_of_size, m_first_of_size⟩ := D_first_of_size
  have b_first_of_size := F_first_of_size.binds (ps := ["table", "rows", "spots", "size"]) fun _ _ _ _ _ _ us hl => match us, hl with | [_, _, _, _], _ => rfl
  obtain ⟨f_fewest, fd_fewest, F_fewest, m_fewest⟩ := D_fewest
  have b_fewest := F_fewest.binds (ps := ["table", "rows", "spots", "most"]) fun _ _ _ _ _ _ us hl => match us, hl with | [_, _, _, _], _ => rfl
  obtain ⟨f_flat, fd_flat, F_flat, m_flat⟩ := D_flat
  have b_flat := F_flat.binds (ps := ["spots"]) fun _ _ _ _ _ _ us hl => match us, hl with | [_], _ => rfl
  obtain ⟨f_in_range, fd_in_range, F_in_range, m_in_range⟩ := D_in_range
  have b_in_range := F_in_range.binds (ps := ["size"]) fun _ _ _ _ _ _ us hl => match us, hl with | [_], _ => rfl
  obtain ⟨f_as_number, fd_as_number, F_as_number, m_as_number⟩ := D_as_number
  have b_as_number := F_as_number.binds (ps := ["truth"]) fun _ _ _ _ _ _ us hl => match us, hl with | [_], _ => rfl
  obtain ⟨f_refusal_if_there, fd_refusal_if_there, F_refusal_if_there, m_refusal_if_there⟩ := D_refusal_if_there
  have b_refusal_if_there := F_refusal_if_there.binds (ps := ["wall", "spot"]) fun _ _ _ _ _ _ us hl => match us, hl with | [_, _], _ => rfl
  obtain ⟨f_refusal_if_missing, fd_refusal_if_missing, F_refusal_if_missing, m_refusal_if_missing⟩ := D_refusal_if_missing
  have b_refusal_if_missing := F_refusal_if_missing.binds (ps := ["wall", "spot"]) fun _ _ _ _ _ _ us hl => match us, hl with | [_, _], _ => rfl
  obtain ⟨f_begin, fd_begin, F_begin, m_begin⟩ := D_begin
  have b_begin := F_begin.binds (ps := ["wall", "given"]) fun _ _ _ _ _ _ us hl => match us, hl with | [_, _], _ => rfl
  obtain ⟨f_tie, fd_tie, F_tie, m_tie⟩ := D_tie
  have b_tie := F_tie.binds (ps := ["wall", "given"]) fun _ _ _ _ _ _ us hl => match us, hl with | [_, _], _ => rfl
  obtain ⟨f_free, fd_free, F_free, m_free⟩ := D_free
  have b_free := F_free.binds (ps := ["wall", "given"]) fun _ _ _ _ _ _ us hl => match us, hl with | [_, _], _ => rfl
  obtain ⟨f_firm, fd_firm, F_firm, m_firm⟩ := D_firm
  have b_firm := F_firm.binds (ps := ["wall", "given"]) fun _ _ _ _ _ _ us hl => match us, hl with | [_, _], _ => rfl
  obtain ⟨f_reach, fd_reach, F_reach, m_reach⟩ := D_reach
  have b_reach := F_reach.binds (ps := ["wall", "given"]) fun _ _ _ _ _ _ us hl => match us, hl with | [_, _], _ => rfl
  obtain ⟨f_part, fd_part, F_part, m_part⟩ := D_part
  have b_part := F_part.binds (ps := ["wall", "given"]) fun _ _ _ _ _ _ us hl => match us, hl with | [_, _], _ => rfl
  obtain ⟨f_parts, fd_parts, F_parts, m_parts⟩ := D_parts
  have b_parts := F_parts.binds (ps := ["wall", "given"]) fun _ _ _ _ _ _ us hl => match us, hl with | [_, _], _ => rfl
  obtain ⟨f_ends, fd_ends, F_ends, m_ends⟩ := D_ends
  have b_ends := F_ends.binds (ps := ["wall", "given"]) fun _ _ _ _ _ _ us hl => match us, hl with | [_, _], _ => rfl
  obtain ⟨f_leans, fd_leans, F_leans, m_leans⟩ := D_leans
  have b_leans := F_leans.binds (ps := ["wall", "given"]) fun _ _ _ _ _ _ us hl => match us, hl with | [_, _], _ => rfl
  obtain ⟨f_all_leans, fd_all_leans, F_all_leans, m_all_leans⟩ := D_all_leans
  have b_all_leans := F_all_leans.binds (ps := ["wall", "given"]) fun _ _ _ _ _ _ us hl => match us, hl with | [_, _], _ => rfl
  obtain ⟨f_lean, fd_lean, F_lean, m_lean⟩ := D_lean
  have b_lean := F_lean.binds (ps := ["wall", "given"]) fun _ _ _ _ _ _ us hl => match us, hl with | [_, _], _ => rfl
  obtain ⟨f_turn, fd_turn, F_turn, m_turn⟩ := D_turn
  have b_turn := F_turn.binds (ps := ["wall", "given"]) fun _ _ _ _ _ _ us hl => match us, hl with | [_, _], _ => rfl
  obtain ⟨f_spare, fd_spare, F_spare, m_spare⟩ := D_spare
  have b_spare := F_spare.binds (ps := ["wall", "given"]) fun _ _ _ _ _ _ us hl => match us, hl with | [_, _], _ => rfl
  obtain ⟨f_spares, fd_spares, F_spares, m_spares⟩ := D_spares
  have b_spares := F_spares.binds (ps := ["wall", "given"]) fun _ _ _ _ _ _ us hl => match us, hl with | [_, _], _ => rfl
  obtain ⟨f_put, fd_put, F_put, m_put⟩ := D_put
  have b_put := F_put.binds (ps := ["wall", "given"]) fun _ _ _ _ _ _ us hl => match us, hl with | [_, _], _ => rfl
  obtain ⟨f_would, fd_would, F_would, m_would⟩ := D_would
  have b_would := F_would.binds (ps := ["wall", "given"]) fun _ _ _ _ _ _ us hl => match us, hl with | [_, _], _ => rfl
  obtain ⟨f_falls, fd_falls, F_falls, m_falls⟩ := D_falls
  have b_falls := F_falls.binds (ps := ["wall", "given"]) fun _ _ _ _ _ _ us hl => match us, hl with | [_, _], _ => rfl
  obtain ⟨f_stiff, fd_stiff, F_stiff, m_stiff⟩ := D_stiff
  have b_stiff := F_stiff.binds (ps := ["wall", "given"]) fun _ _ _ _ _ _ us hl => match us, hl with | [_, _], _ => rfl
  obtain ⟨f_flip, fd_flip, F_flip, m_flip⟩ := D_flip
  have b_flip := F_flip.binds (ps := ["wall", "given"]) fun _ _ _ _ _ _ us hl => match us, hl with | [_, _], _ => rfl
  obtain ⟨f_ties, fd_ties, F_ties, m_ties⟩ := D_ties
  have b_ties := F_ties.binds (ps := ["wall", "given"]) fun _ _ _ _ _ _ us hl => match us, hl with | [_, _], _ => rfl
  obtain ⟨f_state, fd_state, F_state, m_state⟩ := D_state
  have b_state := F_state.binds (ps := ["wall", "given"]) fun _ _ _ _ _ _ us hl => match us, hl with | [_, _], _ => rfl
  obtain ⟨f_behind_call, fd_behind_call, F_behind_call, m_behind_call⟩ := D_behind_call
  have b_behind_call := F_behind_call.binds (ps := ["calls", "at"]) fun _ _ _ _ _ _ us hl => match us, hl with | [_, _], _ => rfl
  obtain ⟨f_answer_one, fd_answer_one, F_answer_one, m_answer_one⟩ := D_answer_one
  have b_answer_one := F_answer_one.binds (ps := ["wall", "number", "given"]) fun _ _ _ _ _ _ us hl => match us, hl with | [_, _, _], _ => rfl
  obtain ⟨f_answers, fd_answers, F_answers, m_answers⟩ := D_answers
  have b_answers := F_answers.binds (ps := ["calls"]) fun _ _ _ _ _ _ us hl => match us, hl with | [_], _ => rfl
  obtain ⟨mC, cl, nR, nCo, nT, fI, fdI, MI, FI⟩ := hC
  have bI := FI.binds (ps := ["self"]) fun _ _ _ _ _ _ us hl => match us, hl with | [_], _ => rfl
  have T : Txt K mg C := { T0 with b_sum := b_sum, b_tuple := b_tuple, cl := cl, nR := nR, nC := nCo, nT := nT, mg_Wall := mC, c_NONE_SUCH := q1, c_NOT_THERE := q2, c_NOT_BEGUN := q3, c_THERE_ALREADY := q4, c_OUT_OF_RANGE := q5, c_NOT_SO := q6, c_MOST_IN_A_LINE := q7, c_KINDS := q8, c_BEGIN := q9, c_TOO_MANY := q10, c_NOT_REFUSED := q11, c_MOST_SQUARES_TO_PUT := q12, c_MOST_TIES_TO_PUT := q13, c_TURN := q14 }
  have T2 : Txt2 K mg C (callsL v) (giveL t) := { T with d_CALLS := dC, d_HOW_MANY_GIVEN := dH }
  have efa : f_answers = fa := by
    rw [m_answers] at hfa
    cases hfa
    rfl
  subst efa
  refine ⟨fd_answers, fun s us hu => ?_, fun base => ?_⟩
  · obtain ⟨oc, od, kV, doc, pm, an, cdv, ct, osl, rfl, lk, hcd⟩ := F_answers.ex
    match us, hu with
    | [_], _ => exact .of_eq rfl
  · skip
    have g_passage := ok_of (P := P) (w := w) (base := base) (ok_passage F_passage) m_passage F_passage b_passage
    have g_met_from := ok_of (P := P) (w := w) (base := base) (ok_met_from F_met_from T0) m_met_from F_met_from b_met_from
    have g_reach_table := ok_of (P := P) (w := w) (base := base) (ok_reach_table F_reach_table T0 g_met_from) m_reach_table F_reach_table b_reach_table
    have g_met_by_either := ok_of (P := P) (w := w) (base := base) (ok_met_by_either F_met_by_either T0) m_met_by_either F_met_by_either b_met_by_either
    have g_table_with := ok_of (P := P) (w := w) (base := base) (ok_table_with F_table_with g_met_by_either) m_table_with F_table_with b_table_with
    have g_reached := ok_of (P := P) (w := w) (base := base) (ok_reached F_reached T0) m_reached F_reached b_reached
    have g_together := ok_of (P := P) (w := w) (base := base) (ok_together F_together T0) m_together F_together b_together
    have g_first_of_part := ok_of (P := P) (w := w) (base := base) (ok_first F_first_of_part T0) m_first_of_part F_first_of_part b_first_of_part
    have g_firsts := ok_of (P := P) (w := w) (base := base) (ok_firsts F_firsts T0 g_first_of_part) m_firsts F_firsts b_firsts
    have g_leads_out := ok_of (P := P) (w := w) (base := base) (ok_leads_out F_leads_out T0) m_leads_out F_leads_out b_leads_out
    have g_is_led_to := ok_of (P := P) (w := w) (base := base) (ok_is_led_to F_is_led_to T0) m_is_led_to F_is_led_to b_is_led_to
    have g_end_firsts := ok_of (P := P) (w := w) (base := base) (ok_end_firsts F_end_firsts g_firsts g_leads_out) m_end_firsts F_end_firsts b_end_firsts
    have g_start_firsts := ok_of (P := P) (w := w) (base := base) (ok_start_firsts F_start_firsts g_firsts g_is_led_to) m_start_firsts F_start_firsts b_start_firsts
    have g_needed_at_least := ok_of (P := P) (w := w) (base := base) (ok_needed_at_least F_needed_at_least T0 g_firsts g_end_firsts g_start_firsts) m_needed_at_least F_needed_at_least b_needed_at_least
    have g_may_lean := ok_of (P := P) (w := w) (base := base) (ok_may_lean F_may_lean g_passage) m_may_lean F_may_lean b_may_lean
    have g_strip_count := ok_of (P := P) (w := w) (base := base) (ok_strip_count F_strip_count T) m_strip_count F_strip_count b_strip_count
    have g_ties_without := ok_of (P := P) (w := w) (base := base) (ok_ties_without F_ties_without T) m_ties_without F_ties_without b_ties_without
    have g_passages_by := ok_of (P := P) (w := w) (base := base) (ok_passages_by F_passages_by T g_passage) m_passages_by F_passages_by b_passages_by
    have g_table_by := ok_of (P := P) (w := w) (base := base) (ok_table_by F_table_by T g_passages_by g_reach_table g_strip_count) m_table_by F_table_by b_table_by
    have g_table_of := ok_of (P := P) (w := w) (base := base) (ok_table_of F_table_of T g_table_by) m_table_of F_table_of b_table_of
    have g_part_count := ok_of (P := P) (w := w) (base := base) (ok_part_count F_part_count T g_table_of g_firsts) m_part_count F_part_count b_part_count
    have g_has_square := ok_of (P := P) (w := w) (base := base) (ok_has_square F_has_square T) m_has_square F_has_square b_has_square
    have g_has_spot := ok_of (P := P) (w := w) (base := base) (ok_has_spot F_has_spot T g_has_square) m_has_spot F_has_spot b_has_spot
    have g_has_strip := ok_of (P := P) (w := w) (base := base) (ok_has_strip F_has_strip T g_strip_count) m_has_strip F_has_strip b_has_strip
    have g_all_squares := ok_of (P := P) (w := w) (base := base) (ok_all_squares F_all_squares T) m_all_squares F_all_squares b_all_squares
    have g_all_spots := ok_of (P := P) (w := w) (base := base) (ok_all_spots F_all_spots T g_all_squares) m_all_spots F_all_spots b_all_spots
    have g_other_kind := ok_of (P := P) (w := w) (base := base) (ok_other_kind F_other_kind) m_other_kind F_other_kind b_other_kind
    have g_lean_count := ok_of (P := P) (w := w) (base := base) (ok_lean_count F_lean_count T g_all_spots g_may_lean) m_lean_count F_lean_count b_lean_count
    have g_is_spare := ok_of (P := P) (w := w) (base := base) (ok_is_spare F_is_spare T g_passage g_passages_by g_ties_without g_met_from g_strip_count) m_is_spare F_is_spare b_is_spare
    have g_first_of_size := ok_of (P := P) (w := w) (base := base) (ok_fos_all (ok_fos F_first_of_size m_first_of_size b_first_of_size T0 g_needed_at_least g_may_lean g_table_with g_passage)) m_first_of_size F_first_of_size b_first_of_size
    have g_fewest := ok_of (P := P) (w := w) (base := base) (ok_fewest F_fewest T0 g_needed_at_least g_first_of_size) m_fewest F_fewest b_fewest
    have g_flat := ok_of (P := P) (w := w) (base := base) (ok_flat F_flat) m_flat F_flat b_flat
    have g_in_range := ok_of (P := P) (w := w) (base := base) (ok_in_range F_in_range T) m_in_range F_in_range b_in_range
    have g_as_number := ok_of (P := P) (w := w) (base := base) (ok_as_number F_as_number) m_as_number F_as_number b_as_number
    have g_refusal_if_there := ok_of (P := P) (w := w) (base := base) (ok_refusal_if_there F_refusal_if_there T g_has_spot) m_refusal_if_there F_refusal_if_there b_refusal_if_there
    have g_refusal_if_missing := ok_of (P := P) (w := w) (base := base) (ok_refusal_if_missing F_refusal_if_missing T g_has_spot) m_refusal_if_missing F_refusal_if_missing b_refusal_if_missing
    have e_begin : ∀ vs H Q E, spOf C 0 vs H Q E → (spBegin C) vs H Q E := by
      rintro vs H Q E ⟨p, l, g, a, is, x, rfl, hD, W, hg, hI, k⟩
      cases hD
      exact ⟨p, l, g, a, _, _, rfl, W, hg, k⟩
    have e_tie : ∀ vs H Q E, spOf C 1 vs H Q E → (spCall C (c3 .tie)) vs H Q E := by
      rintro vs H Q E ⟨p, l, g, a, is, x, rfl, hD, W, hg, hI, k⟩
      cases hD
      exact ⟨p, l, g, a, _, _, rfl, ⟨_, _, _, rfl, rfl⟩, W, hg, hI (by decide), k⟩
    have e_free : ∀ vs H Q E, spOf C 2 vs H Q E → (spCall C (c3 .free)) vs H Q E := by
      rintro vs H Q E ⟨p, l, g, a, is, x, rfl, hD, W, hg, hI, k⟩
      cases hD
      exact ⟨p, l, g, a, _, _, rfl, ⟨_, _, _, rfl, rfl⟩, W, hg, hI (by decide), k⟩
    have e_firm : ∀ vs H Q E, spOf C 3 vs H Q E → (spCall C (c0 .firm)) vs H Q E := by
      rintro vs H Q E ⟨p, l, g, a, is, x, rfl, hD, W, hg, hI, k⟩
      cases hD
      exact ⟨p, l, g, a, _, _, rfl, ⟨rfl, rfl⟩, W, hg, hI (by decide), k⟩
    have e_reach : ∀ vs H Q E, spOf C 4 vs H Q E → (spCall C (c1 .reach)) vs H Q E := by
      rintro vs H Q E ⟨p, l, g, a, is, x, rfl, hD, W, hg, hI, k⟩
      cases hD
      exact ⟨p, l, g, a, _, _, rfl, ⟨_, rfl, rfl⟩, W, hg, hI (by decide), k⟩
    have e_part : ∀ vs H Q E, spOf C 5 vs H Q E → (spCall C (c1 .part)) vs H Q E := by
      rintro vs H Q E ⟨p, l, g, a, is, x, rfl, hD, W, hg, hI, k⟩
      cases hD
      exact ⟨p, l, g, a, _, _, rfl, ⟨_, rfl, rfl⟩, W, hg, hI (by decide), k⟩
    have e_parts : ∀ vs H Q E, spOf C 6 vs H Q E → (spCall C (c0 .parts)) vs H Q E := by
      rintro vs H Q E ⟨p, l, g, a, is, x, rfl, hD, W, hg, hI, k⟩
      cases hD
      exact ⟨p, l, g, a, _, _, rfl, ⟨rfl, rfl⟩, W, hg, hI (by decide), k⟩
    have e_ends : ∀ vs H Q E, spOf C 7 vs H Q E → (spCall C (c0 .ends)) vs H Q E := by
      rintro vs H Q E ⟨p, l, g, a, is, x, rfl, hD, W, hg, hI, k⟩
      cases hD
      exact ⟨p, l, g, a, _, _, rfl, ⟨rfl, rfl⟩, W, hg, hI (by decide), k⟩
    have e_leans : ∀ vs H Q E, spOf C 8 vs H Q E → (spCall C (c3 .leans)) vs H Q E := by
      rintro vs H Q E ⟨p, l, g, a, is, x, rfl, hD, W, hg, hI, k⟩
      cases hD
      exact ⟨p, l, g, a, _, _, rfl, ⟨_, _, _, rfl, rfl⟩, W, hg, hI (by decide), k⟩
    have e_all_leans : ∀ vs H Q E, spOf C 9 vs H Q E → (spCall C (c0 .all)) vs H Q E := by
      rintro vs H Q E ⟨p, l, g, a, is, x, rfl, hD, W, hg, hI, k⟩
      cases hD
      exact ⟨p, l, g, a, _, _, rfl, ⟨rfl, rfl⟩, W, hg, hI (by decide), k⟩
    have e_lean : ∀ vs H Q E, spOf C 10 vs H Q E → (spCall C (c3 .lean)) vs H Q E := by
      rintro vs H Q E ⟨p, l, g, a, is, x, rfl, hD, W, hg, hI, k⟩
      cases hD
      exact ⟨p, l, g, a, _, _, rfl, ⟨_, _, _, rfl, rfl⟩, W, hg, hI (by decide), k⟩
    have e_turn : ∀ vs H Q E, spOf C 11 vs H Q E → (spCall C cT) vs H Q E := by
      rintro vs H Q E ⟨p, l, g, a, is, x, rfl, hD, W, hg, hI, k⟩
      cases hD
      exact ⟨p, l, g, a, _, _, rfl, ⟨_, rfl, rfl⟩, W, hg, hI (by decide), k⟩
    have e_spare : ∀ vs H Q E, spOf C 12 vs H Q E → (spCall C (c3 .spare)) vs H Q E := by
      rintro vs H Q E ⟨p, l, g, a, is, x, rfl, hD, W, hg, hI, k⟩
      cases hD
      exact ⟨p, l, g, a, _, _, rfl, ⟨_, _, _, rfl, rfl⟩, W, hg, hI (by decide), k⟩
    have e_spares : ∀ vs H Q E, spOf C 13 vs H Q E → (spCall C (c0 .spares)) vs H Q E := by
      rintro vs H Q E ⟨p, l, g, a, is, x, rfl, hD, W, hg, hI, k⟩
      cases hD
      exact ⟨p, l, g, a, _, _, rfl, ⟨rfl, rfl⟩, W, hg, hI (by decide), k⟩
    have e_put : ∀ vs H Q E, spOf C 14 vs H Q E → (spCall C (c0 .put)) vs H Q E := by
      rintro vs H Q E ⟨p, l, g, a, is, x, rfl, hD, W, hg, hI, k⟩
      cases hD
      exact ⟨p, l, g, a, _, _, rfl, ⟨rfl, rfl⟩, W, hg, hI (by decide), k⟩
    have e_would : ∀ vs H Q E, spOf C 15 vs H Q E → (spCall C (c3 .would)) vs H Q E := by
      rintro vs H Q E ⟨p, l, g, a, is, x, rfl, hD, W, hg, hI, k⟩
      cases hD
      exact ⟨p, l, g, a, _, _, rfl, ⟨_, _, _, rfl, rfl⟩, W, hg, hI (by decide), k⟩
    have e_falls : ∀ vs H Q E, spOf C 16 vs H Q E → (spCall C (c3 .falls)) vs H Q E := by
      rintro vs H Q E ⟨p, l, g, a, is, x, rfl, hD, W, hg, hI, k⟩
      cases hD
      exact ⟨p, l, g, a, _, _, rfl, ⟨_, _, _, rfl, rfl⟩, W, hg, hI (by decide), k⟩
    have e_stiff : ∀ vs H Q E, spOf C 17 vs H Q E → (spCall C (c2 .stiff)) vs H Q E := by
      rintro vs H Q E ⟨p, l, g, a, is, x, rfl, hD, W, hg, hI, k⟩
      cases hD
      exact ⟨p, l, g, a, _, _, rfl, ⟨_, _, rfl, rfl⟩, W, hg, hI (by decide), k⟩
    have e_flip : ∀ vs H Q E, spOf C 18 vs H Q E → (spCall C (c3 .flip)) vs H Q E := by
      rintro vs H Q E ⟨p, l, g, a, is, x, rfl, hD, W, hg, hI, k⟩
      cases hD
      exact ⟨p, l, g, a, _, _, rfl, ⟨_, _, _, rfl, rfl⟩, W, hg, hI (by decide), k⟩
    have e_ties : ∀ vs H Q E, spOf C 19 vs H Q E → (spCall C (c0 .ties)) vs H Q E := by
      rintro vs H Q E ⟨p, l, g, a, is, x, rfl, hD, W, hg, hI, k⟩
      cases hD
      exact ⟨p, l, g, a, _, _, rfl, ⟨rfl, rfl⟩, W, hg, hI (by decide), k⟩
    have e_state : ∀ vs H Q E, spOf C 20 vs H Q E → (spCall C (c0 .state)) vs H Q E := by
      rintro vs H Q E ⟨p, l, g, a, is, x, rfl, hD, W, hg, hI, k⟩
      cases hD
      exact ⟨p, l, g, a, _, _, rfl, ⟨rfl, rfl⟩, W, hg, hI (by decide), k⟩
    have G : ∀ k is x, TW.Dec k is x → Has P w K mg base (callsL v) k (spOf C k) := fun k is x hD => by
      cases hD with
      | begin_ => exact has_of (by decide) (ok_begin F_begin T g_in_range) m_begin F_begin b_begin (nC 0 "begin" rfl) rfl e_begin
      | tie => exact has_of (by decide) (ok_tie F_tie T g_refusal_if_there g_part_count) m_tie F_tie b_tie (nC 1 "tie" rfl) rfl e_tie
      | free => exact has_of (by decide) (ok_free F_free T g_refusal_if_missing g_part_count) m_free F_free b_free (nC 2 "free" rfl) rfl e_free
      | firm => exact has_of (by decide) (ok_firm F_firm T g_part_count g_as_number) m_firm F_firm b_firm (nC 3 "firm" rfl) rfl e_firm
      | reach => exact has_of (by decide) (ok_reach F_reach T g_has_strip g_table_of g_reached) m_reach F_reach b_reach (nC 4 "reach" rfl) rfl e_reach
      | part => exact has_of (by decide) (ok_part F_part T g_has_strip g_table_of g_together) m_part F_part b_part (nC 5 "part" rfl) rfl e_part
      | parts => exact has_of (by decide) (ok_parts F_parts T g_table_of g_first_of_part) m_parts F_parts b_parts (nC 6 "parts" rfl) rfl e_parts
      | ends => exact has_of (by decide) (ok_ends F_ends T g_table_of g_end_firsts g_start_firsts) m_ends F_ends b_ends (nC 7 "ends" rfl) rfl e_ends
      | leans => exact has_of (by decide) (ok_leans F_leans T g_has_spot g_table_of g_may_lean g_as_number) m_leans F_leans b_leans (nC 8 "leans" rfl) rfl e_leans
      | all => exact has_of (by decide) (ok_all_leans F_all_leans T g_table_of g_may_lean g_as_number g_all_spots) m_all_leans F_all_leans b_all_leans (nC 9 "all_leans" rfl) rfl e_all_leans
      | lean => exact has_of (by decide) (ok_lean F_lean T g_has_spot g_table_of g_may_lean g_as_number g_passage) m_lean F_lean b_lean (nC 10 "lean" rfl) rfl e_lean
      | turn => exact has_of (by decide) (ok_turn F_turn T g_strip_count g_passages_by g_all_squares g_as_number) m_turn F_turn b_turn (nC 11 "turn" rfl) rfl e_turn
      | spare => exact has_of (by decide) (ok_spare F_spare T g_refusal_if_missing g_is_spare g_as_number) m_spare F_spare b_spare (nC 12 "spare" rfl) rfl e_spare
      | spares => exact has_of (by decide) (ok_spares F_spares T g_is_spare g_flat) m_spares F_spares b_spares (nC 13 "spares" rfl) rfl e_spares
      | put => exact has_of (by decide) (ok_put F_put T g_fewest g_table_of g_all_spots g_flat) m_put F_put b_put (nC 14 "put" rfl) rfl e_put
      | would => exact has_of (by decide) (ok_would F_would T g_refusal_if_there g_table_of g_table_with g_passage g_firsts g_lean_count) m_would F_would b_would (nC 15 "would" rfl) rfl e_would
      | falls => exact has_of (by decide) (ok_falls F_falls T g_refusal_if_missing g_table_by g_ties_without g_table_of g_firsts g_lean_count) m_falls F_falls b_falls (nC 16 "falls" rfl) rfl e_falls
      | stiff => exact has_of (by decide) (ok_stiff F_stiff T g_has_square g_table_of g_together g_as_number) m_stiff F_stiff b_stiff (nC 17 "stiff" rfl) rfl e_stiff
      | flip => exact has_of (by decide) (ok_flip F_flip T g_refusal_if_missing g_other_kind g_part_count) m_flip F_flip b_flip (nC 18 "flip" rfl) rfl e_flip
      | ties => exact has_of (by decide) (ok_ties F_ties T g_flat) m_ties F_ties b_ties (nC 19 "ties" rfl) rfl e_ties
      | state => exact has_of (by decide) (ok_state F_state T g_table_of g_needed_at_least) m_state F_state b_state (nC 20 "state" rfl) rfl e_state
    have g_answer_one := ok_of (ok_answer_one F_answer_one T2 G) m_answer_one F_answer_one b_answer_one
    have g_behind_call := ok_of (P := P) (w := w) (base := base) (ok_behind_call F_behind_call T2 (fun k is x hD hk => by
      cases hD with
      | begin_ => exact ⟨_, rfl⟩
      | tie => exact ⟨_, rfl⟩
      | free => exact ⟨_, rfl⟩
      | firm => exact ⟨_, rfl⟩
      | reach => exact ⟨_, rfl⟩
      | part => exact ⟨_, rfl⟩
      | parts => exact ⟨_, rfl⟩
      | ends => exact ⟨_, rfl⟩
      | leans => exact ⟨_, rfl⟩
      | all => exact ⟨_, rfl⟩
      | lean => exact ⟨_, rfl⟩
      | turn => exact absurd rfl hk
      | spare => exact ⟨_, rfl⟩
      | spares => exact ⟨_, rfl⟩
      | put => exact ⟨_, rfl⟩
      | would => exact ⟨_, rfl⟩
      | falls => exact ⟨_, rfl⟩
      | stiff => exact ⟨_, rfl⟩
      | flip => exact ⟨_, rfl⟩
      | ties => exact ⟨_, rfl⟩
      | state => exact ⟨_, rfl⟩)) m_behind_call F_behind_call b_behind_call
    exact ok_answers F_answers T2 MI FI bI g_answer_one g_behind_call
end TP

end

section
set_option Elab.async false
set_option linter.all false
open PySem PySem.W PyProof.Rows
/-! the head lays a second form of each state it passes; of the ten greatest (states of the whole heap, by their names) it would fill two thirds of the compiled file, and the run comes through as fast without: these names are taken, so they are not laid -/
theorem PySem.W.Fast.tw12089305462499920532 : True := trivial
theorem PySem.W.Fast.tw7610502513491627197 : True := trivial
theorem PySem.W.Fast.tw15139887060905999422 : True := trivial
theorem PySem.W.Fast.tw3798197714163583624 : True := trivial
theorem PySem.W.Fast.tw15631201560217513467 : True := trivial
theorem PySem.W.Fast.tw5620633863472612891 : True := trivial
theorem PySem.W.Fast.tw2769817834980906006 : True := trivial
theorem PySem.W.Fast.tw7970166366772495307 : True := trivial
theorem PySem.W.Fast.tw7336286838501915350 : True := trivial
theorem PySem.W.Fast.tw7437275097954681640 : True := trivial
set_option maxRecDepth 100000 in
set_option maxHeartbeats 0 in
theorem PySem.Challenge.cw_tiedwall_s01_answers_holds : PySem.Challenge.rw_tiedwall_s01_answers.Holds := by
  w_on; k_headS; (case hw => exact ⟨[.list [.int 3]], by decide +kernel, by decide +kernel⟩)
  k_fillS
  refine L2.walk_specK (r := PySem.Challenge.rw_tiedwall_s01_answers) (k := 14) (CX := L2.CX0) (ps := ["calls"]) (sp := fun K => TP.spAnswers K) (by decide +kernel) rfl rfl ⟨rfl, by decide, by decide⟩ (fun w h Y => PySem.W.kIn_of Y) ?F ?S (fun _ _ _ _ z => z)
  case F =>
    intro w mg fa h Y KX G hmg
    have D_passage : TP.Def (L2.KOf KX) mg "passage" TP.s_passage := by
      delta L2.KOf
      refine' TP.mk_def KX G ?a ?l ?c ?k
      (case a => k_is); (case l => k_is); (case c => k_is); (case k => k_is)
    have D_met_from : TP.Def (L2.KOf KX) mg "met_from" TP.s_met_from := by
      delta L2.KOf
      refine' TP.mk_def KX G ?a ?l ?c ?k
      (case a => k_is); (case l => k_is); (case c => k_is); (case k => k_is)
    have D_reach_table : TP.Def (L2.KOf KX) mg "reach_table" TP.s_reach_table := by
      delta L2.KOf
      refine' TP.mk_def KX G ?a ?l ?c ?k
      (case a => k_is); (case l => k_is); (case c => k_is); (case k => k_is)
    have D_met_by_either : TP.Def (L2.KOf KX) mg "met_by_either" TP.s_met_by_either := by
      delta L2.KOf
      refine' TP.mk_def KX G ?a ?l ?c ?k
      (case a => k_is); (case l => k_is); (case c => k_is); (case k => k_is)
    have D_table_with : TP.Def (L2.KOf KX) mg "table_with" TP.s_table_with := by
      delta L2.KOf
      refine' TP.mk_def KX G ?a ?l ?c ?k
      (case a => k_is); (case l => k_is); (case c => k_is); (case k => k_is)
    have D_reached : TP.Def (L2.KOf KX) mg "reached" TP.s_reached := by
      delta L2.KOf
      refine' TP.mk_def KX G ?a ?l ?c ?k
      (case a => k_is); (case l => k_is); (case c => k_is); (case k => k_is)
    have D_together : TP.Def (L2.KOf KX) mg "together" TP.s_together := by
      delta L2.KOf
      refine' TP.mk_def KX G ?a ?l ?c ?k
      (case a => k_is); (case l => k_is); (case c => k_is); (case k => k_is)
    have D_first_of_part : TP.Def (L2.KOf KX) mg "first_of_part" TP.s_first_of_part := by
      delta L2.KOf
      refine' TP.mk_def KX G ?a ?l ?c ?k
      (case a => k_is); (case l => k_is); (case c => k_is); (case k => k_is)
    have D_firsts : TP.Def (L2.KOf KX) mg "firsts" TP.s_firsts := by
      delta L2.KOf
      refine' TP.mk_def KX G ?a ?l ?c ?k
      (case a => k_is); (case l => k_is); (case c => k_is); (case k => k_is)
    have D_leads_out : TP.Def (L2.KOf KX) mg "leads_out" TP.s_leads_out := by
      delta L2.KOf
      refine' TP.mk_def KX G ?a ?l ?c ?k
      (case a => k_is); (case l => k_is); (case c => k_is); (case k => k_is)
    have D_is_led_to : TP.Def (L2.KOf KX) mg "is_led_to" TP.s_is_led_to := by
      delta L2.KOf
      refine' TP.mk_def KX G ?a ?l ?c ?k
      (case a => k_is); (case l => k_is); (case c => k_is); (case k => k_is)
    have D_end_firsts : TP.Def (L2.KOf KX) mg "end_firsts" TP.s_end_firsts := by
      delta L2.KOf
      refine' TP.mk_def KX G ?a ?l ?c ?k
      (case a => k_is); (case l => k_is); (case c => k_is); (case k => k_is)
    have D_start_firsts : TP.Def (L2.KOf KX) mg "start_firsts" TP.s_start_firsts := by
      delta L2.KOf
      refine' TP.mk_def KX G ?a ?l ?c ?k
      (case a => k_is); (case l => k_is); (case c => k_is); (case k => k_is)
    have D_needed_at_least : TP.Def (L2.KOf KX) mg "needed_at_least" TP.s_needed_at_least := by
      delta L2.KOf
      refine' TP.mk_def KX G ?a ?l ?c ?k
      (case a => k_is); (case l => k_is); (case c => k_is); (case k => k_is)
    have D_may_lean : TP.Def (L2.KOf KX) mg "may_lean" TP.s_may_lean := by
      delta L2.KOf
      refine' TP.mk_def KX G ?a ?l ?c ?k
      (case a => k_is); (case l => k_is); (case c => k_is); (case k => k_is)
    have D_strip_count : TP.Def (L2.KOf KX) mg "strip_count" TP.s_strip_count := by
      delta L2.KOf
      refine' TP.mk_def KX G ?a ?l ?c ?k
      (case a => k_is); (case l => k_is); (case c => k_is); (case k => k_is)
    have D_ties_without : TP.Def (L2.KOf KX) mg "ties_without" TP.s_ties_without := by
      delta L2.KOf
      refine' TP.mk_def KX G ?a ?l ?c ?k
      (case a => k_is); (case l => k_is); (case c => k_is); (case k => k_is)
    have D_passages_by : TP.Def (L2.KOf KX) mg "passages_by" TP.s_passages_by := by
      delta L2.KOf
      refine' TP.mk_def KX G ?a ?l ?c ?k
      (case a => k_is); (case l => k_is); (case c => k_is); (case k => k_is)
    have D_table_by : TP.Def (L2.KOf KX) mg "table_by" TP.s_table_by := by
      delta L2.KOf
      refine' TP.mk_def KX G ?a ?l ?c ?k
      (case a => k_is); (case l => k_is); (case c => k_is); (case k => k_is)
    have D_table_of : TP.Def (L2.KOf KX) mg "table_of" TP.s_table_of := by
      delta L2.KOf
      refine' TP.mk_def KX G ?a ?l ?c ?k
      (case a => k_is); (case l => k_is); (case c => k_is); (case k => k_is)
    have D_part_count : TP.Def (L2.KOf KX) mg "part_count" TP.s_part_count := by
      delta L2.KOf
      refine' TP.mk_def KX G ?a ?l ?c ?k
      (case a => k_is); (case l => k_is); (case c => k_is); (case k => k_is)
    have D_has_square : TP.Def (L2.KOf KX) mg "has_square" TP.s_has_square := by
      delta L2.KOf
      refine' TP.mk_def KX G ?a ?l ?c ?k
      (case a => k_is); (case l => k_is); (case c => k_is); (case k => k_is)
    have D_has_spot : TP.Def (L2.KOf KX) mg "has_spot" TP.s_has_spot := by
      delta L2.KOf
      refine' TP.mk_def KX G ?a ?l ?c ?k
      (case a => k_is); (case l => k_is); (case c => k_is); (case k => k_is)
    have D_has_strip : TP.Def (L2.KOf KX) mg "has_strip" TP.s_has_strip := by
      delta L2.KOf
      refine' TP.mk_def KX G ?a ?l ?c ?k
      (case a => k_is); (case l => k_is); (case c => k_is); (case k => k_is)
    have D_all_squares : TP.Def (L2.KOf KX) mg "all_squares" TP.s_all_squares := by
      delta L2.KOf
      refine' TP.mk_def KX G ?a ?l ?c ?k
      (case a => k_is); (case l => k_is); (case c => k_is); (case k => k_is)
    have D_all_spots : TP.Def (L2.KOf KX) mg "all_spots" TP.s_all_spots := by
      delta L2.KOf
      refine' TP.mk_def KX G ?a ?l ?c ?k
      (case a => k_is); (case l => k_is); (case c => k_is); (case k => k_is)
    have D_other_kind : TP.Def (L2.KOf KX) mg "other_kind" TP.s_other_kind := by
      delta L2.KOf
      refine' TP.mk_def KX G ?a ?l ?c ?k
      (case a => k_is); (case l => k_is); (case c => k_is); (case k => k_is)
    have D_lean_count : TP.Def (L2.KOf KX) mg "lean_count" TP.s_lean_count := by
      delta L2.KOf
      refine' TP.mk_def KX G ?a ?l ?c ?k
      (case a => k_is); (case l => k_is); (case c => k_is); (case k => k_is)
    have D_is_spare : TP.Def (L2.KOf KX) mg "is_spare" TP.s_is_spare := by
      delta L2.KOf
      refine' TP.mk_def KX G ?a ?l ?c ?k
      (case a => k_is); (case l => k_is); (case c => k_is); (case k => k_is)
    have D_first_of_size : TP.Def (L2.KOf KX) mg "first_of_size" TP.s_first_of_size := by
      delta L2.KOf
      refine' TP.mk_def KX G ?a ?l ?c ?k
      (case a => k_is); (case l => k_is); (case c => k_is); (case k => k_is)
    have D_fewest : TP.Def (L2.KOf KX) mg "fewest" TP.s_fewest := by
      delta L2.KOf
      refine' TP.mk_def KX G ?a ?l ?c ?k
      (case a => k_is); (case l => k_is); (case c => k_is); (case k => k_is)
    have D_flat : TP.Def (L2.KOf KX) mg "flat" TP.s_flat := by
      delta L2.KOf
      refine' TP.mk_def KX G ?a ?l ?c ?k
      (case a => k_is); (case l => k_is); (case c => k_is); (case k => k_is)
    have D_in_range : TP.Def (L2.KOf KX) mg "in_range" TP.s_in_range := by
      delta L2.KOf
      refine' TP.mk_def KX G ?a ?l ?c ?k
      (case a => k_is); (case l => k_is); (case c => k_is); (case k => k_is)
    have D_as_number : TP.Def (L2.KOf KX) mg "as_number" TP.s_as_number := by
      delta L2.KOf
      refine' TP.mk_def KX G ?a ?l ?c ?k
      (case a => k_is); (case l => k_is); (case c => k_is); (case k => k_is)
    have D_refusal_if_there : TP.Def (L2.KOf KX) mg "refusal_if_there" TP.s_refusal_if_there := by
      delta L2.KOf
      refine' TP.mk_def KX G ?a ?l ?c ?k
      (case a => k_is); (case l => k_is); (case c => k_is); (case k => k_is)
    have D_refusal_if_missing : TP.Def (L2.KOf KX) mg "refusal_if_missing" TP.s_refusal_if_missing := by
      delta L2.KOf
      refine' TP.mk_def KX G ?a ?l ?c ?k
      (case a => k_is); (case l => k_is); (case c => k_is); (case k => k_is)
    have D_begin : TP.Def (L2.KOf KX) mg "begin" TP.s_begin := by
      delta L2.KOf
      refine' TP.mk_def KX G ?a ?l ?c ?k
      (case a => k_is); (case l => k_is); (case c => k_is); (case k => k_is)
    have D_tie : TP.Def (L2.KOf KX) mg "tie" TP.s_tie := by
      delta L2.KOf
      refine' TP.mk_def KX G ?a ?l ?c ?k
      (case a => k_is); (case l => k_is); (case c => k_is); (case k => k_is)
    have D_free : TP.Def (L2.KOf KX) mg "free" TP.s_free := by
      delta L2.KOf
      refine' TP.mk_def KX G ?a ?l ?c ?k
      (case a => k_is); (case l => k_is); (case c => k_is); (case k => k_is)
    have D_firm : TP.Def (L2.KOf KX) mg "firm" TP.s_firm := by
      delta L2.KOf
      refine' TP.mk_def KX G ?a ?l ?c ?k
      (case a => k_is); (case l => k_is); (case c => k_is); (case k => k_is)
    have D_reach : TP.Def (L2.KOf KX) mg "reach" TP.s_reach := by
      delta L2.KOf
      refine' TP.mk_def KX G ?a ?l ?c ?k
      (case a => k_is); (case l => k_is); (case c => k_is); (case k => k_is)
    have D_part : TP.Def (L2.KOf KX) mg "part" TP.s_part := by
      delta L2.KOf
      refine' TP.mk_def KX G ?a ?l ?c ?k
      (case a => k_is); (case l => k_is); (case c => k_is); (case k => k_is)
    have D_parts : TP.Def (L2.KOf KX) mg "parts" TP.s_parts := by
      delta L2.KOf
      refine' TP.mk_def KX G ?a ?l ?c ?k
      (case a => k_is); (case l => k_is); (case c => k_is); (case k => k_is)
    have D_ends : TP.Def (L2.KOf KX) mg "ends" TP.s_ends := by
      delta L2.KOf
      refine' TP.mk_def KX G ?a ?l ?c ?k
      (case a => k_is); (case l => k_is); (case c => k_is); (case k => k_is)
    have D_leans : TP.Def (L2.KOf KX) mg "leans" TP.s_leans := by
      delta L2.KOf
      refine' TP.mk_def KX G ?a ?l ?c ?k
      (case a => k_is); (case l => k_is); (case c => k_is); (case k => k_is)
    have D_all_leans : TP.Def (L2.KOf KX) mg "all_leans" TP.s_all_leans := by
      delta L2.KOf
      refine' TP.mk_def KX G ?a ?l ?c ?k
      (case a => k_is); (case l => k_is); (case c => k_is); (case k => k_is)
    have D_lean : TP.Def (L2.KOf KX) mg "lean" TP.s_lean := by
      delta L2.KOf
      refine' TP.mk_def KX G ?a ?l ?c ?k
      (case a => k_is); (case l => k_is); (case c => k_is); (case k => k_is)
    have D_turn : TP.Def (L2.KOf KX) mg "turn" TP.s_turn := by
      delta L2.KOf
      refine' TP.mk_def KX G ?a ?l ?c ?k
      (case a => k_is); (case l => k_is); (case c => k_is); (case k => k_is)
    have D_spare : TP.Def (L2.KOf KX) mg "spare" TP.s_spare := by
      delta L2.KOf
      refine' TP.mk_def KX G ?a ?l ?c ?k
      (case a => k_is); (case l => k_is); (case c => k_is); (case k => k_is)
    have D_spares : TP.Def (L2.KOf KX) mg "spares" TP.s_spares := by
      delta L2.KOf
      refine' TP.mk_def KX G ?a ?l ?c ?k
      (case a => k_is); (case l => k_is); (case c => k_is); (case k => k_is)
    have D_put : TP.Def (L2.KOf KX) mg "put" TP.s_put := by
      delta L2.KOf
      refine' TP.mk_def KX G ?a ?l ?c ?k
      (case a => k_is); (case l => k_is); (case c => k_is); (case k => k_is)
    have D_would : TP.Def (L2.KOf KX) mg "would" TP.s_would := by
      delta L2.KOf
      refine' TP.mk_def KX G ?a ?l ?c ?k
      (case a => k_is); (case l => k_is); (case c => k_is); (case k => k_is)
    have D_falls : TP.Def (L2.KOf KX) mg "falls" TP.s_falls := by
      delta L2.KOf
      refine' TP.mk_def KX G ?a ?l ?c ?k
      (case a => k_is); (case l => k_is); (case c => k_is); (case k => k_is)
    have D_stiff : TP.Def (L2.KOf KX) mg "stiff" TP.s_stiff := by
      delta L2.KOf
      refine' TP.mk_def KX G ?a ?l ?c ?k
      (case a => k_is); (case l => k_is); (case c => k_is); (case k => k_is)
    have D_flip : TP.Def (L2.KOf KX) mg "flip" TP.s_flip := by
      delta L2.KOf
      refine' TP.mk_def KX G ?a ?l ?c ?k
      (case a => k_is); (case l => k_is); (case c => k_is); (case k => k_is)
    have D_ties : TP.Def (L2.KOf KX) mg "ties" TP.s_ties := by
      delta L2.KOf
      refine' TP.mk_def KX G ?a ?l ?c ?k
      (case a => k_is); (case l => k_is); (case c => k_is); (case k => k_is)
    have D_state : TP.Def (L2.KOf KX) mg "state" TP.s_state := by
      delta L2.KOf
      refine' TP.mk_def KX G ?a ?l ?c ?k
      (case a => k_is); (case l => k_is); (case c => k_is); (case k => k_is)
    have D_behind_call : TP.Def (L2.KOf KX) mg "behind_call" TP.s_behind_call := by
      delta L2.KOf
      refine' TP.mk_def KX G ?a ?l ?c ?k
      (case a => k_is); (case l => k_is); (case c => k_is); (case k => k_is)
    have D_answer_one : TP.Def (L2.KOf KX) mg "answer_one" TP.s_answer_one := by
      delta L2.KOf
      refine' TP.mk_def KX G ?a ?l ?c ?k
      (case a => k_is); (case l => k_is); (case c => k_is); (case k => k_is)
    have D_answers : TP.Def (L2.KOf KX) mg "answers" TP.s_answers := by
      delta L2.KOf
      refine' TP.mk_def KX G ?a ?l ?c ?k
      (case a => k_is); (case l => k_is); (case c => k_is); (case k => k_is)
    have E0 : ∃ C, TP.ClsAt (L2.KOf KX) mg C := by
      delta L2.KOf
      refine' TP.mk_cls KX G ?aC ?a1 ?i1 ?l1 ?c1 ?k1 ?pg ?hd ?po ?sa ?mk ?kc ?nR ?nC ?nT
      (case aC => k_is); (case a1 => k_is); (case i1 => k_is); (case l1 => k_is); (case c1 => k_is); (case k1 => k_is)
      (case pg => k_is); (case hd => k_is); (case po => k_is); (case sa => k_is); (case mk => k_is); (case kc => k_is); (case nR => k_is); (case nC => k_is); (case nT => k_is)
    have E1 : ∃ v, TR.TopD (L2.KOf KX) mg "CALLS" (TP.callsL v) ∧ ∀ i x, TP.callNames[i]? = some x → mg x = some (v i) := by
      delta L2.KOf
      refine' TP.mk_calls KX G ?a ?l ?z ?n ?y
      (case a => k_is); (case l => k_is); (case z => rfl); (case n => rfl); (case y => kernel_rfl)
    have E2 : ∃ t, TR.TopD (L2.KOf KX) mg "HOW_MANY_GIVEN" (TP.giveL t) := by
      delta L2.KOf
      refine' TP.mk_give KX G ?a ?l ?z ?n
      (case a => k_is); (case l => k_is); (case z => rfl); (case n => rfl)
    have B_range : mg "range" = none := by
      refine TP.mg_no KX G ?a
      (case a => k_is)
    have B_len : mg "len" = none := by
      refine TP.mg_no KX G ?a
      (case a => k_is)
    have B_any : mg "any" = none := by
      refine TP.mg_no KX G ?a
      (case a => k_is)
    have B_sum : mg "sum" = none := by
      refine TP.mg_no KX G ?a
      (case a => k_is)
    have B_tuple : mg "tuple" = none := by
      refine TP.mg_no KX G ?a
      (case a => k_is)
    have B_all : mg "all" = none := by
      refine TP.mg_no KX G ?a
      (case a => k_is)
    have B_zip : mg "zip" = none := by
      refine TP.mg_no KX G ?a
      (case a => k_is)
    have B_max : mg "max" = none := by
      refine TP.mg_no KX G ?a
      (case a => k_is)
    have B_enumerate : mg "enumerate" = none := by
      refine TP.mg_no KX G ?a
      (case a => k_is)
    have C_KINDS : ∃ t, mg "KINDS" = some (.int (2) t) := by
      refine' TP.mk_int KX G ?a
      (case a => k_is)
    have C_NONE_SUCH : ∃ t, mg "NONE_SUCH" = some (.int (-2) t) := by
      refine' TP.mk_int KX G ?a
      (case a => k_is)
    have C_NOT_THERE : ∃ t, mg "NOT_THERE" = some (.int (-6) t) := by
      refine' TP.mk_int KX G ?a
      (case a => k_is)
    have C_NOT_BEGUN : ∃ t, mg "NOT_BEGUN" = some (.int (-11) t) := by
      refine' TP.mk_int KX G ?a
      (case a => k_is)
    have C_THERE_ALREADY : ∃ t, mg "THERE_ALREADY" = some (.int (-17) t) := by
      refine' TP.mk_int KX G ?a
      (case a => k_is)
    have C_OUT_OF_RANGE : ∃ t, mg "OUT_OF_RANGE" = some (.int (-22) t) := by
      refine' TP.mk_int KX G ?a
      (case a => k_is)
    have C_TOO_MANY : ∃ t, mg "TOO_MANY" = some (.int (-28) t) := by
      refine' TP.mk_int KX G ?a
      (case a => k_is)
    have C_NOT_SO : ∃ t, mg "NOT_SO" = some (.int (-33) t) := by
      refine' TP.mk_int KX G ?a
      (case a => k_is)
    have C_NOT_REFUSED : ∃ t, mg "NOT_REFUSED" = some (.int (0) t) := by
      refine' TP.mk_int KX G ?a
      (case a => k_is)
    have C_MOST_IN_A_LINE : ∃ t, mg "MOST_IN_A_LINE" = some (.int (5) t) := by
      refine' TP.mk_int KX G ?a
      (case a => k_is)
    have C_MOST_SQUARES_TO_PUT : ∃ t, mg "MOST_SQUARES_TO_PUT" = some (.int (9) t) := by
      refine' TP.mk_int KX G ?a
      (case a => k_is)
    have C_MOST_TIES_TO_PUT : ∃ t, mg "MOST_TIES_TO_PUT" = some (.int (4) t) := by
      refine' TP.mk_int KX G ?a
      (case a => k_is)
    have C_BEGIN : ∃ t, mg "BEGIN" = some (.int (0) t) := by
      refine' TP.mk_int KX G ?a
      (case a => k_is)
    have C_TURN : ∃ t, mg "TURN" = some (.int (11) t) := by
      refine' TP.mk_int KX G ?a
      (case a => k_is)
    obtain ⟨C, hC⟩ := E0
    obtain ⟨v, dC, nC⟩ := E1
    obtain ⟨t, dH⟩ := E2
    obtain ⟨fd, b, k⟩ := TP.all_mk hmg D_passage D_met_from D_reach_table D_met_by_either D_table_with D_reached D_together D_first_of_part D_firsts D_leads_out D_is_led_to D_end_firsts D_start_firsts D_needed_at_least D_may_lean D_strip_count D_ties_without D_passages_by D_table_by D_table_of D_part_count D_has_square D_has_spot D_has_strip D_all_squares D_all_spots D_other_kind D_lean_count D_is_spare D_first_of_size D_fewest D_flat D_in_range D_as_number D_refusal_if_there D_refusal_if_missing D_begin D_tie D_free D_firm D_reach D_part D_parts D_ends D_leans D_all_leans D_lean D_turn D_spare D_spares D_put D_would D_falls D_stiff D_flip D_ties D_state D_behind_call D_answer_one D_answers hC ⟨B_range, B_len, B_any, B_all, B_zip, B_max, B_enumerate⟩ B_sum B_tuple C_NONE_SUCH C_NOT_THERE C_NOT_BEGUN C_THERE_ALREADY C_OUT_OF_RANGE C_NOT_SO C_MOST_IN_A_LINE C_KINDS C_BEGIN C_TOO_MANY C_NOT_REFUSED C_MOST_SQUARES_TO_PUT C_MOST_TIES_TO_PUT C_TURN dC nC dH
    exact ⟨fd, b, fun base _ _ => k base⟩
  case S =>
    intro K H xs a hO hwi hask hx
    cases hx with
    | cons h1 h2 =>
      cases h2
      cases h1 with
      | lst hs ha =>
        have e := L2.ints_dw a.1 _ ha
        subst e
        have q : ((PySem.W.Codec.inLen 0 5600 a.1 && a.1.all (PySem.W.Codec.inInt 0 4294967295)) && true) = true := hwi
        rw [Bool.and_eq_true, Bool.and_eq_true] at q
        obtain ⟨raw, h1, h2, h3, h4⟩ := TW.asked_raw (show PySu124.answers_asked a.1 = true from hask)
        rw [TW.answers_play h1] at h4
        refine ⟨_, a.1, raw, rfl, TP.arg_of hO hs, fun z hz => ?_, h1, h4, fun p H' hp => ?_⟩
        · exact (PySem.W.Codec.inInt_iff.mp (List.all_eq_true.mp q.1.2 z hz)).1
        · show L2.Dw K H' (.ref p) (PySem.W.WData.list ((PySu124.answers a.1).map PySem.W.WData.int))
          rw [TW.answers_play h1]
          exact .lst (L2.SqL.of hp) (L2.dw_ints _)

end
