import PyProof.Rows.All
import Wide.All
import OpenK.AllK
import Wide.FinOn
import Lean
import PyProof.EqAt
import PyProof.EqKinds
import PyProof.TupleCall
import PyProof.NeKinds
import PyProof.ZipIter
import PyProof.CompFree
import PyProof.SumWalkG
import PyProof.EnumFor
import PyProof.EnumMake
import PyProof.EnumStmt
import KE.KDictLaws
import KE.KDictList
import KE.KDictSum
import KE.KTryMore
import KE.RegKIsAll
import PySem.Challenge.RW_pipeworks_k08_refused
set_option Elab.async false
set_option linter.all false
set_option maxRecDepth 100000
namespace L2
open PySem PySem.Spec PyProof.Rows
abbrev Key := Sum Int Str
def keyIs : Key → Value → Bool
  | .inl k, v => Value.isInt k v
  | .inr x, v => Value.isStrOf x v
def keyH (w : World) : Key → Int
  | .inl k => hashInt k
  | .inr x => hashStr w x
theorem keyIs_shape : ∀ {k : Key} {v : Value}, keyIs k v = true → (∃ i t, k = Sum.inl i ∧ v = Value.int i t) ∨ (∃ x t, k = Sum.inr x ∧ v = Value.str x t)
  | .inl i, v, h => by
    obtain ⟨t, e⟩ := Value.isInt_shape (k := i) (v := v) h
    exact .inl ⟨i, t, rfl, e⟩
  | .inr x, v, h => by
    obtain ⟨t, e⟩ := Value.isStrOf_shape (x := x) (v := v) h
    exact .inr ⟨x, t, rfl, e⟩
theorem keyIs_int (i : Int) (t : Tok) : keyIs (.inl i) (.int i t) = true := by simp [keyIs, Value.isInt]
theorem keyIs_str (x : Str) (t : Tok) : keyIs (.inr x) (.str x t) = true := by simp [keyIs, Value.isStrOf]
theorem key_ll (a b : Int) : decide ((Sum.inl a : Key) = Sum.inl b) = (a == b) := by
  by_cases e : a = b
  · subst e; simp
  · have h : ¬ (Sum.inl a : Key) = Sum.inl b := fun q => e (Sum.inl.inj q)
    rw [decide_eq_false h]
    exact (beq_eq_false_iff_ne.mpr e).symm
theorem key_rr (a b : Str) : decide ((Sum.inr a : Key) = Sum.inr b) = decide (a = b) := by
  by_cases e : a = b
  · subst e; simp
  · have h : ¬ (Sum.inr a : Key) = Sum.inr b := fun q => e (Sum.inr.inj q)
    rw [decide_eq_false h, decide_eq_false e]
theorem key_lr (a : Int) (b : Str) : decide ((Sum.inl a : Key) = Sum.inr b) = false := decide_eq_false (fun q => nomatch q)
theorem key_rl (a : Str) (b : Int) : decide ((Sum.inr a : Key) = Sum.inl b) = false := decide_eq_false (fun q => nomatch q)
def mixKind (prog : Program) (w : World) : PySem.KeyKind prog w Key where
  is := keyIs
  hash := keyH w
  inj := fun v a b ha hb => by
    rcases keyIs_shape ha with ⟨i, t, rfl, rfl⟩ | ⟨x, t, rfl, rfl⟩
    · rcases keyIs_shape hb with ⟨j, u, rfl, e⟩ | ⟨y, u, rfl, e⟩
      · injection e with e1 _; rw [e1]
      · exact nomatch e
    · rcases keyIs_shape hb with ⟨j, u, rfl, e⟩ | ⟨y, u, rfl, e⟩
      · exact nomatch e
      · injection e with e1 _; rw [e1]
  byValue := fun k v h => by
    rcases keyIs_shape h with ⟨i, t, rfl, rfl⟩ | ⟨x, t, rfl, rfl⟩ <;> rfl
  pyHash := fun hv h => by
    rcases keyIs_shape hv with ⟨i, t, rfl, rfl⟩ | ⟨x, t, rfl, rfl⟩
    · exact wpAny_pyHash_int h
    · exact wpAny_pyHash_str h
  eqBool := fun hu hv h => by
    rcases keyIs_shape hu with ⟨i, t, rfl, rfl⟩ | ⟨x, t, rfl, rfl⟩
    · rcases keyIs_shape hv with ⟨j, u, rfl, rfl⟩ | ⟨y, u, rfl, rfl⟩
      · rw [key_ll] at h; exact wpAny_eqBool_int h
      · rw [key_lr] at h; exact SeqAt.EqAt.int_str i t y u _ _ _ _ h
    · rcases keyIs_shape hv with ⟨j, u, rfl, rfl⟩ | ⟨y, u, rfl, rfl⟩
      · rw [key_rl] at h; exact SeqAt.EqAt.str_int x t j u _ _ _ _ h
      · rw [key_rr] at h; exact wpAny_eqBool_str h
  «strs» := fun k x t v h => by
    rcases keyIs_shape h with ⟨i, u, rfl, e⟩ | ⟨y, u, rfl, e⟩
    · exact nomatch e
    · injection e with e1 _
      subst e1
      cases v <;> rfl
theorem mixKind_is (prog : Program) (w : World) (k : Key) (v : Value) : (mixKind prog w).is k v = keyIs k v := rfl
theorem mixKind_int (prog : Program) (w : World) (i : Int) (t : Tok) : (mixKind prog w).is (.inl i) (.int i t) = true := keyIs_int i t
theorem mixKind_str (prog : Program) (w : World) (x : Str) (t : Tok) : (mixKind prog w).is (.inr x) (.str x t) = true := keyIs_str x t
end L2
namespace L2
open PySem PySem.Spec PyProof.Rows
inductive V where
  | non | bl (b : Bool) | int (i : Int) | str (x : Str) | byt (b : Array UInt8) | flt (b : UInt64) | ref (a : Addr) | ty (n : String)
  deriving DecidableEq
def RelV : V → Value → Prop
  | .non, u => u = Value.none
  | .bl b, u => u = Value.bool b
  | .int i, u => ∃ t, u = Value.int i t
  | .str x, u => ∃ t, u = Value.str x t
  | .byt b, u => ∃ t, u = Value.bytes b t
  | .flt b, u => ∃ t, u = Value.float b t
  | .ref a, u => u = Value.ref a
  | .ty n, u => u = Value.type n
abbrev Vals : List V → List Value → Prop := Paired RelV
theorem Vals.length {xs : List V} {us : List Value} (r : Vals xs us) : xs.length = us.length := Paired.length r
theorem Vals.get : ∀ {xs : List V} {us : List Value} {i : Nat} {x : V}, Vals xs us → xs[i]? = some x → ∃ u, us[i]? = some u ∧ RelV x u
  | _, _, _, _, .nil, e => by simp at e
  | _, _, 0, _, .cons r _, e => by simp at e; subst e; exact ⟨_, rfl, r⟩
  | _, _, i + 1, x, .cons _ t, e => by
    obtain ⟨u, h1, h2⟩ := Vals.get (i := i) (x := x) t (by simpa using e)
    exact ⟨u, by simpa using h1, h2⟩
theorem Vals.set {x : V} {u : Value} (r : RelV x u) : ∀ {xs : List V} {us : List Value} (i : Nat), Vals xs us → Vals (xs.set i x) (us.set i u)
  | _, _, _, .nil => .nil
  | _, _, 0, .cons _ t => .cons r t
  | _, _, i + 1, .cons q t => .cons q (Vals.set r i t)
theorem Vals.append : ∀ {xs ys : List V} {us ws : List Value}, Vals xs us → Vals ys ws → Vals (xs ++ ys) (us ++ ws)
  | _, _, _, _, .nil, s => s
  | _, _, _, _, .cons r t, s => .cons r (Vals.append t s)
theorem Vals.take : ∀ {xs : List V} {us : List Value} (n : Nat), Vals xs us → Vals (xs.take n) (us.take n)
  | _, _, 0, _ => .nil
  | _, _, _ + 1, .nil => .nil
  | _, _, n + 1, .cons r t => .cons r (Vals.take n t)
theorem Vals.drop : ∀ {xs : List V} {us : List Value} (n : Nat), Vals xs us → Vals (xs.drop n) (us.drop n)
  | _, _, 0, r => r
  | _, _, _ + 1, .nil => .nil
  | _, _, n + 1, .cons _ t => Vals.drop n t
theorem Vals.none_of : ∀ {xs : List V} {us : List Value} {i : Nat}, Vals xs us → xs[i]? = none → us[i]? = none := fun {xs us i} r e => by
  have h1 := r.length
  have h2 : xs.length ≤ i := List.getElem?_eq_none_iff.mp e
  exact List.getElem?_eq_none_iff.mpr (by omega)
def RelO : Option V → Option Value → Prop
  | some v, some u => RelV v u
  | none, none => True
  | _, _ => False
def KV {κ : Type} : List (κ × V) → List (κ × Value) → Prop := Paired fun (p : κ × V) (q : κ × Value) => p.1 = q.1 ∧ RelV p.2 q.2
def kV : Key → V
  | .inl i => .int i
  | .inr x => .str x
inductive HO where
    | lst (xs : List V)
    | tup (xs : List V)
    | dK (kvs : List (Key × V)) | dT (kvs : List (List Key × V))
    | set (S : Int → Bool) (n : Nat)
    | ins (C dx : Addr) (fs : List (Str × V))
    | own (x : Addr)
    | xd (fs : List (Str × V))
    | met (f x : Addr)
    | rng (lo hi : Int)
    | frz (o : Obj) (u : HO)
    | tbl (ps : Array Value)
    | ext (φ : Heap → Prop)
abbrev Hp := Addr → Option HO
def upd (H : Hp) (a : Addr) (o : HO) : Hp := fun b => if b = a then some o else H b
theorem upd_same {H : Hp} {a : Addr} {o : HO} : upd H a o a = some o := by unfold upd; rw [if_pos rfl]
theorem upd_ne {H : Hp} {a b : Addr} {o : HO} (h : b ≠ a) : upd H a o b = H b := by unfold upd; rw [if_neg h]
theorem upd_upd {H : Hp} {a : Addr} {o u : HO} : upd (upd H a o) a u = upd H a u := by
  funext b; unfold upd; split <;> rfl
theorem ne_of {H : Hp} {a b : Addr} {o u : HO} (h : H a = some o) (h' : H b = some u) (d : o ≠ u) : a ≠ b := by
  intro e; subst e; rw [h] at h'; exact d (Option.some.inj h')
theorem ne_of_none {H : Hp} {a b : Addr} {o : HO} (h : H a = some o) (h' : H b = none) : a ≠ b := by
  intro e; subst e; rw [h] at h'; cases h'
section
variable (P : Program) (w : World)
def ObjOk (H : Hp) (h : Heap) (a : Addr) : HO → Prop
  | .lst xs => xs.length ≤ sizeLine ∧ ∃ (its : List Value) (n : Nat), Vals xs its ∧ h.get? a = some { cls := .type "list", data := .seq its.toArray n }
  | .tup xs => xs.length ≤ sizeLine ∧ ∃ its : List Value, Vals xs its ∧ IsTup h a its.toArray
  | .dK kvs => kvs.length ≤ sizeLine ∧ (a == sysModules) = false ∧ ∃ vs, KV kvs vs ∧ h.DictOf (mixKind P w) a vs
  | .dT kvs => kvs.length ≤ sizeLine ∧ (a == sysModules) = false ∧ ∃ xs : List (List Key × Addr × Value),
      Paired (fun (p : List Key × V) (q : List Key × Addr × Value) => p.1 = q.1 ∧ H q.2.1 = some (.tup (p.1.map kV)) ∧ RelV p.2 q.2.2) kvs xs ∧
      ∃ o es ep, h.get? a = some o ∧ o.ExactDict ∧ o.data = .dict es ep ∧ es.toList = xs.map (entryOfKey (tupleKind (mixKind P w))) ∧ (xs.map (·.1)).Nodup
  | .set S n => h.SetOf (intKind P w) a S n
  | .ins C dx fs => H dx = some (.own a) ∧ fs.length ≤ 1000 ∧ dx ≠ a ∧ h.get? a = some (PySem.W.instObj C dx) ∧
      ∃ mA, h.Ns1 dx mA ∧ (∀ f, RelO (fs.lookup f) (mA f)) ∧ PySem.Within mA (fs.map (·.1))
  | .own _ => ∃ o, h.get? a = some o
  | .xd fs => ∃ mA, h.Ns1 a mA ∧ ∀ f, RelO (fs.lookup f) (mA f)
  | .rng lo hi => ∃ t u v, h.get? a = some { cls := .type "range", data := .fields #[.int lo t, .int hi u, .int 1 v] }
  | .frz o u => h.get? a = some o ∧ ObjOk H h a u
  | .tbl ps => h.get? a = some { cls := .none, data := .fields ps }
  | .met f x => h.get? a = some (PySem.W.methodObj (.ref f) (.ref x))
  | .ext φ => φ h ∧ (∃ o, h.get? a = some o) ∧ ∀ h1 h2 : Heap, φ h1 → (∀ o, h1.get? a = some o → h2.get? a = some o) → φ h2
def HOk (H : Hp) (h : Heap) : Prop := ∀ a o, H a = some o → ObjOk P w H h a o
end
section
variable {P : Program} {w : World} {H H' : Hp} {h h' : Heap} {a : Addr} {o : HO}
theorem ObjOk.lt (x : ObjOk P w H h a o) : a < h.objs.size := by
  cases o with
  | lst xs => obtain ⟨_, _, _, _, e⟩ := x; exact Heap.lt_size e
  | tup xs => obtain ⟨_, _, _, p⟩ := x; exact p.lt
  | dK kvs => obtain ⟨_, _, _, _, o, _, _, e, _⟩ := x; exact Heap.lt_size e
  | dT kvs => obtain ⟨_, _, _, _, o, _, _, e, _⟩ := x; exact Heap.lt_size e
  | set S n => obtain ⟨o, _, _, _, e, _⟩ := x; exact Heap.lt_size e
  | ins C dx fs => obtain ⟨_, _, _, e, _⟩ := x; exact Heap.lt_size e
  | own y => obtain ⟨_, e⟩ := x; exact Heap.lt_size e
  | xd fs => obtain ⟨_, ⟨_, _, _, e, _⟩, _⟩ := x; exact Heap.lt_size e
  | rng lo hi => obtain ⟨_, _, _, e⟩ := x; exact Heap.lt_size e
  | frz ob u => obtain ⟨e, _⟩ := x; exact Heap.lt_size e
  | tbl ps => exact Heap.lt_size (show h.get? a = some _ from x)
  | met f y => exact Heap.lt_size (show h.get? a = some _ from x)
  | ext φ => obtain ⟨_, ⟨_, e⟩, _⟩ := x; exact Heap.lt_size e
theorem Paired.mapP {α β : Type} {F G : α → β → Prop} : ∀ {l₁ : List α} {l₂ : List β}, Paired F l₁ l₂ → (∀ a b, F a b → G a b) → Paired G l₁ l₂
  | _, _, .nil, _ => .nil
  | _, _, .cons r t, f => .cons (f _ _ r) (Paired.mapP t f)
theorem Paired.imp' {α β : Type} {F G : α → β → Prop} (f : ∀ a b, F a b → G a b) {l₁ : List α} {l₂ : List β} (r : Paired F l₁ l₂) : Paired G l₁ l₂ := Paired.mapP r f
theorem ObjOk.stay (x : ObjOk P w H h a o) (k : ∀ b u, (b = a ∨ H b = some (.own a)) → h.get? b = some u → h'.get? b = some u)
    (ho : ∀ b, H b = some (.own a) → H' b = some (.own a)) (ht : ∀ b xs, H b = some (.tup xs) → H' b = some (.tup xs)) : ObjOk P w H' h' a o := by
  induction o with
  | lst xs => obtain ⟨z, its, n, r, e⟩ := x; exact ⟨z, its, n, r, k _ _ (.inl rfl) e⟩
  | tup xs => obtain ⟨z, its, r, ob, e, c⟩ := x; exact ⟨z, its, r, ob, k _ _ (.inl rfl) e, c⟩
  | dK kvs => obtain ⟨z, y, vs, r, ob, es, ep, e, c⟩ := x; exact ⟨z, y, vs, r, ob, es, ep, k _ _ (.inl rfl) e, c⟩
  | dT kvs =>
    obtain ⟨z, y, xs, r, ob, es, ep, e, c⟩ := x
    exact ⟨z, y, xs, Paired.mapP r fun p q z => ⟨z.1, ht _ _ z.2.1, z.2.2⟩, ob, es, ep, k _ _ (.inl rfl) e, c⟩
  | set S n => obtain ⟨ob, es, ep, t, e, c⟩ := x; exact ⟨ob, es, ep, t, k _ _ (.inl rfl) e, c⟩
  | ins C dx fs =>
    obtain ⟨d, z, ne, e, mA, ⟨od, es, ep, e2, c⟩, r⟩ := x
    exact ⟨ho _ d, z, ne, k _ _ (.inl rfl) e, mA, ⟨od, es, ep, k _ _ (.inr d) e2, c⟩, r⟩
  | own y => obtain ⟨ob, e⟩ := x; exact ⟨ob, k _ _ (.inl rfl) e⟩
  | xd fs => obtain ⟨mA, ⟨od, es, ep, e, c⟩, r⟩ := x; exact ⟨mA, ⟨od, es, ep, k _ _ (.inl rfl) e, c⟩, r⟩
  | rng lo hi => obtain ⟨t, u, v, e⟩ := x; exact ⟨t, u, v, k _ _ (.inl rfl) e⟩
  | frz ob u ih => obtain ⟨e, q⟩ := x; exact ⟨k _ _ (.inl rfl) e, ih q⟩
  | tbl ps =>
    have e : h.get? a = some { cls := .none, data := .fields ps } := x
    show h'.get? a = some { cls := .none, data := .fields ps }
    exact k a _ (.inl rfl) e
  | met f y =>
    have e : h.get? a = some (PySem.W.methodObj (.ref f) (.ref y)) := x
    show h'.get? a = some (PySem.W.methodObj (.ref f) (.ref y))
    exact k a _ (.inl rfl) e
  | ext φ => obtain ⟨p, ⟨o, e⟩, st⟩ := x; exact ⟨st _ _ p fun o q => k _ _ (.inl rfl) q, ⟨o, k _ _ (.inl rfl) e⟩, st⟩
theorem HOk.lt (x : HOk P w H h) (e : H a = some o) : a < h.objs.size := (x a o e).lt
theorem HOk.fresh (x : HOk P w H h) (e : h.objs.size ≤ a) : H a = none := by
  cases q : H a with
  | none => rfl
  | some u => exact absurd (Nat.lt_of_lt_of_le (x.lt q) e) (Nat.lt_irrefl _)
theorem HOk.kept (x : HOk P w H h) (k : ∀ b u, h.get? b = some u → h'.get? b = some u) : HOk P w H h' := fun a o e =>
  (x a o e).stay (fun b u _ q => k b u q) (fun _ q => q) fun _ _ q => q
theorem HOk.laid (x : HOk P w H h) (k : ∀ b u, h.get? b = some u → h'.get? b = some u) (hp : h.objs.size ≤ a) (new : ObjOk P w (upd H a o) h' a o) : HOk P w (upd H a o) h' := fun b u e => by
  have hn := x.fresh hp
  by_cases hb : b = a
  · subst hb; rw [upd_same] at e; cases e; exact new
  · rw [upd_ne hb] at e
    exact (x b u e).stay (fun c v _ q => k c v q) (fun c q => by rw [upd_ne (ne_of_none q hn)]; exact q) fun c xs q => by rw [upd_ne (ne_of_none q hn)]; exact q
end
def Rd (H : Hp) (a : Addr) (u : HO) : Prop := H a = some u ∨ ∃ o, H a = some (.frz o u)
theorem Rd.of {H : Hp} {a : Addr} {u : HO} (h : H a = some u) : Rd H a u := .inl h
theorem Rd.ok {P : Program} {w : World} {H : Hp} {h : Heap} {a : Addr} {u : HO} (r : Rd H a u) (x : HOk P w H h) : ObjOk P w H h a u := by
  rcases r with r | ⟨o, r⟩
  · exact x a u r
  · obtain ⟨_, q⟩ := x a _ r
    exact q
def Mut : Option HO → Prop
  | some (.lst _) => True
  | some (.dK _) => True
  | some (.dT _) => True
  | some (.set _ _) => True
  | some (.ins _ _ _) => True
  | some (.ext _) => True
  | _ => False
section
variable {P : Program} {w : World} {H : Hp} {h h' : Heap} {x e : Addr} {o' : HO}
theorem HOk.write (ok : HOk P w H h) (mu : Mut (H x)) (he : e = x ∨ H e = some (.own x)) (k : ∀ b u, b ≠ e → h.get? b = some u → h'.get? b = some u) (heo : ∃ u, h'.get? e = some u)
    (new : ObjOk P w (upd H x o') h' x o') : HOk P w (upd H x o') h' := fun b u q => by
  have nown : ∀ c y, H c = some (.own y) → c ≠ x := fun c y r z => by subst z; rw [r] at mu; exact mu
  have ntup : ∀ c xs, H c = some (.tup xs) → c ≠ x := fun c xs r z => by subst z; rw [r] at mu; exact mu
  by_cases hb : b = x
  · subst hb; rw [upd_same] at q; cases q; exact new
  · rw [upd_ne hb] at q
    by_cases hbe : b = e
    · have q' : H b = some (.own x) := by
        rcases he with z | z
        · exact absurd (hbe.trans z) hb
        · rw [hbe]; exact z
      rw [q] at q'; cases q'
      obtain ⟨v, hv⟩ := heo
      exact ⟨v, by rw [hbe]; exact hv⟩
    · refine (ok b u q).stay (fun c v hc r => k c v ?_ r) (fun c r => by rw [upd_ne (nown c b r)]; exact r) fun c xs r => by rw [upd_ne (ntup c xs r)]; exact r
      rcases hc with rfl | hc
      · exact hbe
      · rintro rfl
        rcases he with z | z
        · exact nown c b hc z
        · rw [hc] at z; cases z; exact hb rfl
end
structure Un (fs ex : List Addr) (H H' : Hp) (h h' : Heap) : Prop where
  keep : ∀ b o, h.get? b = some o → H b = none → b ∉ fs → b ∉ ex → h'.get? b = some o
  slot : ∀ b o, h.get? b = some o → H b = none → b ∈ fs → b ∉ ex → ∃ sl, h'.get? b = some { o with slots := sl }
  free : ∀ b o, h.get? b = some o → H b = none → b ∉ ex → H' b = none
  there : ∀ b o, h.get? b = some o → b ∉ ex → ∃ o', h'.get? b = some o'
  tups : ∀ b xs, H b = some (.tup xs) → H' b = some (.tup xs)
  frzs : ∀ b o u, H b = some (.frz o u) → H' b = some (.frz o u)
  tbls : ∀ b ps, H b = some (.tbl ps) → ∃ more, H' b = some (.tbl (ps ++ more))
section
variable {fs fs' ex ex' : List Addr} {H H1 H2 : Hp} {h h1 h2 h' : Heap} {a x e : Addr} {o : HO}
theorem Un.any (u : Un fs ex H H1 h h1) {b : Addr} {ob : Obj} (q : h.get? b = some ob) (n : H b = none) (hx : b ∉ ex) : ∃ sl, h1.get? b = some { ob with slots := sl } := by
  by_cases hb : b ∈ fs
  · exact u.slot b ob q n hb hx
  · exact ⟨ob.slots, u.keep b ob q n hb hx⟩
theorem Un.trans (a : Un fs ex H H1 h h1) (b : Un fs ex H1 H2 h1 h2) : Un fs ex H H2 h h2 where
  keep := fun c ob q n hc hx => b.keep c ob (a.keep c ob q n hc hx) (a.free c ob q n hx) hc hx
  slot := fun c ob q n hc hx => by
    obtain ⟨sl, e1⟩ := a.slot c ob q n hc hx
    obtain ⟨sl', e2⟩ := b.slot c _ e1 (a.free c ob q n hx) hc hx
    exact ⟨sl', e2⟩
  free := fun c ob q n hx => by
    obtain ⟨o', e1⟩ := a.there c ob q hx
    exact b.free c o' e1 (a.free c ob q n hx) hx
  there := fun c ob q hx => by
    obtain ⟨o', e1⟩ := a.there c ob q hx
    exact b.there c o' e1 hx
  tups := fun c xs q => b.tups c xs (a.tups c xs q)
  frzs := fun c ob xs q => b.frzs c ob xs (a.frzs c ob xs q)
  tbls := fun c ps q => by
    obtain ⟨m1, e1⟩ := a.tbls c ps q
    obtain ⟨m2, e2⟩ := b.tbls c _ e1
    exact ⟨m1 ++ m2, by rw [e2, Array.append_assoc]⟩
theorem Un.kept (k : ∀ b u, h.get? b = some u → h'.get? b = some u) : Un fs ex H H h h' :=
  ⟨fun b ob q _ _ _ => k b ob q, fun b ob q _ _ _ => ⟨ob.slots, k b ob q⟩, fun _ _ _ n _ => n, fun b ob q _ => ⟨ob, k b ob q⟩, fun _ _ q => q, fun _ _ _ q => q, fun _ ps q => ⟨#[], by rw [q]; simp⟩⟩
theorem Un.refl : Un fs ex H H h h := Un.kept fun _ _ q => q
theorem Un.laid (k : ∀ b u, h.get? b = some u → h'.get? b = some u) (hp : h.objs.size ≤ a) (hn : H a = none) : Un fs ex H (upd H a o) h h' where
  keep := fun b u q _ _ _ => k b u q
  slot := fun b u q _ _ _ => ⟨u.slots, k b u q⟩
  free := fun b u q n _ => by rw [upd_ne (Nat.ne_of_lt (Nat.lt_of_lt_of_le (Heap.lt_size q) hp))]; exact n
  there := fun b u q _ => ⟨u, k b u q⟩
  tups := fun b xs q => by rw [upd_ne (ne_of_none q hn)]; exact q
  frzs := fun b u xs q => by rw [upd_ne (ne_of_none q hn)]; exact q
  tbls := fun b ps q => ⟨#[], by rw [upd_ne (ne_of_none q hn), q]; simp⟩
theorem Un.write (mu : Mut (H x)) (he : e = x ∨ H e = some (.own x)) (k : ∀ b u, b ≠ e → h.get? b = some u → h'.get? b = some u) (heo : ∃ u, h'.get? e = some u) : Un fs ex H (upd H x o) h h' := by
  have hx : ∀ b, H b = none → b ≠ x := fun b n z => by subst z; rw [n] at mu; exact mu
  have hb : ∀ b, H b = none → b ≠ e := fun b n z => by
    subst z
    rcases he with r | r
    · exact hx b n r
    · rw [n] at r; cases r
  have hm : ∀ b u, H b = some u → ¬ Mut (some u) → b ≠ x := fun b u q nm z => by subst z; rw [q] at mu; exact nm mu
  refine ⟨fun b u q n _ _ => k b u (hb b n) q, fun b u q n _ _ => ⟨u.slots, k b u (hb b n) q⟩, fun b u q n _ => by rw [upd_ne (hx b n)]; exact n, fun b u q _ => ?_,
    fun b xs q => by rw [upd_ne (hm b _ q fun z => z)]; exact q, fun b u xs q => by rw [upd_ne (hm b _ q fun z => z)]; exact q, fun b ps q => ⟨#[], by rw [upd_ne (hm b _ q fun z => z), q]; simp⟩⟩
  by_cases hbe : b = e
  · subst hbe; exact heo
  · exact ⟨u, k b u hbe q⟩
theorem Un.mono (u : Un fs ex H H1 h h1) (hs : ∀ b ∈ fs, b ∈ fs') (hx : ∀ b ∈ ex, b ∈ ex') : Un fs' ex' H H1 h h1 :=
  ⟨fun b ob q n hb he => u.keep b ob q n (fun z => hb (hs b z)) fun z => he (hx b z), fun _ _ q n _ he => u.any q n fun z => he (hx _ z), fun b ob q n he => u.free b ob q n fun z => he (hx b z), fun b ob q he => u.there b ob q fun z => he (hx b z), u.tups, u.frzs, u.tbls⟩
end
def trk (h : Heap) (H : Hp) : List Addr := (List.range h.objs.size).filter fun a => (H a).isSome
def hidT (h : Heap) (H : Hp) : Heap := PySem.W.hideAll h (trk h H)
theorem hidT_size (h : Heap) (H : Hp) : (hidT h H).objs.size = h.objs.size := PySem.W.hideAll_size _ _
theorem hidT_get {h : Heap} {H : Hp} {b : Addr} {o : Obj} (e : h.get? b = some o) (n : H b = none) : (hidT h H).get? b = some o :=
  PySem.W.hideAll_get _ e fun hm => by
    have q : (H b).isSome = true := (List.mem_filter.mp hm).2
    rw [n] at q; simp at q
theorem of_hidT {h : Heap} {H : Hp} {b : Addr} {o : Obj} (e : (hidT h H).get? b = some o) : h.get? b = some o ∧ H b = none := by
  have e' : h.get? b = some o := PySem.W.of_hideAll (trk h H) e
  refine ⟨e', ?_⟩
  cases q : H b with
  | none => rfl
  | some x =>
    have hm : b ∈ trk h H := List.mem_filter.mpr ⟨List.mem_range.mpr (Heap.lt_size e'), by simp [q]⟩
    have z : (hidT h H).get? b = none := PySem.W.hideAll_none (trk h H) hm
    rw [z] at e; cases e
def allNews (g h : Heap) (L : Addr) : List (Addr × Obj) := (List.range h.objs.size).filterMap fun a => if a = L ∨ (g.get? a).isSome = true then none else (h.get? a).map fun o => (a, o)
theorem mem_allNews {g h : Heap} {L a : Addr} {o : Obj} (h1 : a ≠ L) (h2 : g.get? a = none) (h3 : h.get? a = some o) : (a, o) ∈ allNews g h L :=
  List.mem_filterMap.mpr ⟨a, List.mem_range.mpr (Heap.lt_size h3), by simp [h1, h2, h3]⟩
theorem of_mem_allNews {g h : Heap} {L : Addr} {p : Addr × Obj} (hp : p ∈ allNews g h L) : p.1 ≠ L ∧ g.get? p.1 = none ∧ h.get? p.1 = some p.2 := by
  obtain ⟨b, _, e⟩ := List.mem_filterMap.mp hp
  split at e
  · cases e
  · rename_i hn
    cases q : h.get? b with
    | none => rw [q] at e; simp at e
    | some u =>
      rw [q] at e
      simp only [Option.map_some, Option.some.injEq] at e
      subst e
      refine ⟨fun z => hn (.inl z), ?_, q⟩
      show g.get? b = none
      cases r : g.get? b with
      | none => rfl
      | some v => exact (hn (.inr (by simp [r]))).elim
def rest (g h : Heap) (L d : Addr) : List (Addr × Obj) := (allNews g h L).filter fun p => decide (p.1 ≠ d)
theorem rest_ne {g h : Heap} {L d : Addr} : ∀ p ∈ rest g h L d, p.1 ≠ d := fun p hp => of_decide_eq_true (List.mem_filter.mp hp).2
theorem mem_rest {g h : Heap} {L d a : Addr} {o : Obj} (h1 : a ≠ L) (h2 : g.get? a = none) (h3 : h.get? a = some o) (h4 : a ≠ d) : (a, o) ∈ rest g h L d :=
  List.mem_filter.mpr ⟨mem_allNews h1 h2 h3, decide_eq_true h4⟩
theorem news_all {g h : Heap} {L : Addr} : News g L h (allNews g h L) := fun p hp => let ⟨a, b, c⟩ := of_mem_allNews hp; ⟨c, a, b⟩
theorem news_at {g h : Heap} {L d : Addr} {o : Obj} (h1 : d ≠ L) (h2 : g.get? d = none) (h3 : h.get? d = some o) : News g L h ((d, o) :: rest g h L d) := fun p hp => by
  rcases List.mem_cons.mp hp with rfl | hp
  · exact ⟨h3, h1, h2⟩
  · exact news_all p (List.mem_filter.mp hp).1
theorem kept_of_news {g h h' : Heap} {L d : Addr} {m : Str → Option Value} (k : ∀ b o, g.get? b = some o → h.get? b = some o) (F : Fr g L h' m) (N : News g L h' (rest g h L d)) :
    ∀ b o, b ≠ L → b ≠ d → h.get? b = some o → h'.get? b = some o := fun b o h1 h2 e => by
  cases q : g.get? b with
  | some u =>
    have := k b u q
    rw [e] at this; cases this
    exact F.keep b _ q
  | none => exact (N (b, o) (mem_rest h1 q e h2)).1
end L2
namespace L2
open PySem PySem.Spec PyProof.Rows
structure Mod (K : PySem.W.Frag) (mg : Str → Option Value) (base : Heap) : Prop where
  kin : K.In base
  glob : base.Ns mainGlobals mg
  blt : ∃ mb, base.Ns builtinsNs mb ∧ ∀ x : Str, x ≠ "__name__" → mb x = bootBuiltins x
  nolimit : base.NoLimit
structure Cx where
  prog : Program
  w : World
  K : PySem.W.Frag
  mg : Str → Option Value
  base : Heap
  A : Around
  N : List Str
  s₀ : Shared
  H₀ : Hp
  env : Env
  outer : List Env
  stack : List Env
  ex : List Addr
  fn : Str → Bool
  calm : Bool
  pn : List (Addr × Obj)
  xe : Value → Shared → Prop
def frs (l : List Env) : List Addr := l.filterMap (·.frame)
abbrev Cx.fs (X : Cx) : List Addr := frs X.outer
def Vis (sc : Scope) (x : Str) : Prop := sc.names.lookup x = some .local ∨ sc.names.lookup x = some .cell ∨ sc.names.lookup x = some .free
def Loc (sc : Scope) (x : Str) : Prop := sc.names.lookup x = some .local ∨ sc.names.lookup x = some .cell
def Look (env : Env) (h : Heap) (m : Str → Option Value) (x : Str) (u : Value) : Prop :=
  (env.kindOf x = some .local ∧ m x = some u) ∨ ((env.kindOf x = some .cell ∨ env.kindOf x = some .free) ∧ ∃ c, env.cells.lookup x = some c ∧ h.IsCell c (some u))
structure Cx.Ok (X : Cx) : Prop where
  mod : Mod X.K X.mg X.base
  kind : X.env.scope.kind = .function
  glob : X.env.globals = mainGlobals
  blt : X.env.builtins = builtinsNs
  above : X.s₀.heap.objs.size ≤ X.env.locals
  inj : ∀ x y c, X.env.cells.lookup x = some c → X.env.cells.lookup y = some c → x = y
  has : ∀ x, (X.env.kindOf x = some .cell ∨ X.env.kindOf x = some .free) → ∃ c, X.env.cells.lookup x = some c
  cab : ∀ x c, X.fn x = true → X.env.cells.lookup x = some c → X.s₀.heap.objs.size ≤ c
  hd : X.calm = true → X.A.handled = none
  frames : X.A.frames = some X.stack
  stk : X.stack = X.outer ∨ (X.stack = X.env :: X.outer ∧ X.env.frame = some X.env.locals)
  exf : ∀ b ∈ X.ex, b ≠ X.env.locals ∧ ∀ x c, X.env.cells.lookup x = some c → c ≠ b
  bs : ∀ b o, X.base.get? b = some o → X.s₀.heap.get? b = some o ∧ X.H₀ b = none
  bsz : X.base.objs.size ≤ X.s₀.heap.objs.size
  noex : ∀ b o, X.base.get? b = some o → b ∉ X.ex
  exfs : ∀ b ∈ X.ex, b ∉ X.fs
  funs : X.s₀.heap.FunFrames X.base X.outer
  frf : ∀ b ∈ X.fs, X.H₀ b = none
structure Inv (X : Cx) (pins : List (Addr × Obj)) (σ : List (Option V)) (H : Hp) (s : Shared) : Prop where
  ok : X.Ok
  os : s.os = X.s₀.os
  bare : AllBare s.gens
  base : Un X.fs X.ex X.H₀ H X.s₀.heap s.heap
  loc : ∃ m, s.heap.Ns X.env.locals m ∧ ∀ (i : Nat) (x : Str) (v : V), X.N[i]? = some x → σ[i]? = some (some v) → Vis X.env.scope x → ∃ u, RelV v u ∧ Look X.env s.heap m x u
  cell : ∀ x c, X.env.cells.lookup x = some c → ∃ v, s.heap.IsCell c v
  free : H X.env.locals = none
  freeC : ∀ x c, X.env.cells.lookup x = some c → H c = none
  pin : ∀ p ∈ X.pn ++ pins, s.heap.get? p.1 = some p.2 ∧ H p.1 = none ∧ p.1 ≠ X.env.locals ∧ p.1 ∉ X.fs ∧ ∀ v, p.2.data ≠ .cell v
  hok : HOk X.prog X.w H s.heap
  len : σ.length = X.N.length
section
variable {X : Cx} {pins : List (Addr × Obj)} {σ : List (Option V)} {H H' : Hp} {s : Shared} {h' : Heap}
theorem Cx.Ok.nofr (ok : X.Ok) {b : Addr} {o : Obj} (e : X.base.get? b = some o) : b ∉ X.fs := fun hb => by
  have := (ok.funs.mem hb).1
  rw [e] at this; cases this
theorem Inv.bs (I : Inv X pins σ H s) : ∀ b o, X.base.get? b = some o → s.heap.get? b = some o ∧ H b = none := fun b o e =>
  ⟨I.base.keep b o (I.ok.bs b o e).1 (I.ok.bs b o e).2 (I.ok.nofr e) (I.ok.noex b o e), I.base.free b o (I.ok.bs b o e).1 (I.ok.bs b o e).2 (I.ok.noex b o e)⟩
theorem Inv.bk (I : Inv X pins σ H s) : ∀ b o, X.base.get? b = some o → s.heap.get? b = some o := fun b o e => (I.bs b o e).1
theorem Inv.mod (I : Inv X pins σ H s) : Mod X.K X.mg X.base := I.ok.mod
theorem Inv.kIn (I : Inv X pins σ H s) : X.K.In s.heap := I.ok.mod.kin.keeps I.bk
theorem Inv.nolimit (I : Inv X pins σ H s) : s.heap.NoLimit := I.ok.mod.nolimit.keeps I.bk
theorem Inv.fr (I : Inv X pins σ H s) : ∃ m, Fr X.base X.env.locals s.heap m :=
  let ⟨m, hn, _⟩ := I.loc
  ⟨m, hn, I.bk, Nat.le_trans I.ok.bsz I.ok.above⟩
theorem Inv.lt (I : Inv X pins σ H s) : X.env.locals < s.heap.objs.size := let ⟨_, hn, _⟩ := I.loc; hn.lt
theorem Inv.sz (I : Inv X pins σ H s) : X.s₀.heap.objs.size ≤ s.heap.objs.size := Nat.le_trans I.ok.above (Nat.le_of_lt I.lt)
theorem Inv.nofs (I : Inv X pins σ H s) {a : Addr} (h : s.heap.objs.size ≤ a) : a ∉ X.fs := fun hb => by
  obtain ⟨_, o, ho, _⟩ := I.ok.funs.mem hb
  exact absurd (Nat.lt_of_lt_of_le (Heap.lt_size ho) (Nat.le_trans I.sz h)) (Nat.lt_irrefl _)
theorem Inv.cne (I : Inv X pins σ H s) : ∀ x c, X.env.cells.lookup x = some c → c ≠ X.env.locals := fun x c e z => by
  obtain ⟨v, o, ho, hd⟩ := I.cell x c e
  obtain ⟨m, ⟨o', es, ep, ho', hd', _⟩, _⟩ := I.loc
  rw [z, ho'] at ho; cases ho; rw [hd'] at hd; cases hd
theorem Inv.funs (I : Inv X pins σ H s) : s.heap.FunFrames X.base X.outer := by
  have all : ∀ (l : List Env), (∀ b ∈ frs l, b ∈ X.fs) → X.s₀.heap.FunFrames X.base l → s.heap.FunFrames X.base l := by
    intro l
    induction l with
    | nil => intro _ _; trivial
    | cons env r ih =>
      intro hs hl
      obtain ⟨hk, ⟨L, o, hf, hn, ho, hd⟩, hr⟩ := hl
      have hL : L ∈ X.fs := hs L (by unfold frs; rw [List.filterMap_cons, hf]; exact List.mem_cons_self)
      obtain ⟨sl, e⟩ := I.base.slot L o ho (I.ok.frf L hL) hL fun z => I.ok.exfs L z hL
      exact ⟨hk, ⟨L, _, hf, hn, e, hd⟩, ih (fun b hb => hs b (by unfold frs; rw [List.filterMap_cons, hf]; exact List.mem_cons_of_mem _ hb)) hr⟩
  exact all X.outer (fun _ hb => hb) I.ok.funs
theorem Inv.stack (I : Inv X pins σ H s) : s.heap.FunFrames X.base X.stack := by
  rcases I.ok.stk with e | ⟨e, hf⟩
  · rw [e]; exact I.funs
  · rw [e]
    obtain ⟨m, hn, _⟩ := I.loc
    refine .cons (by rw [I.ok.kind]; decide) hf hn ?_ I.funs
    exact Heap.get?_none_of_le (Nat.le_trans I.ok.bsz I.ok.above)
theorem Inv.stkSub (I : Inv X pins σ H s) : ∀ b ∈ frs X.stack, b ∈ X.env.locals :: X.fs := fun b hb => by
  rcases I.ok.stk with e | ⟨e, hf⟩
  · rw [e] at hb; exact List.mem_cons_of_mem _ hb
  · rw [e] at hb
    unfold frs at hb
    rw [List.filterMap_cons, hf] at hb
    exact hb
theorem Inv.stkFree (I : Inv X pins σ H s) : ∀ b ∈ frs X.stack, H b = none := fun b hb => by
  rcases List.mem_cons.mp (I.stkSub b hb) with e | hb
  · rw [e]; exact I.free
  · obtain ⟨_, o, ho, _⟩ := I.ok.funs.mem hb
    exact I.base.free b o ho (I.ok.frf b hb) fun z => I.ok.exfs b z hb
theorem Inv.step {g' : Array GenState} {t' : Nat} {d' : Drawn} {ch : List Addr} (I : Inv X pins σ H s)
    (hch : ∀ b ∈ ch, (b ∈ X.ex ∨ X.s₀.heap.objs.size ≤ b) ∧ b ≠ X.env.locals ∧ (∀ x c, X.env.cells.lookup x = some c → c ≠ b) ∧ ∀ p ∈ X.pn ++ pins, p.1 ≠ b)
    (keep : ∀ b o, b ≠ X.env.locals → b ∉ X.fs → b ∉ ch → s.heap.get? b = some o → H b = none → h'.get? b = some o)
    (slot : ∀ b o, b ≠ X.env.locals → b ∈ X.fs → b ∉ ch → s.heap.get? b = some o → H b = none → ∃ sl, h'.get? b = some { o with slots := sl }) (free : ∀ b o, b ∉ ch → s.heap.get? b = some o → H b = none → H' b = none)
    (there : ∀ b o, b ∉ ch → s.heap.get? b = some o → ∃ o', h'.get? b = some o')
    (tups : ∀ b xs, H b = some (.tup xs) → H' b = some (.tup xs)) (frzs : ∀ b o u, H b = some (.frz o u) → H' b = some (.frz o u)) (tbls : ∀ b ps, H b = some (.tbl ps) → ∃ more, H' b = some (.tbl (ps ++ more)))
    (ns : ∀ m, s.heap.Ns X.env.locals m → h'.Ns X.env.locals m) (hok : HOk X.prog X.w H' h') (hg : AllBare g') :
    Inv X pins σ H' { s with heap := h', gens := g', drawn := d', toks := t' } := by
  have neL : ∀ b o, X.s₀.heap.get? b = some o → b ≠ X.env.locals := fun b o e => Nat.ne_of_lt (Nat.lt_of_lt_of_le (Heap.lt_size e) I.ok.above)
  have neC : ∀ b o, X.s₀.heap.get? b = some o → b ∉ X.ex → b ∉ ch := fun b o e hx hb => by
    rcases (hch b hb).1 with z | z
    · exact hx z
    · exact absurd (Nat.lt_of_lt_of_le (Heap.lt_size e) z) (Nat.lt_irrefl _)
  have cellK : ∀ x c, X.env.cells.lookup x = some c → ∀ v, s.heap.IsCell c v → h'.IsCell c v := fun x c e v ⟨o, ho, hd⟩ => by
    have nch : c ∉ ch := fun z => (hch c z).2.2.1 x c e rfl
    by_cases hc : c ∈ X.fs
    · obtain ⟨sl, q⟩ := slot c o (I.cne x c e) hc nch ho (I.freeC x c e)
      exact ⟨_, q, hd⟩
    · exact ⟨o, keep c o (I.cne x c e) hc nch ho (I.freeC x c e), hd⟩
  refine ⟨I.ok, I.os, hg, ⟨fun b o e n hb hx => ?_, fun b o e n hb hx => ?_, fun b o e n hx => ?_, fun b o e hx => ?_, fun b xs e => tups b xs (I.base.tups b xs e), fun b o xs e => frzs b o xs (I.base.frzs b o xs e), fun b ps e => ?_⟩, ?_, fun x c e => ?_, ?_, fun x c e => ?_, fun p hp => ?_, hok, I.len⟩
  · exact keep b o (neL b o e) hb (neC b o e hx) (I.base.keep b o e n hb hx) (I.base.free b o e n hx)
  · obtain ⟨sl, e1⟩ := I.base.slot b o e n hb hx
    obtain ⟨sl', e2⟩ := slot b _ (neL b o e) hb (neC b o e hx) e1 (I.base.free b o e n hx)
    exact ⟨sl', e2⟩
  · obtain ⟨o', e1⟩ := I.base.there b o e hx
    exact free b o' (neC b o e hx) e1 (I.base.free b o e n hx)
  · obtain ⟨o', e1⟩ := I.base.there b o e hx
    exact there b o' (neC b o e hx) e1
  · obtain ⟨m1, e1⟩ := I.base.tbls b ps e
    obtain ⟨m2, e2⟩ := tbls b _ e1
    exact ⟨m1 ++ m2, by rw [e2, Array.append_assoc]⟩
  · obtain ⟨m, hn, hl⟩ := I.loc
    refine ⟨m, ns m hn, fun i x v e1 e2 e3 => ?_⟩
    obtain ⟨u, r, l⟩ := hl i x v e1 e2 e3
    refine ⟨u, r, ?_⟩
    rcases l with l | ⟨k, c, e, z⟩
    · exact .inl l
    · exact .inr ⟨k, c, e, cellK x c e _ z⟩
  · obtain ⟨v, z⟩ := I.cell x c e
    exact ⟨v, cellK x c e v z⟩
  · obtain ⟨m, ⟨o, _, _, ho, _⟩, _⟩ := I.loc
    exact free _ o (fun z => (hch _ z).2.1 rfl) ho I.free
  · obtain ⟨v, o, ho, hd⟩ := I.cell x c e
    exact free c o (fun z => (hch c z).2.2.1 x c e rfl) ho (I.freeC x c e)
  · obtain ⟨e, n, ne, nf, d⟩ := I.pin p hp
    have nch : p.1 ∉ ch := fun z => (hch p.1 z).2.2.2 p hp rfl
    exact ⟨keep p.1 p.2 ne nf nch e n, free p.1 p.2 nch e n, ne, nf, d⟩
theorem Inv.un {t' : Nat} (I : Inv X pins σ H s) (u : Un X.fs [] H H' s.heap h') (hok : HOk X.prog X.w H' h') : Inv X pins σ H' { s with heap := h', toks := t' } := by
  obtain ⟨m, ⟨o, es, ep, ho, r⟩, _⟩ := id I.loc
  obtain ⟨sl, hL⟩ := u.any ho I.free (by simp)
  exact I.step (g' := s.gens) (d' := s.drawn) (ch := []) (fun _ z => nomatch z) (fun b o _ hb _ e n => u.keep b o e n hb (by simp)) (fun b o _ hb _ e n => u.slot b o e n hb (by simp)) (fun b o _ e n => u.free b o e n (by simp)) (fun b o _ e => u.there b o e (by simp)) u.tups u.frzs u.tbls (fun m' hm => by
    obtain ⟨o', es', ep', ho', r'⟩ := hm
    rw [ho] at ho'; cases ho'
    exact ⟨_, es', ep', hL, r'⟩) hok I.bare
theorem Inv.call {g' : Array GenState} {t' : Nat} {d' : Drawn} {ch : List Addr} (I : Inv X pins σ H s) (u : Un (frs X.stack) ch H H' s.heap h') (hok : HOk X.prog X.w H' h') (hg : AllBare g')
    (hch : ∀ b ∈ ch, (b ∈ X.ex ∨ X.s₀.heap.objs.size ≤ b) ∧ b ≠ X.env.locals ∧ (∀ x c, X.env.cells.lookup x = some c → c ≠ b) ∧ ∀ p ∈ X.pn ++ pins, p.1 ≠ b) :
    Inv X pins σ H' { s with heap := h', gens := g', drawn := d', toks := t' } := by
  obtain ⟨m, ⟨o, es, ep, ho, r⟩, _⟩ := id I.loc
  obtain ⟨sl, hL⟩ := u.any ho I.free fun z => (hch _ z).2.1 rfl
  exact I.step (ch := ch) hch (fun b o hL hb hc e n => u.keep b o e n (fun z => (List.mem_cons.mp (I.stkSub b z)).elim hL hb) hc) (fun b o _ _ hc e n => u.any e n hc) (fun b o hc e n => u.free b o e n hc) (fun b o hc e => u.there b o e hc) u.tups u.frzs u.tbls (fun m' hm => by
    obtain ⟨o', es', ep', ho', r'⟩ := hm
    rw [ho] at ho'; cases ho'
    exact ⟨_, es', ep', hL, r'⟩) hok hg
theorem Inv.turned {t' : Nat} {it : Addr} (I : Inv X pins σ H s) (k : ∀ b o, b ≠ it → s.heap.get? b = some o → h'.get? b = some o) (hn : H it = none) (hL : it ≠ X.env.locals)
    (h1 : it ∈ X.ex ∨ X.s₀.heap.objs.size ≤ it) (h2 : ∀ x c, X.env.cells.lookup x = some c → c ≠ it) (h3 : ∀ p ∈ X.pn ++ pins, p.1 ≠ it) : Inv X pins σ H { s with heap := h', toks := t' } := by
  have nit : ∀ b u, H b = some u → b ≠ it := fun b u e z => by rw [z, hn] at e; cases e
  refine I.step (g' := s.gens) (d' := s.drawn) (ch := [it]) (fun b hb => ?_) (fun b o _ _ hc e _ => k b o (fun z => hc (by simp [z])) e) (fun b o _ _ hc e _ => ⟨o.slots, k b o (fun z => hc (by simp [z])) e⟩) (fun _ _ _ _ n => n)
    (fun b o hc e => ⟨o, k b o (fun z => hc (by simp [z])) e⟩) (fun _ _ e => e) (fun _ _ _ e => e) (fun b ps e => ⟨#[], by rw [e]; simp⟩) (fun m hm => ?_) (fun b u e => ?_) I.bare
  · have e : b = it := by simpa using hb
    subst e
    exact ⟨h1, hL, h2, h3⟩
  · obtain ⟨o, es, ep, ho, r⟩ := hm
    exact ⟨o, es, ep, k _ o (Ne.symm hL) ho, r⟩
  · refine (I.hok b u e).stay (fun c v hc q => k c v ?_ q) (fun _ q => q) fun _ _ q => q
    rcases hc with z | z
    · rw [z]; exact nit b u e
    · exact nit c _ z
theorem Inv.tok (I : Inv X pins σ H s) (t : Nat) : Inv X pins σ H { s with toks := t } := I.un (h' := s.heap) (t' := t) Un.refl I.hok
theorem Inv.kept {t' : Nat} (I : Inv X pins σ H s) (k : ∀ b u, s.heap.get? b = some u → h'.get? b = some u) : Inv X pins σ H { s with heap := h', toks := t' } := I.un (Un.kept k) (I.hok.kept k)
theorem Inv.laid {a : Addr} {o : HO} {t' : Nat} (I : Inv X pins σ H s) (k : ∀ b u, s.heap.get? b = some u → h'.get? b = some u) (hp : s.heap.objs.size ≤ a) (new : ObjOk X.prog X.w (upd H a o) h' a o) :
    Inv X pins σ (upd H a o) { s with heap := h', toks := t' } := I.un (Un.laid k hp (I.hok.fresh hp)) (I.hok.laid k hp new)
theorem Inv.write {x e : Addr} {o : HO} {t' : Nat} (I : Inv X pins σ H s) (mu : Mut (H x)) (he : e = x ∨ H e = some (.own x)) (k : ∀ b u, b ≠ e → s.heap.get? b = some u → h'.get? b = some u) (heo : ∃ u, h'.get? e = some u)
    (new : ObjOk X.prog X.w (upd H x o) h' x o) : Inv X pins σ (upd H x o) { s with heap := h', toks := t' } := I.un (Un.write mu he k heo) (I.hok.write mu he k heo new)
theorem Inv.weak {σ' : List (Option V)} (I : Inv X pins σ H s) (hl : σ'.length = σ.length) (w : ∀ (i : Nat) v, σ'[i]? = some (some v) → σ[i]? = some (some v)) : Inv X pins σ' H s :=
  ⟨I.ok, I.os, I.bare, I.base, let ⟨m, hn, hl'⟩ := I.loc; ⟨m, hn, fun i x v e1 e2 e3 => hl' i x v e1 (w i v e2) e3⟩, I.cell, I.free, I.freeC, I.pin, I.hok, hl.trans I.len⟩
theorem Inv.pins_of {pins' : List (Addr × Obj)} (I : Inv X pins σ H s) (h : ∀ p ∈ pins', s.heap.get? p.1 = some p.2 ∧ H p.1 = none ∧ p.1 ≠ X.env.locals ∧ p.1 ∉ X.fs ∧ ∀ v, p.2.data ≠ .cell v) : Inv X pins' σ H s :=
  ⟨I.ok, I.os, I.bare, I.base, I.loc, I.cell, I.free, I.freeC, fun p hp => (List.mem_append.mp hp).elim (fun z => I.pin p (List.mem_append_left _ z)) (h p), I.hok, I.len⟩
theorem nodup_ix {N : List Str} (hN : N.Nodup) {i j : Nat} {x : Str} (a : N[i]? = some x) (b : N[j]? = some x) : i = j := by
  obtain ⟨h1, e1⟩ := List.getElem?_eq_some_iff.mp a
  obtain ⟨h2, e2⟩ := List.getElem?_eq_some_iff.mp b
  exact (List.getElem_inj hN).mp (e1.trans e2.symm)
theorem store_ok2 {M : Model} {A : Around} {E : Value → Shared → Prop} {i : Nat} {x : Str} {v : V} {u : Value} {Q : Unit → Shared → Prop} (I : Inv X pins σ H s) (hN : X.N.Nodup) (hi : X.N[i]? = some x) (hx : Loc X.env.scope x) (r : RelV v u)
    (h : ∀ s', Inv X pins (σ.set i (some v)) H s' → (∃ a, Heap.SameBut a s.heap s'.heap ∧ (a = X.env.locals ∨ X.env.cells.lookup x = some a)) → Q () s') (hf : X.fn x = true ∨ X.env.scope.names.lookup x = some .local := by first | exact .inl rfl | exact .inr rfl | assumption) : wpAny M A (storeName X.env x u) Q E s := by
  obtain ⟨m, hn, hl⟩ := id I.loc
  have hcls : (X.env.scope.kind == .class || (X.env.scope.kind == .module && X.env.locals != X.env.globals)) = false := by rw [I.ok.kind]; rfl
  have hiσ : i < σ.length := by rw [I.len]; exact (List.getElem?_eq_some_iff.mp hi).1
  have cne := I.cne
  have tracked : ∀ {a : Addr} {h' : Heap}, (∃ o, s.heap.get? a = some o ∧ H a = none) → Heap.SameBut a s.heap h' → HOk X.prog X.w H h' := fun {a h'} ha hs b ob e => by
    obtain ⟨_, _, hfree⟩ := ha
    refine (I.hok b ob e).stay (fun c w' hc q => (hs.2 c ?_).trans q) (fun _ q => q) fun _ _ q => q
    rintro rfl
    rcases hc with rfl | hc
    · rw [hfree] at e; cases e
    · rw [hfree] at hc; cases hc
  rcases hx with hk | hk
  · refine wpAny_storeName_local hk hn (fun h' hn' hs => ?_) hcls
    obtain ⟨oL, _, _, hoL, _⟩ := id hn
    refine h _ ⟨I.ok, I.os, I.bare, ⟨fun b o e n hb hx => ?_, fun b o e n hb hx => ?_, I.base.free, fun b o e hx => ?_, I.base.tups, I.base.frzs, I.base.tbls⟩, ⟨_, hn', fun j y v' e1 e2 e3 => ?_⟩, fun y c e => ?_, I.free, I.freeC, fun p hp => ?_, tracked ⟨oL, hoL, I.free⟩ hs, by simpa using I.len⟩ ⟨_, hs, .inl rfl⟩
    · exact (hs.2 b (Nat.ne_of_lt (Nat.lt_of_lt_of_le (Heap.lt_size e) I.ok.above))).trans (I.base.keep b o e n hb hx)
    · obtain ⟨sl, e1⟩ := I.base.slot b o e n hb hx
      exact ⟨sl, (hs.2 b (Nat.ne_of_lt (Nat.lt_of_lt_of_le (Heap.lt_size e) I.ok.above))).trans e1⟩
    · obtain ⟨o', e1⟩ := I.base.there b o e hx
      exact ⟨o', (hs.2 b (Nat.ne_of_lt (Nat.lt_of_lt_of_le (Heap.lt_size e) I.ok.above))).trans e1⟩
    · by_cases hj : j = i
      · subst hj
        rw [hi] at e1; cases e1
        rw [List.getElem?_set_self hiσ] at e2
        cases e2
        exact ⟨u, r, .inl ⟨hk, by simp⟩⟩
      · rw [List.getElem?_set_ne (Ne.symm hj)] at e2
        obtain ⟨u', r', q⟩ := hl j y v' e1 e2 e3
        refine ⟨u', r', ?_⟩
        rcases q with ⟨k, e⟩ | ⟨k, c, e, z⟩
        · refine .inl ⟨k, ?_⟩
          have : y ≠ x := fun e => hj (nodup_ix hN e1 (e ▸ hi))
          simp [this, e]
        · exact .inr ⟨k, c, e, z.sameBut hs (cne y c e)⟩
    · obtain ⟨w', z⟩ := I.cell y c e
      exact ⟨w', z.sameBut hs (cne y c e)⟩
    · obtain ⟨e, n, ne, nf, d⟩ := I.pin p hp
      exact ⟨(hs.2 p.1 ne).trans e, n, ne, nf, d⟩
  · have hfn : X.fn x = true := by
      rcases hf with z | z
      · exact z
      · rw [z] at hk; cases hk
    obtain ⟨c, hc⟩ := I.ok.has x (.inl hk)
    obtain ⟨w', z⟩ := I.cell x c hc
    refine wpAny_storeName_cell I.ok.kind hk hc z (fun h' hc' hs => ?_)
    obtain ⟨oc, hoc, hocd⟩ := id z
    refine h { s with heap := h' } ⟨I.ok, I.os, I.bare, ⟨fun b o e n hb hx => ?_, fun b o e n hb hx => ?_, I.base.free, fun b o e hx => ?_, I.base.tups, I.base.frzs, I.base.tbls⟩, ⟨m, hn.sameBut hs (Ne.symm (cne x c hc)), fun j y v' e1 e2 e3 => ?_⟩, fun y c' e => ?_, I.free, I.freeC, fun p hp => ?_, tracked ⟨oc, hoc, I.freeC x c hc⟩ hs, by simpa using I.len⟩ ⟨c, hs, .inr hc⟩
    · exact (hs.2 b (Nat.ne_of_lt (Nat.lt_of_lt_of_le (Heap.lt_size e) (I.ok.cab x c hfn hc)))).trans (I.base.keep b o e n hb hx)
    · obtain ⟨sl, e1⟩ := I.base.slot b o e n hb hx
      exact ⟨sl, (hs.2 b (Nat.ne_of_lt (Nat.lt_of_lt_of_le (Heap.lt_size e) (I.ok.cab x c hfn hc)))).trans e1⟩
    · obtain ⟨o', e1⟩ := I.base.there b o e hx
      exact ⟨o', (hs.2 b (Nat.ne_of_lt (Nat.lt_of_lt_of_le (Heap.lt_size e) (I.ok.cab x c hfn hc)))).trans e1⟩
    · by_cases hj : j = i
      · subst hj
        rw [hi] at e1; cases e1
        rw [List.getElem?_set_self hiσ] at e2
        cases e2
        exact ⟨u, r, .inr ⟨.inl hk, c, hc, hc'⟩⟩
      · rw [List.getElem?_set_ne (Ne.symm hj)] at e2
        obtain ⟨u', r', q⟩ := hl j y v' e1 e2 e3
        refine ⟨u', r', ?_⟩
        rcases q with q | ⟨k, c', e, z'⟩
        · exact .inl q
        · refine .inr ⟨k, c', e, z'.sameBut hs ?_⟩
          rintro rfl
          exact hj (nodup_ix hN e1 (I.ok.inj _ _ _ e hc ▸ hi))
    · by_cases hcc : c' = c
      · subst hcc; exact ⟨_, hc'⟩
      · obtain ⟨w2, z2⟩ := I.cell y c' e
        exact ⟨w2, z2.sameBut hs hcc⟩
    · obtain ⟨e, n, ne, nf, d⟩ := I.pin p hp
      refine ⟨(hs.2 p.1 ?_).trans e, n, ne, nf, d⟩
      intro q
      rw [q, hoc] at e
      have q' : oc = p.2 := Option.some.inj e
      exact d w' (by rw [← q']; exact hocd)
theorem store_ok {M : Model} {A : Around} {E : Value → Shared → Prop} {i : Nat} {x : Str} {v : V} {u : Value} {Q : Unit → Shared → Prop} (I : Inv X pins σ H s) (hN : X.N.Nodup) (hi : X.N[i]? = some x) (hx : Loc X.env.scope x) (r : RelV v u)
    (h : ∀ s', Inv X pins (σ.set i (some v)) H s' → Q () s') (hf : X.fn x = true ∨ X.env.scope.names.lookup x = some .local := by first | exact .inl rfl | exact .inr rfl | assumption) : wpAny M A (storeName X.env x u) Q E s :=
  store_ok2 I hN hi hx r (fun s' I' _ => h s' I') hf
theorem Inv.call' {s' : Shared} {ch : List Addr} (I : Inv X pins σ H s) (ho : s'.os = s.os) (u : Un (frs X.stack) ch H H' s.heap s'.heap) (hok : HOk X.prog X.w H' s'.heap) (hg : AllBare s'.gens)
    (hch : ∀ b ∈ ch, (b ∈ X.ex ∨ X.s₀.heap.objs.size ≤ b) ∧ b ≠ X.env.locals ∧ (∀ x c, X.env.cells.lookup x = some c → c ≠ b) ∧ ∀ p ∈ X.pn ++ pins, p.1 ≠ b) : Inv X pins σ H' s' := by
  obtain ⟨h', g', d', t', o'⟩ := s'
  have e : o' = s.os := ho
  subst e
  exact I.call (g' := g') (t' := t') (d' := d') u hok hg hch
end
abbrev XK := Value → Option Addr → Hp → Prop
abbrev St := List (Option V)
abbrev VK := V → Hp → Prop
abbrev TE := St → Hp → VK → Prop
abbrev TT := St → Hp → (Bool → Hp → Prop) → Prop
abbrev TA := St → Hp → (List V → Hp → Prop) → Prop
structure Ends where
  nx : St → Hp → Prop
  rt : VK
  bk : St → Hp → Prop := fun _ _ => False
  ct : St → Hp → Prop := fun _ _ => False
abbrev TS := Ends → St → Hp → Prop
def EP (X : Cx) (pins : List (Addr × Obj)) (σ : St) (Q : VK) (u : Value) (s' : Shared) : Prop := ∃ v H', Inv X pins σ H' s' ∧ RelV v u ∧ Q v H'
def TP (X : Cx) (pins : List (Addr × Obj)) (σ : St) (Q : Bool → Hp → Prop) (b : Bool) (s' : Shared) : Prop := ∃ H', Inv X pins σ H' s' ∧ Q b H'
def AP (X : Cx) (pins : List (Addr × Obj)) (σ : St) (Q : List V → Hp → Prop) (us : List Value) (s' : Shared) : Prop := ∃ vs H', Inv X pins σ H' s' ∧ Vals vs us ∧ Q vs H'
def SP (X : Cx) (pins : List (Addr × Obj)) (D : Ends) (f : Flow) (s' : Shared) : Prop :=
  match f with
  | .next => ∃ σ' H', Inv X pins σ' H' s' ∧ D.nx σ' H'
  | .brk => ∃ σ' H', Inv X pins σ' H' s' ∧ D.bk σ' H'
  | .cont => ∃ σ' H', Inv X pins σ' H' s' ∧ D.ct σ' H'
  | .ret u => ∃ v σ' H', Inv X pins σ' H' s' ∧ RelV v u ∧ D.rt v H'
def PE (X : Cx) (e : Expr) (t : TE) : Prop :=
  ∀ (pins : List (Addr × Obj)) (s : Shared) (σ : St) (H : Hp) (Q : VK), Inv X pins σ H s → t σ H Q → wpAny (model X.prog X.w) X.A (eval e X.env) (EP X pins σ Q) X.xe s
def PT (X : Cx) (e : Expr) (t : TT) : Prop :=
  ∀ (pins : List (Addr × Obj)) (s : Shared) (σ : St) (H : Hp) (Q : Bool → Hp → Prop), Inv X pins σ H s → t σ H Q → wpAny (model X.prog X.w) X.A (isTrue e X.env (eval e X.env)) (TP X pins σ Q) X.xe s
def PW (X : Cx) (e : Expr) (t : TT) : Prop :=
  ∀ (whole : Sem Value) (pins : List (Addr × Obj)) (s : Shared) (σ : St) (H : Hp) (Q : Bool → Hp → Prop), Inv X pins σ H s → t σ H Q → wpAny (model X.prog X.w) X.A (isTrue e X.env whole) (TP X pins σ Q) X.xe s
theorem PW.pt {X : Cx} {e : Expr} {t : TT} (h : PW X e t) : PT X e t := h _
def PA (X : Cx) (es : List Expr) (t : TA) : Prop :=
  ∀ (pos : Pos) (pins : List (Addr × Obj)) (s : Shared) (σ : St) (H : Hp) (Q : List V → Hp → Prop), Inv X pins σ H s → t σ H Q → wpAny (model X.prog X.w) X.A (spliced (backTo pos (starEach es X.env))) (AP X pins σ Q) X.xe s
def PS (X : Cx) (st : Stmt) (t : TS) : Prop :=
  ∀ (pins : List (Addr × Obj)) (s : Shared) (σ : St) (H : Hp) (D : Ends), Inv X pins σ H s → t D σ H → wpAny (model X.prog X.w) X.A (exec st X.env) (SP X pins D) X.xe s
def PSs (X : Cx) (st : List Stmt) (t : TS) : Prop :=
  ∀ (pins : List (Addr × Obj)) (s : Shared) (σ : St) (H : Hp) (D : Ends), Inv X pins σ H s → t D σ H → wpAny (model X.prog X.w) X.A (execs st X.env) (SP X pins D) X.xe s
theorem thn {α : Type} {t : Sem α} {Q Q' : α → Shared → Prop} {M : Model} {A : Around} {E : Value → Shared → Prop} {s : Shared} (h : wpAny M A t Q E s) (hQ : ∀ a s, Q a s → Q' a s) : wpAny M A t Q' E s := wpAny_mono h hQ fun _ _ x => x
end L2
namespace L2
open PySem PySem.Spec PyProof.Rows
section
variable {X : Cx}
theorem bin {a b : Expr} {ta tb : TE} (ha : PE X a ta) (hb : PE X b tb) {pins : List (Addr × Obj)} {s : Shared} {σ : St} {H : Hp} {R : V → V → Hp → Prop} (I : Inv X pins σ H s) (h : ta σ H fun x H1 => tb σ H1 fun y H2 => R x y H2)
    {α : Type} {Q : α → Shared → Prop} {f : Value → Value → Sem α}
    (hf : ∀ v u s2 x y H2, Inv X pins σ H2 s2 → RelV x v → RelV y u → R x y H2 → wpAny (model X.prog X.w) X.A (f v u) Q X.xe s2) :
    wpAny (model X.prog X.w) X.A (eval a X.env) (fun v s₁ => wpAny (model X.prog X.w) X.A (eval b X.env) (fun u s₂ => wpAny (model X.prog X.w) X.A (f v u) Q X.xe s₂) X.xe s₁) X.xe s := by
  refine thn (ha pins s σ H _ I h) fun v s1 ⟨x, H1, I1, r1, q1⟩ => ?_
  refine thn (hb pins s1 σ H1 _ I1 q1) fun u s2 ⟨y, H2, I2, r2, q2⟩ => ?_
  exact hf v u s2 x y H2 I2 r1 r2 q2
def tVar (i : Nat) : TE := fun σ H Q => ∃ v, σ[i]? = some (some v) ∧ Q v H
def tC (v : V) : TE := fun _ H Q => Q v H
theorem pe_var {i : Nat} {x : Str} {pos : Pos} (hN : X.N[i]? = some x) (hv : Vis X.env.scope x) (hd : (x == ("__debug__" : Str)) = false := by decide) (hcd : (x == ("__classdict__" : Str)) = false := by decide) : PE X (.Name x pos) (tVar i) := by
  intro pins s σ H Q I h
  obtain ⟨v, e, h⟩ := h
  obtain ⟨m, hn, hl⟩ := I.loc
  obtain ⟨u, r, l⟩ := hl i x v hN e hv
  have fin : EP X pins σ Q u s := ⟨v, H, I, r, h⟩
  rcases l with ⟨hk, hm⟩ | ⟨hk, c, hc, hcell⟩
  · exact wpAny_Name (wpAny_loadName_local I.ok.kind hk hn hm fin) hd
  · rcases hk with hk | hk
    · exact wpAny_Name (wpAny_loadName_cell I.ok.kind hk hc hcell fin) hd
    · exact wpAny_Name (wpAny_loadName_free I.ok.kind hk hc hcell fin hcd) hd
theorem pe_int {i j pos} : PE X (.Constant (.int i) j pos) (tC (.int i)) := fun _ _ _ H _ I h => wpAny_Constant_int ⟨.int i, H, I.tok _, ⟨_, rfl⟩, h⟩
theorem pe_bl {b j pos} : PE X (.Constant (.bool b) j pos) (tC (.bl b)) := fun _ _ _ H _ I h => Constant_bool ⟨.bl b, H, I, rfl, h⟩
theorem pe_non {j pos} : PE X (.Constant .none j pos) (tC .non) := fun _ _ _ H _ I h => Constant_none ⟨.non, H, I, rfl, h⟩
theorem pe_str {x j pos} : PE X (.Constant (.str x) j pos) (tC (.str x)) := fun _ _ _ H _ I h => Calls.Constant_str ⟨.str x, H, I.tok _, ⟨_, rfl⟩, h⟩
def Gl (X : Cx) (x : Str) : Prop := X.env.kindOf x = some .globalImplicit
theorem ld_glob {E : Value → Shared → Prop} {pins : List (Addr × Obj)} {s : Shared} {σ : St} {H : Hp} {x : Str} {u : Value} {pos : Pos} {Q : Value → Shared → Prop} (I : Inv X pins σ H s) (hg : Gl X x) (hm : X.mg x = some u) (h : Q u s)
    (hd : (x == ("__debug__" : Str)) = false := by decide) : wpAny (model X.prog X.w) X.A (eval (.Name x pos) X.env) Q E s :=
  Calls.Name_function_global I.ok.kind hg (Calls.loadGlobal_global (by rw [I.ok.glob]; exact I.mod.glob.keeps I.bk) hm h) hd
theorem ld_blt {E : Value → Shared → Prop} {pins : List (Addr × Obj)} {s : Shared} {σ : St} {H : Hp} {x : Str} {u : Value} {pos : Pos} {Q : Value → Shared → Prop} (I : Inv X pins σ H s) (hg : Gl X x) (hm : X.mg x = none) (hv : bootBuiltins x = some u) (h : Q u s)
    (hn : x ≠ "__name__" := by decide) (hd : (x == ("__debug__" : Str)) = false := by decide) : wpAny (model X.prog X.w) X.A (eval (.Name x pos) X.env) Q E s := by
  obtain ⟨mb, h1, h2⟩ := I.mod.blt
  exact Calls.Name_function_global I.ok.kind hg (Calls.loadGlobal_builtin (by rw [I.ok.glob]; exact I.mod.glob.keeps I.bk) hm (by rw [I.ok.blt]; exact h1.keeps I.bk) ((h2 x hn).trans hv) h) hd
theorem pe_glob {x : Str} {v : V} {u : Value} {pos : Pos} (hg : Gl X x) (hm : X.mg x = some u) (r : RelV v u) (hd : (x == ("__debug__" : Str)) = false := by decide) : PE X (.Name x pos) (tC v) :=
  fun _ _ _ H _ I h => ld_glob I hg hm ⟨v, H, I, r, h⟩ hd
theorem pe_bltn {x : Str} {v : V} {u : Value} {pos : Pos} (hg : Gl X x) (hm : X.mg x = none) (hv : bootBuiltins x = some u) (r : RelV v u) (hn : x ≠ "__name__" := by decide) (hd : (x == ("__debug__" : Str)) = false := by decide) : PE X (.Name x pos) (tC v) :=
  fun _ _ _ H _ I h => ld_blt I hg hm hv ⟨v, H, I, r, h⟩ hn hd
def t2I (ta tb : TE) (k : Int → Int → Hp → Prop) : St → Hp → Prop := fun σ H => ta σ H fun x H1 => tb σ H1 fun y H2 => ∃ i j, x = .int i ∧ y = .int j ∧ k i j H2
def tAdd (ta tb : TE) : TE := fun σ H Q => t2I ta tb (fun i j H2 => Q (.int (i + j)) H2) σ H
def tSub (ta tb : TE) : TE := fun σ H Q => t2I ta tb (fun i j H2 => Q (.int (i - j)) H2) σ H
def tMul (ta tb : TE) : TE := fun σ H Q => t2I ta tb (fun i j H2 => (-(2 ^ 64) < i ∧ i < 2 ^ 64) ∧ Q (.int (i * j)) H2) σ H
variable {a b : Expr} {ta tb : TE} {pos : Pos}
theorem pe_add (ha : PE X a ta) (hb : PE X b tb) : PE X (.BinOp a .Add b pos) (tAdd ta tb) := by
  intro pins s σ H Q I h
  refine wpAny_BinOp (bin ha hb I h fun v u s2 x y H2 I2 rx ry q => ?_)
  obtain ⟨i, j, rfl, rfl, q⟩ := q
  obtain ⟨t, rfl⟩ := rx
  obtain ⟨t', rfl⟩ := ry
  exact add_int ⟨.int _, H2, I2.tok _, ⟨_, rfl⟩, q⟩
theorem pe_sub (ha : PE X a ta) (hb : PE X b tb) : PE X (.BinOp a .Sub b pos) (tSub ta tb) := by
  intro pins s σ H Q I h
  refine wpAny_BinOp (bin ha hb I h fun v u s2 x y H2 I2 rx ry q => ?_)
  obtain ⟨i, j, rfl, rfl, q⟩ := q
  obtain ⟨t, rfl⟩ := rx
  obtain ⟨t', rfl⟩ := ry
  exact sub_int ⟨.int _, H2, I2.tok _, ⟨_, rfl⟩, q⟩
theorem pe_mul (ha : PE X a ta) (hb : PE X b tb) : PE X (.BinOp a .Mult b pos) (tMul ta tb) := by
  intro pins s σ H Q I h
  refine wpAny_BinOp (bin ha hb I h fun v u s2 x y H2 I2 rx ry q => ?_)
  obtain ⟨i, j, rfl, rfl, ⟨q1, q2⟩, q⟩ := q
  obtain ⟨t, rfl⟩ := rx
  obtain ⟨t', rfl⟩ := ry
  exact mul_int ⟨.int _, H2, I2.tok _, ⟨_, rfl⟩, q⟩ (.of_left (intBits_le_64 q1 q2))
def PC (X : Cx) (op : CmpOp) (a b : Expr) (t : TE) : Prop :=
  ∀ (pins : List (Addr × Obj)) (s : Shared) (σ : St) (H : Hp) (Q : VK), Inv X pins σ H s → t σ H Q →
    wpAny (model X.prog X.w) X.A (eval a X.env) (fun v s₁ => wpAny (model X.prog X.w) X.A (eval b X.env) (fun u s₂ => wpAny (model X.prog X.w) X.A (compareOp op v u) (EP X pins σ Q) X.xe s₂) X.xe s₁) X.xe s
theorem nobehind (b : Expr) {op : CmpOp} (h : op ≠ .In) (h2 : op ≠ .NotIn) : behindInMarks op b = false := by
  have e1 : (op == CmpOp.In) = false := by cases op <;> first | rfl | exact absurd rfl h
  have e2 : (op == CmpOp.NotIn) = false := by cases op <;> first | rfl | exact absurd rfl h2
  cases b <;> simp [behindInMarks, e1, e2]
def tCmp (p : Int → Int → Bool) (ta tb : TE) : TE := fun σ H Q => t2I ta tb (fun i j H2 => Q (.bl (p i j)) H2) σ H
abbrev tLt : TE → TE → TE := tCmp fun i j => decide (i < j)
abbrev tLe : TE → TE → TE := tCmp fun i j => decide (i ≤ j)
abbrev tGt : TE → TE → TE := tCmp fun i j => decide (j < i)
abbrev tGe : TE → TE → TE := tCmp fun i j => decide (j ≤ i)
abbrev tEqI : TE → TE → TE := tCmp fun i j => decide (i = j)
abbrev tNeI : TE → TE → TE := tCmp fun i j => !decide (i = j)
theorem pc_int {op : CmpOp} {p : Int → Int → Bool} (ha : PE X a ta) (hb : PE X b tb)
    (rule : ∀ (i j : Int) (t u : Tok) (Q : Value → Shared → Prop) (s : Shared), Q (.bool (p i j)) s → wpAny (model X.prog X.w) X.A (compareOp op (.int i t) (.int j u)) Q X.xe s) : PC X op a b (tCmp p ta tb) := by
  intro pins s σ H Q I h
  refine bin ha hb I h fun v u s2 x y H2 I2 rx ry q => ?_
  obtain ⟨i, j, rfl, rfl, q⟩ := q
  obtain ⟨t, rfl⟩ := rx
  obtain ⟨t', rfl⟩ := ry
  exact rule i j t t' _ s2 ⟨.bl _, H2, I2, rfl, q⟩
theorem pc_lt (ha : PE X a ta) (hb : PE X b tb) : PC X .Lt a b (tLt ta tb) := pc_int ha hb fun _ _ _ _ _ _ h => lt_int h
theorem pc_le (ha : PE X a ta) (hb : PE X b tb) : PC X .LtE a b (tLe ta tb) := pc_int ha hb fun _ _ _ _ _ _ h => le_int h
theorem pc_gt (ha : PE X a ta) (hb : PE X b tb) : PC X .Gt a b (tGt ta tb) := pc_int ha hb fun _ _ _ _ _ _ h => gt_int h
theorem pc_ge (ha : PE X a ta) (hb : PE X b tb) : PC X .GtE a b (tGe ta tb) := pc_int ha hb fun _ _ _ _ _ _ h => ge_int h
theorem pc_eqI (ha : PE X a ta) (hb : PE X b tb) : PC X .Eq a b (tEqI ta tb) := pc_int ha hb fun _ _ _ _ _ _ h => eq_int (by rw [Bool.beq_eq_decide_eq]; exact h)
theorem pc_neI (ha : PE X a ta) (hb : PE X b tb) : PC X .NotEq a b (tNeI ta tb) := pc_int ha hb fun _ _ _ _ _ _ h => ne_int (by rw [bne, Bool.beq_eq_decide_eq]; exact h)
def tIsN (ta : TE) : TE := fun σ H Q => ta σ H fun x H1 => Q (.bl (decide (x = .non))) H1
def tNotN (ta : TE) : TE := fun σ H Q => ta σ H fun x H1 => Q (.bl (!decide (x = .non))) H1
theorem RelV.none_iff {x : V} {v : Value} (r : RelV x v) : (v == Value.none) = decide (x = .non) := by
  cases x with
  | non => cases r; rfl
  | bl _ => cases r; rfl
  | int _ => obtain ⟨t, rfl⟩ := r; rfl
  | str _ => obtain ⟨t, rfl⟩ := r; rfl
  | byt _ => obtain ⟨t, rfl⟩ := r; rfl
  | flt _ => obtain ⟨t, rfl⟩ := r; rfl
  | ref _ => cases r; rfl
  | ty _ => cases r; rfl
theorem pc_isN {j pos'} (ha : PE X a ta) : PC X .Is a (.Constant .none j pos') (tIsN ta) := by
  intro pins s σ H Q I h
  refine thn (ha pins s σ H _ I h) fun v s1 ⟨x, H1, I1, r1, q1⟩ => ?_
  exact Constant_none (is_none_gen ⟨.bl _, H1, I1, by rw [r1.none_iff]; rfl, q1⟩)
theorem pc_notN {j pos'} (ha : PE X a ta) : PC X .IsNot a (.Constant .none j pos') (tNotN ta) := by
  intro pins s σ H Q I h
  refine thn (ha pins s σ H _ I h) fun v s1 ⟨x, H1, I1, r1, q1⟩ => ?_
  exact Constant_none (isnot_none_gen ⟨.bl _, H1, I1, by rw [r1.none_iff]; rfl, q1⟩)
def tB (t : TE) : TT := fun σ H Q => t σ H fun x H1 => ∃ c, x = .bl c ∧ Q c H1
theorem pe_cmp {op : CmpOp} {t : TE} (h : PC X op a b t) (h1 : behindInMarks op b = false := by first | exact nobehind _ (by decide) (by decide) | rfl) : PE X (.Compare a [op] [b] pos) t := fun pins s σ H Q I hw => wpAny_Compare1 (h pins s σ H Q I hw) h1
theorem pt_cmp {op : CmpOp} {t : TE} (h : PC X op a b t) (h1 : behindInMarks op b = false := by first | exact nobehind _ (by decide) (by decide) | rfl) : PT X (.Compare a [op] [b] pos) (tB t) := by
  intro pins s σ H Q I hw
  refine wpAny_isTrue_Compare1 (thn (h pins s σ H _ I hw) fun v s1 h1 => thn h1 fun u s2 h2 => thn h2 fun c s3 ⟨x, H1, I1, r1, q1⟩ => ?_) h1
  obtain ⟨d, rfl, q⟩ := q1
  cases r1
  exact wpAny_truthy_bool ⟨H1, I1, q⟩
theorem pt_val {e : Expr} {t : TE} (h : PE X e t) (he : ∀ whole, isTrue e X.env whole = (do let v ← whole; standAt e.pos; holding [v] (truthy v)) := by intro _; rfl) : PT X e (tB t) := by
  intro pins s σ H Q I hw
  refine isTrue_plain (thn (h pins s σ H _ I hw) fun v s1 ⟨x, H1, I1, r1, q1⟩ => ?_) (he _)
  obtain ⟨d, rfl, q⟩ := q1
  cases r1
  exact wpAny_truthy_bool ⟨H1, I1, q⟩
variable {tA tB' : TT} {rest : List Expr}
def tAnd (t u : TT) : TT := fun σ H Q => t σ H fun c H1 => if c = true then u σ H1 Q else Q false H1
def tOr (t u : TT) : TT := fun σ H Q => t σ H fun c H1 => if c = true then Q true H1 else u σ H1 Q
def tNot (t : TT) : TT := fun σ H Q => t σ H fun c H1 => Q (!c) H1
theorem pw_and1 (ha : PT X a tA) : PW X (.BoolOp .And [a] pos) tA := by
  intro wh pins s σ H Q I h
  refine isTrue_and (thn (ha pins s σ H Q I h) fun c s1 e => ?_)
  cases c with
  | true => exact isTrue_and_nil e
  | false => exact e
theorem pw_or1 (ha : PT X a tA) : PW X (.BoolOp .Or [a] pos) tA := by
  intro wh pins s σ H Q I h
  refine isTrue_or (thn (ha pins s σ H Q I h) fun c s1 e => ?_)
  cases c with
  | false => exact isTrue_or_nil e
  | true => exact e
theorem pw_and (ha : PT X a tA) (hb : PW X (.BoolOp .And (b :: rest) pos) tB') : PW X (.BoolOp .And (a :: b :: rest) pos) (tAnd tA tB') := by
  intro wh pins s σ H Q I h
  refine isTrue_and (thn (ha pins s σ H _ I h) fun c s1 ⟨H1, I1, q1⟩ => ?_)
  cases c with
  | true => exact hb wh pins s1 σ H1 Q I1 q1
  | false => exact ⟨H1, I1, q1⟩
theorem pw_or (ha : PT X a tA) (hb : PW X (.BoolOp .Or (b :: rest) pos) tB') : PW X (.BoolOp .Or (a :: b :: rest) pos) (tOr tA tB') := by
  intro wh pins s σ H Q I h
  refine isTrue_or (thn (ha pins s σ H _ I h) fun c s1 ⟨H1, I1, q1⟩ => ?_)
  cases c with
  | true => exact ⟨H1, I1, q1⟩
  | false => exact hb wh pins s1 σ H1 Q I1 q1
theorem pt_not (ha : PT X a tA) : PT X (.UnaryOp .Not a pos) (tNot tA) := by
  intro pins s σ H Q I h
  exact isTrue_not (ha pins s σ H (fun c H1 => Q (!c) H1) I h)
def tAndV (ta tb : TE) : TE := fun σ H Q => ta σ H fun x H1 => ∃ c, x = .bl c ∧ if c = true then tb σ H1 Q else Q (.bl false) H1
def tOrV (ta tb : TE) : TE := fun σ H Q => ta σ H fun x H1 => ∃ c, x = .bl c ∧ if c = true then Q (.bl true) H1 else tb σ H1 Q
def tNotV (ta : TE) : TE := fun σ H Q => ta σ H fun x H1 => ∃ c, x = .bl c ∧ Q (.bl (!c)) H1
theorem pe_one {op} {t : TE} (h : PE X a t) : PE X (.BoolOp op [a] pos) t := fun pins s σ H Q I hw => BoolOp_one (h pins s σ H Q I hw)
theorem pe_and (ha : PE X a ta) (hb : PE X (.BoolOp .And (b :: rest) pos) tb) : PE X (.BoolOp .And (a :: b :: rest) pos) (tAndV ta tb) := by
  intro pins s σ H Q I h
  refine BoolOp_and (thn (ha pins s σ H _ I h) fun v s1 ⟨x, H1, I1, r1, q1⟩ => ?_)
  obtain ⟨c, rfl, q1⟩ := q1
  cases r1
  refine wpAny_truthy_bool ?_
  cases c with
  | true => exact hb pins s1 σ H1 Q I1 q1
  | false => exact ⟨.bl false, H1, I1, rfl, q1⟩
theorem pe_or (ha : PE X a ta) (hb : PE X (.BoolOp .Or (b :: rest) pos) tb) : PE X (.BoolOp .Or (a :: b :: rest) pos) (tOrV ta tb) := by
  intro pins s σ H Q I h
  refine BoolOp_or (thn (ha pins s σ H _ I h) fun v s1 ⟨x, H1, I1, r1, q1⟩ => ?_)
  obtain ⟨c, rfl, q1⟩ := q1
  cases r1
  refine wpAny_truthy_bool ?_
  cases c with
  | false => exact hb pins s1 σ H1 Q I1 q1
  | true => exact ⟨.bl true, H1, I1, rfl, q1⟩
theorem pe_not (ha : PE X a ta) : PE X (.UnaryOp .Not a pos) (tNotV ta) := by
  intro pins s σ H Q I h
  refine UnaryOp_ (thn (ha pins s σ H _ I h) fun v s1 ⟨x, H1, I1, r1, q1⟩ => ?_)
  obtain ⟨c, rfl, q1⟩ := q1
  cases r1
  exact not_of (wpAny_truthy_bool ⟨.bl (!c), H1, I1, rfl, q1⟩)
def tIf (t : TT) (ta tb : TE) : TE := fun σ H Q => t σ H fun c H1 => if c = true then ta σ H1 Q else tb σ H1 Q
theorem pe_ifExp {c : Expr} (hc : PT X c tA) (ha : PE X a ta) (hb : PE X b tb) : PE X (.IfExp c a b pos) (tIf tA ta tb) := by
  intro pins s σ H Q I h
  refine wpAny_IfExp (thn (hc pins s σ H _ I h) fun d s1 ⟨H1, I1, q1⟩ => ?_)
  cases d with
  | true => exact ha pins s1 σ H1 Q I1 q1
  | false => exact hb pins s1 σ H1 Q I1 q1
end
end L2
namespace L2
open PySem PySem.Spec PyProof.Rows
def SqL (K : PySem.W.Frag) (H : Hp) (a : Addr) (xs : List V) : Prop :=
  Rd H a (.lst xs) ∨
    ∃ (o : Obj) (its : Array Value) (n : Nat), K.lookup a = some o ∧ o.cls = .type "list" ∧ o.dict = none ∧ o.data = .seq its n ∧ its.size ≤ sizeLine ∧ Vals xs its.toList
def SqT (K : PySem.W.Frag) (H : Hp) (a : Addr) (xs : List V) : Prop :=
  Rd H a (.tup xs) ∨
    ∃ (o : Obj) (its : Array Value) (n : Nat), K.lookup a = some o ∧ o.cls = .type "tuple" ∧ o.data = .seq its n ∧ its.size ≤ sizeLine ∧ Vals xs its.toList
def absV : Value → Option V
  | .none => some .non
  | .bool b => some (.bl b)
  | .int i _ => some (.int i)
  | .str x _ => some (.str x)
  | .bytes b _ => some (.byt b)
  | .float b _ => some (.flt b)
  | .ref a => some (.ref a)
  | .type n => some (.ty n)
  | _ => none
theorem RelV.abs {x : V} {u : Value} (r : RelV x u) : absV u = some x := by
  cases x with
  | non => cases r; rfl
  | bl _ => cases r; rfl
  | int _ => obtain ⟨t, rfl⟩ := r; rfl
  | str _ => obtain ⟨t, rfl⟩ := r; rfl
  | byt _ => obtain ⟨t, rfl⟩ := r; rfl
  | flt _ => obtain ⟨t, rfl⟩ := r; rfl
  | ref _ => cases r; rfl
  | ty _ => cases r; rfl
theorem RelV.inj {x y : V} {u : Value} (r : RelV x u) (q : RelV y u) : x = y := Option.some.inj (r.abs.symm.trans q.abs)
theorem Vals.inj : ∀ {xs ys : List V} {us : List Value}, Vals xs us → Vals ys us → xs = ys
  | _, _, _, .nil, .nil => rfl
  | _, _, _, .cons r t, .cons r' t' => by rw [r.inj r', Vals.inj t t']
section
variable {X : Cx} {pins : List (Addr × Obj)} {σ : St} {H : Hp} {s : Shared} {a : Addr} {xs ys : List V}
theorem SqL.of {K : PySem.W.Frag} (h : H a = some (.lst xs)) : SqL K H a xs := .inl (.inl h)
theorem SqT.of {K : PySem.W.Frag} (h : H a = some (.tup xs)) : SqT K H a xs := .inl (.inl h)
theorem Inv.list (I : Inv X pins σ H s) (h : SqL X.K H a xs) : ∃ its : List Value, Vals xs its ∧ PlainL s.heap a its.toArray ∧ xs.length ≤ sizeLine := by
  rcases h with h | ⟨o, its, n, hk, hc, hd, hs, hz, r⟩
  · obtain ⟨z, its, n, r, e⟩ := h.ok I.hok
    exact ⟨its, r, ⟨_, n, e, rfl, rfl, rfl⟩, z⟩
  · refine ⟨its.toList, r, ⟨o, n, I.kIn a o hk, hc, hd, by simpa using hs⟩, ?_⟩
    have e := r.length
    simp only [Array.length_toList] at e
    omega
theorem Inv.tuple (I : Inv X pins σ H s) (h : SqT X.K H a xs) : ∃ its : List Value, Vals xs its ∧ IsTup s.heap a its.toArray ∧ xs.length ≤ sizeLine := by
  rcases h with h | ⟨o, its, n, hk, hc, hs, hz, r⟩
  · obtain ⟨z, its, r, p⟩ := h.ok I.hok
    exact ⟨its, r, p, z⟩
  · refine ⟨its.toList, r, ⟨o, I.kIn a o hk, hc, n, by simpa using hs⟩, ?_⟩
    have e := r.length
    simp only [Array.length_toList] at e
    omega
theorem Inv.list_inj (I : Inv X pins σ H s) (h : SqL X.K H a xs) (h' : SqL X.K H a ys) : xs = ys := by
  obtain ⟨its, r, ⟨o, n, e, _, _, d⟩, _⟩ := I.list h
  obtain ⟨its', r', ⟨o', n', e', _, _, d'⟩, _⟩ := I.list h'
  rw [e] at e'; cases e'
  rw [d] at d'
  injection d' with d1 _
  have : its = its' := by simpa using congrArg Array.toList d1
  subst this
  exact r.inj r'
theorem Inv.tuple_inj (I : Inv X pins σ H s) (h : SqT X.K H a xs) (h' : SqT X.K H a ys) : xs = ys := by
  obtain ⟨its, r, ⟨o, e, _, n, d⟩, _⟩ := I.tuple h
  obtain ⟨its', r', ⟨o', e', _, n', d'⟩, _⟩ := I.tuple h'
  rw [e] at e'; cases e'
  rw [d] at d'
  injection d' with d1 _
  have : its = its' := by simpa using congrArg Array.toList d1
  subst this
  exact r.inj r'
end
abbrev Cx.wish (X : Cx) (E : Value → Shared → Prop) : Cx := { X with xe := E }
abbrev Cx.nox (X : Cx) : Cx := X.wish fun _ _ => False
theorem Cx.Ok.wish {X : Cx} (ok : X.Ok) (E : Value → Shared → Prop) : (X.wish E).Ok :=
  ⟨ok.mod, ok.kind, ok.glob, ok.blt, ok.above, ok.inj, ok.has, ok.cab, ok.hd, ok.frames, ok.stk, ok.exf, ok.bs, ok.bsz, ok.noex, ok.exfs, ok.funs, ok.frf⟩
theorem Cx.Ok.unwish {X : Cx} {E : Value → Shared → Prop} (ok : (X.wish E).Ok) : X.Ok :=
  ⟨ok.mod, ok.kind, ok.glob, ok.blt, ok.above, ok.inj, ok.has, ok.cab, ok.hd, ok.frames, ok.stk, ok.exf, ok.bs, ok.bsz, ok.noex, ok.exfs, ok.funs, ok.frf⟩
section
variable {X : Cx} {pins : List (Addr × Obj)} {σ : St} {H : Hp} {s : Shared} {E : Value → Shared → Prop}
theorem Inv.wish (I : Inv X pins σ H s) (E : Value → Shared → Prop) : Inv (X.wish E) pins σ H s := ⟨I.ok.wish E, I.os, I.bare, I.base, I.loc, I.cell, I.free, I.freeC, I.pin, I.hok, I.len⟩
theorem Inv.unwish (I : Inv (X.wish E) pins σ H s) : Inv X pins σ H s := ⟨I.ok.unwish, I.os, I.bare, I.base, I.loc, I.cell, I.free, I.freeC, I.pin, I.hok, I.len⟩
theorem SP.unwish {D : Ends} {f : Flow} {s' : Shared} (h : SP (X.wish E) pins D f s') : SP X pins D f s' := by
  cases f with
  | next => obtain ⟨σ', H', I, q⟩ := h; exact ⟨σ', H', I.unwish, q⟩
  | brk => obtain ⟨σ', H', I, q⟩ := h; exact ⟨σ', H', I.unwish, q⟩
  | cont => obtain ⟨σ', H', I, q⟩ := h; exact ⟨σ', H', I.unwish, q⟩
  | ret u => obtain ⟨v, σ', H', I, r, q⟩ := h; exact ⟨v, σ', H', I.unwish, r, q⟩
theorem PE.nox {e : Expr} {t : TE} (h : PE X.nox e t) : PE X e t := fun pins s σ H Q I hw =>
  wpAny_mono (h pins s σ H Q (I.wish _) hw) (fun _ _ ⟨v, H', I', r, q⟩ => ⟨v, H', I'.unwish, r, q⟩) fun _ _ z => False.elim z
theorem PT.nox {e : Expr} {t : TT} (h : PT X.nox e t) : PT X e t := fun pins s σ H Q I hw =>
  wpAny_mono (h pins s σ H Q (I.wish _) hw) (fun _ _ ⟨H', I', q⟩ => ⟨H', I'.unwish, q⟩) fun _ _ z => False.elim z
theorem PSs.nox {st : List Stmt} {t : TS} (h : PSs X.nox st t) : PSs X st t := fun pins s σ H D I hw =>
  wpAny_mono (h pins s σ H D (I.wish _) hw) (fun _ _ q => q.unwish) fun _ _ z => False.elim z
end
section
variable {X : Cx} {st : Stmt} {rest : List Stmt} {t u : TS} {e : Expr} {te : TE} {pos : Pos}
def tNext : TS := fun D σ H => D.nx σ H
def tSeq (t u : TS) : TS := fun D σ H => t { D with nx := u D } σ H
theorem pss_nil : PSs X [] tNext := fun _ _ σ H _ I h => wpAny_execs_nil ⟨σ, H, I, h⟩
theorem pss_cons (h1 : PS X st t) (h2 : PSs X rest u) : PSs X (st :: rest) (tSeq t u) := by
  intro pins s σ H D I h
  refine wpAny_execs_cons (thn (h1 pins s σ H { D with nx := u D } I h) fun f s1 q => ?_)
  cases f with
  | next =>
    obtain ⟨σ', H', I', q⟩ := q
    exact h2 pins s1 σ' H' D I' q
  | ret v => exact q
  | brk => exact q
  | cont => exact q
theorem pss_one (h1 : PS X st t) : PSs X [st] t := by
  intro pins s σ H D I h
  refine wpAny_execs_cons (thn (h1 pins s σ H D I h) fun f s1 q => ?_)
  cases f with
  | next => exact wpAny_execs_nil q
  | ret v => exact q
  | brk => exact q
  | cont => exact q
def tBreak : TS := fun D σ H => D.bk σ H
def tCont : TS := fun D σ H => D.ct σ H
theorem ps_pass : PS X (.Pass pos) tNext := fun _ _ σ H _ I h => wpAny_Pass ⟨σ, H, I, h⟩
theorem ps_break : PS X (.Break pos) tBreak := fun _ _ σ H _ I h => wpAny_Break ⟨σ, H, I, h⟩
theorem ps_continue : PS X (.Continue pos) tCont := fun _ _ σ H _ I h => wpAny_Continue ⟨σ, H, I, h⟩
theorem Inv.quiet {pins : List (Addr × Obj)} {σ : St} {H : Hp} {s : Shared} (I : Inv X pins σ H s) : interactive X.env = false := by simp [interactive, I.ok.kind]
theorem ps_doc {x j pos pos'} : PS X (.Expr (.Constant (.str x) j pos) pos') tNext := fun _ s σ H _ I h => wpAny_Expr (Calls.Constant_str (show SP X _ _ .next { s with toks := s.toks + 1 } from ⟨σ, H, I.tok _, h⟩)) I.quiet
def tDrop (te : TE) : TS := fun D σ H => te σ H fun _ H1 => D.nx σ H1
theorem ps_expr (he : PE X e te) (hs : swapsWith e none pos.line X.env = pure false := by rfl) : PS X (.Expr e pos) (tDrop te) := by
  intro pins s σ H D I h
  exact wpAny_Expr_any (thn (he pins s σ H _ I h) fun v s1 ⟨x, H1, I1, r1, q1⟩ => ⟨σ, H1, I1, q1⟩) I.quiet hs
def tRet (te : TE) : TS := fun D σ H => te σ H D.rt
theorem ps_ret (he : PE X e te) : PS X (.Return (some e) pos) (tRet te) := by
  intro pins s σ H D I h
  exact wpAny_Return_some (thn (he pins s σ H _ I h) fun v s1 ⟨x, H1, I1, r1, q1⟩ => ⟨x, σ, H1, I1, r1, q1⟩)
def tRetN : TS := fun D _ H => D.rt .non H
theorem ps_retN : PS X (.Return none pos) tRetN := fun _ _ σ H _ I h => wpAny_Return_none ⟨.non, σ, H, I, rfl, h⟩
def tIfS (c : TT) (t u : TS) : TS := fun D σ H => c σ H fun b H1 => if b = true then t D σ H1 else u D σ H1
theorem ps_if {c : Expr} {a b : List Stmt} {tc : TT} (hc : PT X c tc) (ha : PSs X a t) (hb : PSs X b u) : PS X (.If c a b pos) (tIfS tc t u) := by
  intro pins s σ H D I h
  refine wpAny_If (thn (hc pins s σ H _ I h) fun d s1 ⟨H1, I1, q1⟩ => ?_)
  cases d with
  | true => exact ha pins s1 σ H1 D I1 q1
  | false => exact hb pins s1 σ H1 D I1 q1
def tNever : TS := fun _ _ _ => False
theorem ps_never : PS X st tNever := fun _ _ _ _ _ _ h => h.elim
theorem pss_never {sts : List Stmt} : PSs X sts tNever := fun _ _ _ _ _ _ h => h.elim
end
abbrev TG := V → St → Hp → (St → Hp → Prop) → Prop
abbrev TGs := List V → St → Hp → (St → Hp → Prop) → Prop
def PG (X : Cx) (target : Expr) (t : TG) : Prop :=
  ∀ (pins : List (Addr × Obj)) (s : Shared) (σ : St) (H : Hp) (v : V) (u : Value) (Q : St → Hp → Prop), Inv X pins σ H s → RelV v u → t v σ H Q →
    wpAny (model X.prog X.w) X.A (assign target X.env u) (fun _ s' => ∃ σ' H', Inv X pins σ' H' s' ∧ Q σ' H') X.xe s
def PGs (X : Cx) (ts : List Expr) (t : TGs) : Prop :=
  ∀ (pins : List (Addr × Obj)) (s : Shared) (σ : St) (H : Hp) (vs : List V) (us : List Value) (Q : St → Hp → Prop), Inv X pins σ H s → Vals vs us → t vs σ H Q →
    wpAny (model X.prog X.w) X.A (assignInOrder ((assignEach ts X.env).map (·.2)) us) (fun _ s' => ∃ σ' H', Inv X pins σ' H' s' ∧ Q σ' H') X.xe s
abbrev TSet := V → V → V → Hp → (Hp → Prop) → Prop
def PSet (X : Cx) (t : TSet) : Prop :=
  ∀ (pins : List (Addr × Obj)) (s : Shared) (σ : St) (H : Hp) (o i v : V) (ov iv u : Value) (Q : Hp → Prop), Inv X pins σ H s → RelV o ov → RelV i iv → RelV v u → t o i v H Q →
    wpAny (model X.prog X.w) X.A (setItem ov iv u) (fun _ s' => ∃ H', Inv X pins σ H' s' ∧ Q H') X.xe s
abbrev TIp := V → V → Hp → VK → Prop
def PIp (X : Cx) (op : Operator) (t : TIp) : Prop :=
  ∀ (pins : List (Addr × Obj)) (s : Shared) (σ : St) (H : Hp) (x y : V) (v u : Value) (Q : VK), Inv X pins σ H s → RelV x v → RelV y u → t x y H Q →
    wpAny (model X.prog X.w) X.A (inplaceOp op v u) (EP X pins σ Q) X.xe s
section
variable {X : Cx} {pos : Pos}
def gName (i : Nat) : TG := fun v σ H Q => Q (σ.set i (some v)) H
theorem pg_name {i : Nat} {x : Str} (hN : X.N.Nodup) (hi : X.N[i]? = some x) (hx : Loc X.env.scope x) (hf : X.fn x = true ∨ X.env.scope.names.lookup x = some .local := by first | exact .inl rfl | exact .inr rfl | assumption) : PG X (.Name x pos) (gName i) := by
  intro pins s σ H v u Q I r h
  exact wpAny_assign_Name (store_ok I hN hi hx r (fun s' I' => ⟨_, H, I', h⟩) hf)
def gNil : TGs := fun vs σ H Q => vs = [] ∧ Q σ H
def gCons (t : TG) (u : TGs) : TGs := fun vs σ H Q => ∃ v r, vs = v :: r ∧ t v σ H fun σ' H' => u r σ' H' Q
theorem pgs_nil : PGs X [] gNil := by
  intro pins s σ H vs us Q I r h
  obtain ⟨e, h⟩ := h
  subst e
  cases r
  exact assignInOrder_nil ⟨σ, H, I, h⟩
theorem pgs_cons {e : Expr} {es : List Expr} {t : TG} {u : TGs} (h1 : PG X e t) (h2 : PGs X es u)
    (hs : (assignEach (e :: es) X.env).map (·.2) = assign e X.env :: (assignEach es X.env).map (·.2) := by rfl) : PGs X (e :: es) (gCons t u) := by
  intro pins s σ H vs us Q I r h
  obtain ⟨v, vr, e1, h⟩ := h
  subst e1
  cases r with
  | cons r rr =>
    rw [hs]
    refine assignInOrder_cons (thn (h1 pins s σ H _ _ _ I r h) fun _ s1 ⟨σ1, H1, I1, q1⟩ => ?_)
    exact h2 pins s1 σ1 H1 _ _ Q I1 rr q1
def gTup (K : PySem.W.Frag) (n : Nat) (t : TGs) : TG := fun v σ H Q => ∃ a xs, v = .ref a ∧ SqT K H a xs ∧ xs.length = n ∧ t xs σ H Q
theorem pg_tup {es : List Expr} {k : Nat} {t : TGs} {n : Nat} (hc : X.calm = true) (h : PGs X es t)
    (hn : (assignEach es X.env).length = n := by rfl) (hst : (assignEach es X.env).findIdx? (·.1) = none := by rfl) : PG X (.Tuple es k pos) (gTup X.K n t) := by
  intro pins s σ H v u Q I r hw
  obtain ⟨a, xs, e1, hq, hl, hw⟩ := hw
  subst e1
  cases r
  obtain ⟨its, rv, ht, hz⟩ := I.tuple hq
  refine assign_Tuple_tuple (I.ok.hd hc) ht (by simp [hn, ← hl, rv.length]) hst fun h' hx => ?_
  have I1 : Inv X pins σ H { s with heap := h' } := I.kept (t' := s.toks) fun b o e => hx b o (Nat.ne_of_lt (Heap.lt_size e)) e
  exact h pins _ σ H xs _ Q I1 (by simpa using rv) hw
def gSub (to ti : TE) (t : TSet) : TG := fun v σ H Q => to σ H fun o H1 => ti σ H1 fun i H2 => t o i v H2 fun H3 => Q σ H3
theorem pg_sub {o i : Expr} {to ti : TE} {t : TSet} (ho : PE X o to) (hi : PE X i ti) (hs : PSet X t)
    (ha : ∀ v, assign (.Subscript o i pos) X.env v = (do
      let ov ← holding [v] (eval o X.env)
      let iv ← holding [v, ov] (eval i X.env)
      standAt pos
      holding [v, ov, iv] (setItem ov iv v)
      release [v, ov, iv] []) := by intro _; rfl) : PG X (.Subscript o i pos) (gSub to ti t) := by
  intro pins s σ H v u Q I r h
  rw [ha]
  refine wpAny_bind (wpAny_holding (thn (ho pins s σ H _ I h) fun ov s1 ⟨x, H1, I1, r1, q1⟩ => ?_))
  refine wpAny_bind (wpAny_holding (thn (hi pins s1 σ H1 _ I1 q1) fun iv s2 ⟨y, H2, I2, r2, q2⟩ => ?_))
  refine wpAny_bind (wpAny_standAt (wpAny_bind (wpAny_holding (thn (hs pins s2 σ H2 x y v ov iv u _ I2 r1 r2 r q2) fun _ s3 ⟨H3, I3, q3⟩ => ?_))))
  exact wpAny_release ⟨σ, H3, I3, q3⟩
def tAsg (te : TE) (g : TG) : TS := fun D σ H => te σ H fun x H1 => g x σ H1 D.nx
theorem ps_asg {tg e : Expr} {te : TE} {g : TG} (he : PE X e te) (hg : PG X tg g) (hs : swapsWithSole [tg] e pos.line X.env = pure false := by rfl) (hw : swappedStores [tg] e X.env = pure none := by rfl)
    (h1 : (assignEach [tg] X.env).map (·.2) = [assign tg X.env] := by rfl) : PS X (.Assign [tg] e pos) (tAsg te g) := by
  intro pins s σ H D I h
  refine wpAny_Assign_stores (thn (he pins s σ H _ I h) fun v s1 ⟨x, H1, I1, r1, q1⟩ => ?_) hs hw
  rw [h1]
  exact thn (hg pins s1 σ H1 x v _ I1 r1 q1) fun _ s2 q => q
theorem ps_set {i : Nat} {x : Str} {e : Expr} {te : TE} {pos' : Pos} (hN : X.N.Nodup) (hi : X.N[i]? = some x) (hx : Loc X.env.scope x) (he : PE X e te) (hs : swapsWith e (some (.Name x pos')) pos.line X.env = pure false := by rfl) (hf : X.fn x = true ∨ X.env.scope.names.lookup x = some .local := by first | exact .inl rfl | exact .inr rfl | assumption) :
    PS X (.Assign [.Name x pos'] e pos) (tAsg te (gName i)) := by
  intro pins s σ H D I h
  refine wpAny_Assign_Name (thn (he pins s σ H _ I h) fun v s1 ⟨y, H1, I1, r1, q1⟩ => ?_) hs
  exact store_ok I1 hN hi hx r1 (fun s2 I2 => ⟨_, H1, I2, q1⟩) hf
def tPar (i j : Nat) (ta : TA) : TS := fun D σ H => ta σ H fun vs H1 => ∃ v w, vs = [v, w] ∧ D.nx ((σ.set i (some v)).set j (some w)) H1
theorem ps_par {i j : Nat} {x y : Str} {a b : Expr} {ta : TA} {px py pt : Pos} {kt k2 pt2} (hc : X.calm = true) (hN : X.N.Nodup) (hi : X.N[i]? = some x) (hj : X.N[j]? = some y) (hij : i ≠ j)
    (hx : X.env.scope.names.lookup x = some .local) (hy : X.env.scope.names.lookup y = some .local) (ha : PA X [a, b] ta)
    (hw : swappedStores [.Tuple [.Name x px, .Name y py] kt pt] (.Tuple [a, b] k2 pt2) X.env = pure (some [x, y]))
    (hs : swapsWithSole [.Tuple [.Name x px, .Name y py] kt pt] (.Tuple [a, b] k2 pt2) pos.line X.env = pure false := by rfl) :
    PS X (.Assign [.Tuple [.Name x px, .Name y py] kt pt] (.Tuple [a, b] k2 pt2) pos) (tPar i j ta) := by
  intro pins s σ H D I h
  rw [exec_Assign_arm]
  refine wpAny_bind (wpAny_standAt ?_)
  rw [hs]
  refine wpAny_bind (wpAny_pure ?_)
  rw [if_neg (by decide)]
  refine wpAny_bind (Tuple_ (thn (ha _ pins s σ H _ I h) fun us s1 ⟨vs, H1, I1, r1, q1⟩ => ?_))
  obtain ⟨v, w, e1, q1⟩ := q1
  subst e1
  obtain ⟨u1, u2, rfl, rv, rw'⟩ : ∃ u1 u2, us = [u1, u2] ∧ RelV v u1 ∧ RelV w u2 := by
    cases r1 with
    | cons p q =>
      cases q with
      | cons p' q' =>
        cases q'
        exact ⟨_, _, rfl, p, p'⟩
  refine wpAny_newObj_type ?_ (by show 2 ≤ sizeLine; decide)
  have I2 : Inv X pins σ H1 { s1 with heap := s1.heap.push { cls := .type "tuple", data := .seq [u1, u2].toArray } } := I1.kept (t' := s1.toks) fun b o e => Heap.get?_push_of_some _ e
  rw [hw]
  refine wpAny_bind (wpAny_pure ?_)
  show wpAny (model X.prog X.w) X.A (do rule "assign.swapped-stores"; let items ← unpackItems (.ref s1.heap.objs.size) 2 none; assignInOrder [fun v => bindName X.env y v, fun v => bindName X.env x v] items.reverse; pure Flow.next) _ _ _
  refine wpAny_bind (wpAny_rule (wpAny_bind (unpackItems_tuple (items := #[u1, u2]) (I.ok.hd hc) (IsTup.new s1.heap _) fun h' hx' => ?_)))
  have I3 := I2.kept (h' := h') (t' := s1.toks) fun b o e => hx' b o (Nat.ne_of_lt (Heap.lt_size e)) e
  show wpAny _ _ (assignInOrder [fun v => bindName X.env y v, fun v => bindName X.env x v] [u2, u1] >>= fun _ => pure Flow.next) _ _ _
  refine wpAny_bind (assignInOrder_cons (wpAny_bindName (store_ok I3 hN hj (.inl hy) rw' (fun s2 I4 => ?_) (.inr hy))))
  refine assignInOrder_cons (wpAny_bindName (store_ok I4 hN hi (.inl hx) rv (fun s3 I5 => assignInOrder_nil (wpAny_pure ?_)) (.inr hx)))
  rw [List.set_comm _ _ (Ne.symm hij)] at I5
  exact ⟨_, H1, I5, q1⟩
def tAug (i : Nat) (te : TE) (ti : TIp) : TS := fun D σ H => ∃ x, σ[i]? = some (some x) ∧ te σ H fun y H1 => ti x y H1 fun z H2 => D.nx (σ.set i (some z)) H2
theorem ps_aug {i : Nat} {x : Str} {e : Expr} {te : TE} {op : Operator} {ti : TIp} {pos' : Pos} (hN : X.N.Nodup) (hi : X.N[i]? = some x) (hx : Loc X.env.scope x) (he : PE X e te) (ho : PIp X op ti) (hf : X.fn x = true ∨ X.env.scope.names.lookup x = some .local := by first | exact .inl rfl | exact .inr rfl | assumption) :
    PS X (.AugAssign (.Name x pos') op e pos) (tAug i te ti) := by
  intro pins s σ H D I h
  obtain ⟨v, e1, h⟩ := h
  obtain ⟨m, hn, hl⟩ := I.loc
  have vis : Vis X.env.scope x := by rcases hx with k | k; exact .inl k; exact .inr (.inl k)
  obtain ⟨u, r, l⟩ := hl i x v hi e1 vis
  refine wpAny_AugAssign_Name ?_
  have go : wpAny (model X.prog X.w) X.A (eval e X.env) (fun w s₂ => wpAny (model X.prog X.w) X.A (inplaceOp op u w) (fun r s₃ => wpAny (model X.prog X.w) X.A (storeName X.env x r) (fun _ => SP X pins D .next) X.xe s₃) X.xe s₂) X.xe s := by
    refine thn (he pins s σ H _ I h) fun w s1 ⟨y, H1, I1, r1, q1⟩ => ?_
    refine thn (ho pins s1 σ H1 v y u w _ I1 r r1 q1) fun z s2 ⟨zv, H2, I2, r2, q2⟩ => ?_
    exact store_ok I2 hN hi hx r2 (fun s3 I3 => ⟨_, H2, I3, q2⟩) hf
  rcases l with ⟨hk, hm⟩ | ⟨hk, c, hc, hcell⟩
  · exact wpAny_loadName_local I.ok.kind hk hn hm go
  · rcases hk with hk | hk
    · exact wpAny_loadName_cell I.ok.kind hk hc hcell go
    · rcases hx with k | k
      · have : X.env.scope.names.lookup x = some .free := hk
        rw [k] at this; cases this
      · have : X.env.scope.names.lookup x = some .free := hk
        rw [k] at this; cases this
def tAugS (to ti te : TE) (tget : V → V → Hp → VK → Prop) (tip : TIp) (tset : TSet) : TS := fun D σ H => to σ H fun o H1 => ti σ H1 fun i H2 => tget o i H2 fun x H3 => te σ H3 fun y H4 => tip x y H4 fun z H5 => tset o i z H5 fun H6 => D.nx σ H6
def PGet (X : Cx) (t : V → V → Hp → VK → Prop) : Prop :=
  ∀ (pins : List (Addr × Obj)) (s : Shared) (σ : St) (H : Hp) (o i : V) (ov iv : Value) (Q : VK), Inv X pins σ H s → RelV o ov → RelV i iv → t o i H Q →
    wpAny (model X.prog X.w) X.A (getItem ov iv) (EP X pins σ Q) X.xe s
theorem ps_augS {o i e : Expr} {to ti te : TE} {tget : V → V → Hp → VK → Prop} {tip : TIp} {tset : TSet} {op : Operator} {tpos : Pos} (ho : PE X o to) (hi : PE X i ti) (hg : PGet X tget) (he : PE X e te) (hp : PIp X op tip) (hs : PSet X tset)
    (ha : ∀ ov iv new, augStore i ov iv new = (do holding [new, ov, iv] (setItem ov iv new); release [new, ov, iv] []; pure .next) := by intros; rfl) : PS X (.AugAssign (.Subscript o i tpos) op e pos) (tAugS to ti te tget tip tset) := by
  intro pins s σ H D I h
  refine wpAny_AugAssign_SubscriptAny (thn (ho pins s σ H _ I h) fun ov s1 ⟨x1, H1, I1, r1, q1⟩ => ?_) ha
  refine thn (hi pins s1 σ H1 _ I1 q1) fun iv s2 ⟨x2, H2, I2, r2, q2⟩ => ?_
  refine thn (hg pins s2 σ H2 x1 x2 ov iv _ I2 r1 r2 q2) fun old s3 ⟨x3, H3, I3, r3, q3⟩ => ?_
  refine thn (he pins s3 σ H3 _ I3 q3) fun v s4 ⟨x4, H4, I4, r4, q4⟩ => ?_
  refine thn (hp pins s4 σ H4 x3 x4 old v _ I4 r3 r4 q4) fun new s5 ⟨x5, H5, I5, r5, q5⟩ => ?_
  exact thn (hs pins s5 σ H5 x1 x2 x5 ov iv new _ I5 r1 r2 r5 q5) fun _ s6 ⟨H6, I6, q6⟩ => ⟨σ, H6, I6, q6⟩
def ipI (f : Int → Int → Int) : TIp := fun x y H Q => ∃ i j, x = .int i ∧ y = .int j ∧ Q (.int (f i j)) H
theorem ip_add : PIp X .Add (ipI fun i j => i + j) := by
  intro pins s σ H x y v u Q I r1 r2 h
  obtain ⟨i, j, e1, e2, q⟩ := h
  subst e1; subst e2
  obtain ⟨t, rfl⟩ := r1
  obtain ⟨t', rfl⟩ := r2
  exact iadd_int ⟨.int _, H, I.tok _, ⟨_, rfl⟩, q⟩
theorem ip_sub : PIp X .Sub (ipI fun i j => i - j) := by
  intro pins s σ H x y v u Q I r1 r2 h
  obtain ⟨i, j, e1, e2, q⟩ := h
  subst e1; subst e2
  obtain ⟨t, rfl⟩ := r1
  obtain ⟨t', rfl⟩ := r2
  exact isub_int ⟨.int _, H, I.tok _, ⟨_, rfl⟩, q⟩
end
section
variable {X : Cx} {pos : Pos}
def tWhile (c : TT) (tb : TS) : TS := fun D σ H => ∃ W : Nat → St → Hp → Prop, (∃ m, W m σ H) ∧ ∀ m σ H, W m σ H →
  c σ H fun b H1 => if b = true then ∃ N : St → Hp → Prop, (∀ σ' H', N σ' H' → ∃ m', m' < m ∧ W m' σ' H') ∧ tb { D with nx := N, ct := N, bk := D.nx } σ H1 else D.nx σ H1
theorem ps_while {c : Expr} {body : List Stmt} {tc : TT} {tb : TS} (hp : PassesOwn (model X.prog X.w) X.A X.env X.xe) (hc : PT X c tc) (hb : PSs X body tb) : PS X (.While c body [] pos) (tWhile tc tb) := by
  intro pins s σ H D I h
  obtain ⟨W, ⟨m0, w0⟩, turn⟩ := h
  refine wpAny_While (codeAny_whileLoop (fun n s' => ∃ σ' H', Inv X pins σ' H' s' ∧ W n σ' H') ?_ m0 ⟨σ, H, I, w0⟩)
  rintro n s1 ⟨σ1, H1, I1, w1⟩
  refine wpAny_passesOwn hp (thn (hc pins s1 σ1 H1 _ I1 (turn n σ1 H1 w1)) fun b s2 ⟨H2, I2, q2⟩ => ?_)
  cases b with
  | true =>
    obtain ⟨N, hN, q2⟩ := q2
    rw [if_pos rfl]
    refine wpAny_passesOwn hp (thn (hb pins s2 σ1 H2 _ I2 q2) fun f s3 q3 => ?_)
    cases f with
    | next =>
      obtain ⟨σ3, H3, I3, n3⟩ := q3
      obtain ⟨m', hm, w3⟩ := hN σ3 H3 n3
      exact ⟨m', hm, σ3, H3, I3, w3⟩
    | cont =>
      obtain ⟨σ3, H3, I3, n3⟩ := q3
      obtain ⟨m', hm, w3⟩ := hN σ3 H3 n3
      exact ⟨m', hm, σ3, H3, I3, w3⟩
    | brk => exact q3
    | ret v => exact q3
  | false =>
    rw [if_neg Bool.false_ne_true]
    exact wpAny_execs_nil ⟨σ1, H2, I2, q2⟩
end
structure It where
  go : Nat → Hp → Prop
  yld : Nat → Hp → V → Hp → Prop
  stop : Nat → Hp → Prop
def FpOk (X : Cx) (pins : List (Addr × Obj)) (H : Hp) (b : Addr) : Prop :=
  H b = none ∧ b ≠ X.env.locals ∧ b ∉ X.fs ∧ (b ∈ X.ex ∨ X.s₀.heap.objs.size ≤ b) ∧ (∀ x c, X.env.cells.lookup x = some c → c ≠ b) ∧ ∀ p ∈ X.pn ++ pins, p.1 ≠ b
theorem Inv.fpOk {X : Cx} {pins : List (Addr × Obj)} {σ : St} {H H' : Hp} {s : Shared} {b : Addr} (I : Inv X pins σ H s) (hb : s.heap.objs.size ≤ b) (hn : H' b = none) : FpOk X pins H' b := by
  refine ⟨hn, Nat.ne_of_gt (Nat.lt_of_lt_of_le I.lt hb), I.nofs hb, .inr (Nat.le_trans I.sz hb), fun x c e z => ?_, fun p hp z => ?_⟩
  · obtain ⟨v, q⟩ := I.cell x c e
    exact absurd (Nat.lt_of_lt_of_le q.lt (by rw [z]; exact hb)) (Nat.lt_irrefl _)
  · exact absurd (Nat.lt_of_lt_of_le (Heap.lt_size (I.pin p hp).1) (by rw [z]; exact hb)) (Nat.lt_irrefl _)
structure Turn (P : Program) (w : World) (K : PySem.W.Frag) (tg : Expr) (J : It) (fp : List Addr) (it : Addr) (tn : Nat → Heap → Prop) : Prop where
  mem : it ∈ fp
  obj : ∀ i h, tn i h → ∀ b ∈ fp, ∃ o, h.get? b = some o ∧ ∀ v, o.data ≠ .cell v
  keep : ∀ i h h', tn i h → (∀ b ∈ fp, ∀ o, h.get? b = some o → h'.get? b = some o) → tn i h'
  item : ∀ (X : Cx), X.prog = P → X.w = w → X.K = K → X.calm = true → ∀ (i : Nat) (pins : List (Addr × Obj)) (s : Shared) (σ : St) (H : Hp) (E : Value → Shared → Prop), Inv X pins σ H s → (∀ b ∈ fp, FpOk X pins H b) → tn i s.heap → J.go i H →
    wpAny (model P w) X.A (pyNext (.ref it)) (fun r s1 => ∃ u, r = some u ∧
      wpAny (model P w) X.A (letOwnedTupleGo tg (.ref it) u) (fun _ s2 => ∃ x H', Inv X pins σ H' s2 ∧ RelV x u ∧ J.yld i H x H' ∧ tn (i + 1) s2.heap ∧ ∀ b ∈ fp, H' b = none) E s1) E s
  done : ∀ (X : Cx), X.prog = P → X.w = w → X.K = K → X.calm = true → ∀ (i : Nat) (pins : List (Addr × Obj)) (s : Shared) (σ : St) (H : Hp) (E : Value → Shared → Prop), Inv X pins σ H s → (∀ b ∈ fp, FpOk X pins H b) → tn i s.heap → J.stop i H →
    wpAny (model P w) X.A (pyNext (.ref it)) (fun r s1 => r = none ∧ Inv X pins σ H s1) E s
  self : ∀ (A : Around) (i : Nat) (s : Shared) (Q : Value → Shared → Prop) (E : Value → Shared → Prop), tn i s.heap → Q (.ref it) s → wpAny (model P w) A (pyIter (.ref it)) Q E s
abbrev TI := St → Hp → (It → Hp → Prop) → Prop
def PIE (X : Cx) (pins : List (Addr × Obj)) (σ : St) (tg : Expr) (R : It → Hp → Prop) (itv : Value) (s2 : Shared) : Prop :=
  ∃ (it : Addr) (fp : List Addr) (tn : Nat → Heap → Prop) (J : It) (H' : Hp), itv = .ref it ∧ Inv X pins σ H' s2 ∧ Turn X.prog X.w X.K tg J fp it tn ∧ tn 0 s2.heap ∧ (∀ b ∈ fp, FpOk X pins H' b) ∧ R J H'
def PI (X : Cx) (tg iter : Expr) (wi : TI) : Prop :=
  ∀ (pins : List (Addr × Obj)) (s : Shared) (σ : St) (H : Hp) (R : It → Hp → Prop), Inv X pins σ H s → wi σ H R →
    wpAny (model X.prog X.w) X.A (eval iter X.env) (fun v s1 => wpAny (model X.prog X.w) X.A (pyIter v) (PIE X pins σ tg R) X.xe s1) X.xe s
theorem go_of {M : Model} {A : Around} {E : Value → Shared → Prop} {s : Shared} {tg : Expr} {it : Addr} {u : Value} {o : Obj} {n : String} {vs : Array Value} {Q : Unit → Shared → Prop} (ho : s.heap.get? it = some o) (hc : o.cls = .type n) (hd : o.data = .fields vs)
    (hn : ["enumerate", "zip", "dict_itemiterator", "dict_reverseitemiterator", "odict_iterator", "itertools.zip_longest", "itertools.pairwise"].contains n = false) (hQ : Q () s) : wpAny M A (letOwnedTupleGo tg (.ref it) u) Q E s := by
  unfold letOwnedTupleGo
  cases tg <;> first
    | exact wpAny_pure hQ
    | (cases u <;> first
        | exact wpAny_pure hQ
        | (refine wpAny_bind (wpAny_load ho ?_)
           rw [hc, hd]
           show wpAny M A (if (["enumerate", "zip", "dict_itemiterator", "dict_reverseitemiterator", "odict_iterator", "itertools.zip_longest", "itertools.pairwise"].contains n && vs[0]? == some (rawInt _)) = true then _ else _) Q E s
           rw [if_neg (by intro h; rw [hn, Bool.false_and] at h; cases h)]
           exact wpAny_pure hQ))
def Itl (K : PySem.W.Frag) (a : Addr) : It :=
  ⟨fun i H => ∃ xs x, SqL K H a xs ∧ xs[i]? = some x, fun i H x H' => H' = H ∧ ∀ xs, SqL K H a xs → xs[i]? = some x, fun i H => ∃ xs, SqL K H a xs ∧ xs.length ≤ i⟩
def Itt (K : PySem.W.Frag) (a : Addr) : It :=
  ⟨fun i H => ∃ xs x, SqT K H a xs ∧ xs[i]? = some x, fun i H x H' => H' = H ∧ ∀ xs, SqT K H a xs → xs[i]? = some x, fun i H => ∃ xs, SqT K H a xs ∧ xs.length ≤ i⟩
def Itr (lo : Int) (n : Nat) : It := ⟨fun i _ => i < n, fun i H x H' => H' = H ∧ x = .int (lo + i), fun i _ => n ≤ i⟩
theorem turn_list {P : Program} {w : World} {K : PySem.W.Frag} {tg : Expr} (a it : Addr) : Turn P w K tg (Itl K a) [it] it (fun i h => h.IsListIter it a i) where
  mem := by simp
  obj := fun i h st b hb => by
    have e : b = it := by simpa using hb
    subst e
    obtain ⟨o, e, c, d⟩ := st
    exact ⟨o, e, fun v z => by rw [d] at z; cases z⟩
  keep := fun i h h' st k => st.at fun o e => k it (by simp) o e
  item := by
    intro X hP hw hK hc i pins s σ H E I hf st hg
    subst hP hw hK
    obtain ⟨xs, x, hq, hx⟩ := hg
    obtain ⟨its, rv, p, hz⟩ := I.list hq
    obtain ⟨u, hu, ru⟩ := rv.get hx
    obtain ⟨f0, f1, f2, f3, f4, f5⟩ := hf it (by simp)
    refine wpAny_pyNext_list_item st p.isList (x := u) (by simpa using hu) fun h' st' sb => ?_
    have I1 : Inv X pins σ H { s with heap := h' } := I.turned (t' := s.toks) (fun b o hb e => (sb.2 b hb).trans e) f0 f1 f3 f4 f5
    obtain ⟨o, e, c, d⟩ := id st'
    exact ⟨u, rfl, go_of (s := { s with heap := h' }) e c d (by decide) ⟨x, H, I1, ru, ⟨rfl, fun ys hy => by rw [I.list_inj hy hq]; exact hx⟩, st', fun b hb => (hf b hb).1⟩⟩
  done := by
    intro X hP hw hK hc i pins s σ H E I hf st hg
    subst hP hw hK
    obtain ⟨xs, hq, hx⟩ := hg
    obtain ⟨its, rv, p, hz⟩ := I.list hq
    obtain ⟨f0, f1, f2, f3, f4, f5⟩ := hf it (by simp)
    have hl := rv.length
    exact wpAny_pyNext_list_end (I.ok.hd hc) st p.isList (by simp; omega) fun h' eb => ⟨rfl, I.turned (t' := s.toks) (fun b o hb e => eb b o hb e) f0 f1 f3 f4 f5⟩
  self := fun _ _ _ _ _ st h => wpAny_pyIter_listiter st h
theorem turn_tuple {P : Program} {w : World} {K : PySem.W.Frag} {tg : Expr} (a it : Addr) : Turn P w K tg (Itt K a) [it] it (fun i h => h.IsTupleIter it a i) where
  mem := by simp
  obj := fun i h st b hb => by
    have e : b = it := by simpa using hb
    subst e
    obtain ⟨o, e, c, d⟩ := st
    exact ⟨o, e, fun v z => by rw [d] at z; cases z⟩
  keep := fun i h h' st k => st.at fun o e => k it (by simp) o e
  item := by
    intro X hP hw hK hc i pins s σ H E I hf st hg
    subst hP hw hK
    obtain ⟨xs, x, hq, hx⟩ := hg
    obtain ⟨its, rv, p, hz⟩ := I.tuple hq
    obtain ⟨u, hu, ru⟩ := rv.get hx
    obtain ⟨f0, f1, f2, f3, f4, f5⟩ := hf it (by simp)
    refine wpAny_pyNext_tuple_item st (show s.heap.IsTuple a its.toArray from p) (x := u) (by simpa using hu) fun h' st' sb => ?_
    have I1 : Inv X pins σ H { s with heap := h' } := I.turned (t' := s.toks) (fun b o hb e => (sb.2 b hb).trans e) f0 f1 f3 f4 f5
    obtain ⟨o, e, c, d⟩ := id st'
    exact ⟨u, rfl, go_of (s := { s with heap := h' }) e c d (by decide) ⟨x, H, I1, ru, ⟨rfl, fun ys hy => by rw [I.tuple_inj hy hq]; exact hx⟩, st', fun b hb => (hf b hb).1⟩⟩
  done := by
    intro X hP hw hK hc i pins s σ H E I hf st hg
    subst hP hw hK
    obtain ⟨xs, hq, hx⟩ := hg
    obtain ⟨its, rv, p, hz⟩ := I.tuple hq
    obtain ⟨f0, f1, f2, f3, f4, f5⟩ := hf it (by simp)
    have hl := rv.length
    exact wpAny_pyNext_tuple_end (I.ok.hd hc) st (show s.heap.IsTuple a its.toArray from p) (by simp; omega) fun h' eb => ⟨rfl, I.turned (t' := s.toks) (fun b o hb e => eb b o hb e) f0 f1 f3 f4 f5⟩
  self := fun _ _ _ _ _ st h => wpAny_pyIter_tupleiter st h
theorem turn_range {P : Program} {w : World} {K : PySem.W.Frag} {tg : Expr} (it : Addr) (lo : Int) (n : Nat) : Turn P w K tg (Itr lo n) [it] it (fun i h => IsRangeIter h it (lo + (i : Nat) * 1) ((n : Int) - (i : Nat)) 1) where
  mem := by simp
  obj := fun i h st b hb => by
    have e : b = it := by simpa using hb
    subst e
    exact ⟨_, st, fun v z => by
      have z' : Data.fields _ = Data.cell v := z
      cases z'⟩
  keep := fun i h h' st k => k it (by simp) _ st
  item := by
    intro X hP hw hK hc i pins s σ H E I hf st hg
    subst hP hw hK
    obtain ⟨f0, f1, f2, f3, f4, f5⟩ := hf it (by simp)
    have W := Walks.range (prog := X.prog) (w := X.w) (I.ok.hd hc) it lo 1 n
    refine W.item i s _ _ hg st fun v h' tk hv st' kk => ?_
    obtain ⟨t, rfl⟩ := hv
    have I1 : Inv X pins σ H { s with heap := h', toks := tk } := I.turned (fun b o hb e => kk b o (by simpa using hb) e) f0 f1 f3 f4 f5
    refine ⟨_, rfl, go_of (s := { s with heap := h', toks := tk }) (n := "range_iterator") st' rfl rfl (by decide) ⟨.int (lo + i), H, I1, ⟨t, ?_⟩, ⟨rfl, rfl⟩, st', fun b hb => (hf b hb).1⟩⟩
    rw [Int.mul_one]
  done := by
    intro X hP hw hK hc i pins s σ H E I hf st hg
    subst hP hw hK
    obtain ⟨f0, f1, f2, f3, f4, f5⟩ := hf it (by simp)
    exact wpAny_pyNext_range_end (I.ok.hd hc) st (by have : n ≤ i := hg; omega) fun h' eb => ⟨rfl, I.turned (t' := s.toks) (fun b o hb e => eb b o hb e) f0 f1 f3 f4 f5⟩
  self := fun _ _ _ _ _ st h => wpAny_pyIter_rangeiter st h
end L2
namespace L2
open PySem PySem.Spec PyProof.Rows
section
variable {X : Cx} {tg : Expr}
def iList (K : PySem.W.Frag) (tl : TE) : TI := fun σ H R => tl σ H fun x H1 => ∃ a, x = .ref a ∧ (∃ xs, SqL K H1 a xs) ∧ R (Itl K a) H1
def iTup (K : PySem.W.Frag) (tl : TE) : TI := fun σ H R => tl σ H fun x H1 => ∃ a, x = .ref a ∧ (∃ xs, SqT K H1 a xs) ∧ R (Itt K a) H1
theorem pi_list {l : Expr} {tl : TE} (hl : PE X l tl) : PI X tg l (iList X.K tl) := by
  intro pins s σ H R I h
  refine thn (hl pins s σ H _ I h) fun v s1 ⟨x, H1, I1, r1, q1⟩ => ?_
  obtain ⟨a, e, ⟨xs, hq⟩, q⟩ := q1
  subst e
  cases r1
  obtain ⟨its, rv, p, hz⟩ := I1.list hq
  refine wpAny_pyIter_list p.isList ?_
  refine ⟨s1.heap.objs.size, [s1.heap.objs.size], _, _, H1, rfl, I1.kept (t' := s1.toks) fun b o e => Heap.get?_push_of_some _ e, turn_list a _, ⟨_, Heap.get?_push_size _ rfl, rfl, rfl⟩, fun b hb => ?_, q⟩
  have e : b = s1.heap.objs.size := by simpa using hb
  subst e
  exact I1.fpOk (Nat.le_refl _) (I1.hok.fresh (Nat.le_refl _))
theorem pi_tup {l : Expr} {tl : TE} (hl : PE X l tl) : PI X tg l (iTup X.K tl) := by
  intro pins s σ H R I h
  refine thn (hl pins s σ H _ I h) fun v s1 ⟨x, H1, I1, r1, q1⟩ => ?_
  obtain ⟨a, e, ⟨xs, hq⟩, q⟩ := q1
  subst e
  cases r1
  obtain ⟨its, rv, p, hz⟩ := I1.tuple hq
  refine wpAny_pyIter_tuple (show s1.heap.IsTuple a its.toArray from p) ?_
  refine ⟨s1.heap.objs.size, [s1.heap.objs.size], _, _, H1, rfl, I1.kept (t' := s1.toks) fun b o e => Heap.get?_push_of_some _ e, turn_tuple a _, ⟨_, Heap.get?_push_size _ rfl, rfl, rfl⟩, fun b hb => ?_, q⟩
  have e : b = s1.heap.objs.size := by simpa using hb
  subst e
  exact I1.fpOk (Nat.le_refl _) (I1.hok.fresh (Nat.le_refl _))
theorem range_it {pins : List (Addr × Obj)} {σ : St} {H : Hp} {s : Shared} {R : It → Hp → Prop} {E : Value → Shared → Prop} {lo hi : Int} {t u v : Tok} {tk : Nat} (I : Inv X pins σ H s) (h1 : -(2 ^ 62) ≤ lo) (h2 : lo < 2 ^ 62) (h3 : -(2 ^ 62) ≤ hi) (h4 : hi < 2 ^ 62)
    (q : R (Itr lo (hi - lo).toNat) H) : wpAny (model X.prog X.w) X.A (pyIter (.ref s.heap.objs.size)) (PIE X pins σ tg R) E { s with heap := s.heap.push { cls := .type "range", data := .fields #[.int lo t, .int hi u, .int 1 v] }, toks := tk } := by
  refine wpAny_pyIter_range (IsRange.new ..) (small_one h1 h2 h3 h4) ?_
  have I1 : Inv X pins σ H { s with heap := s.heap.push { cls := .type "range", data := .fields #[.int lo t, .int hi u, .int 1 v] }, toks := tk } := I.kept fun b o e => Heap.get?_push_of_some _ e
  refine ⟨(s.heap.push { cls := .type "range", data := .fields #[.int lo t, .int hi u, .int 1 v] }).objs.size, [(s.heap.push { cls := .type "range", data := .fields #[.int lo t, .int hi u, .int 1 v] }).objs.size], _, _, H, rfl,
    I1.kept (t' := tk) fun b o e => Heap.get?_push_of_some _ e, turn_range _ lo (hi - lo).toNat, ?_, fun b hb => ?_, q⟩
  · have e1 : lo + ((0 : Nat) : Int) * 1 = lo := by simp
    have e2 : (((hi - lo).toNat : Nat) : Int) - ((0 : Nat) : Int) = Builtin.Range.rangeSize lo hi 1 := by rw [rangeSize_one]; split <;> omega
    show IsRangeIter _ _ (lo + ((0 : Nat) : Int) * 1) ((((hi - lo).toNat : Nat) : Int) - ((0 : Nat) : Int)) 1
    rw [e1, e2]
    exact Heap.get?_push_size _ rfl
  · have e : b = (s.heap.push { cls := .type "range", data := .fields #[.int lo t, .int hi u, .int 1 v] }).objs.size := by simpa using hb
    subst e
    exact I1.fpOk (Nat.le_refl _) (I1.hok.fresh (Nat.le_refl _))
def iRng1 (ta : TA) : TI := fun σ H R => ta σ H fun vs H1 => ∃ j : Int, vs = [.int j] ∧ -(2 ^ 62) ≤ j ∧ j < 2 ^ 62 ∧ R (Itr 0 j.toNat) H1
def iRng2 (ta : TA) : TI := fun σ H R => ta σ H fun vs H1 => ∃ i j : Int, vs = [.int i, .int j] ∧ (-(2 ^ 62) ≤ i ∧ i < 2 ^ 62 ∧ -(2 ^ 62) ≤ j ∧ j < 2 ^ 62) ∧ R (Itr i (j - i).toNat) H1
theorem pi_range1 {a : Expr} {ta : TA} {p pos : Pos} (hg : Gl X "range") (hm : X.mg "range" = none) (ha : PA X [a] ta) (hs : starEach [a] X.env = [(false, eval a X.env)] := by rfl) : PI X tg (.Call (.Name "range" p) [a] [] pos) (iRng1 ta) := by
  intro pins s σ H R I h
  refine Call_ (ld_blt I hg hm boot_range (PyProof.Rows.callWith_type1 (thn (ha pos pins s σ H _ I h) fun us s1 ⟨vs, H1, I1, r1, q1⟩ => ?_) hs rfl))
  obtain ⟨j, e, q1, q2, q⟩ := q1
  subst e
  cases r1 with
  | cons r rr =>
    cases rr
    obtain ⟨t, rfl⟩ := r
    exact call_range_1 (range_it I1 (by omega) (by omega) q1 q2 (by simpa using q))
theorem pi_range2 {a b : Expr} {ta : TA} {p pos : Pos} (hg : Gl X "range") (hm : X.mg "range" = none) (ha : PA X [a, b] ta) (hs : starEach [a, b] X.env = [(false, eval a X.env), (false, eval b X.env)] := by rfl) (hs2 : starEach [b] X.env = [(false, eval b X.env)] := by rfl) :
    PI X tg (.Call (.Name "range" p) [a, b] [] pos) (iRng2 ta) := by
  intro pins s σ H R I h
  refine Call_ (ld_blt I hg hm boot_range (PyProof.Rows.callWith_type1 (thn (ha pos pins s σ H _ I h) fun us s1 ⟨vs, H1, I1, r1, q1⟩ => ?_) (by rw [hs, hs2]) (by rw [hs2]; rfl)))
  obtain ⟨i, j, e, ⟨q1, q2, q3, q4⟩, q⟩ := q1
  subst e
  cases r1 with
  | cons r rr =>
    cases rr with
    | cons r' rr =>
      cases rr
      obtain ⟨t, rfl⟩ := r
      obtain ⟨t', rfl⟩ := r'
      exact call_range_2 (range_it I1 q1 q2 q3 q4 q)
def tFor (wi : TI) (g : TG) (tb : TS) : TS := fun D σ H => wi σ H fun J H1 => ∃ W : Nat → Nat → St → Hp → Prop, (∃ m, W 0 m σ H1) ∧ ∀ i m σ H, W i m σ H →
  (J.stop i H ∧ D.nx σ H) ∨ (J.go i H ∧ ∃ N : St → Hp → Prop, (∀ σ' H', N σ' H' → ∃ m', m' < m ∧ W (i + 1) m' σ' H') ∧ ∀ x H', J.yld i H x H' → g x σ H' fun σ2 H2 => tb { D with nx := N, ct := N, bk := D.nx } σ2 H2)
def pinsAt (fp : List Addr) (h : Heap) : List (Addr × Obj) := fp.filterMap fun b => (h.get? b).map fun o => (b, o)
theorem mem_pinsAt {fp : List Addr} {h : Heap} {b : Addr} {o : Obj} (hb : b ∈ fp) (e : h.get? b = some o) : (b, o) ∈ pinsAt fp h := List.mem_filterMap.mpr ⟨b, hb, by rw [e]; rfl⟩
theorem of_pinsAt {fp : List Addr} {h : Heap} {p : Addr × Obj} (hp : p ∈ pinsAt fp h) : p.1 ∈ fp ∧ h.get? p.1 = some p.2 := by
  obtain ⟨b, hb, e⟩ := List.mem_filterMap.mp hp
  cases q : h.get? b with
  | none => rw [q] at e; cases e
  | some o =>
    rw [q] at e
    have e' : (b, o) = p := Option.some.inj e
    subst e'
    exact ⟨hb, q⟩
theorem Inv.pinned {pins : List (Addr × Obj)} {σ : St} {H : Hp} {s : Shared} {fp : List Addr} (I : Inv X pins σ H s) (hf : ∀ b ∈ fp, FpOk X pins H b) (ho : ∀ b ∈ fp, ∃ o, s.heap.get? b = some o ∧ ∀ v, o.data ≠ .cell v) : Inv X (pins ++ pinsAt fp s.heap) σ H s :=
  I.pins_of fun p hp => (List.mem_append.mp hp).elim (fun z => I.pin p (List.mem_append_right _ z)) fun z => by
    obtain ⟨hb, e⟩ := of_pinsAt z
    obtain ⟨f0, f1, f2, _⟩ := hf p.1 hb
    obtain ⟨o, e', d⟩ := ho p.1 hb
    rw [e] at e'; cases e'
    exact ⟨e, f0, f1, f2, d⟩
theorem Inv.unpinned {pins pl : List (Addr × Obj)} {σ : St} {H : Hp} {s : Shared} (I : Inv X (pins ++ pl) σ H s) : Inv X pins σ H s := I.pins_of fun p hp => I.pin p (List.mem_append_right _ (List.mem_append_left _ hp))
theorem ps_for {iter : Expr} {body : List Stmt} {wi : TI} {g : TG} {tb : TS} {pos : Pos} (hp : PassesOwn (model X.prog X.w) X.A X.env X.xe) (hc : X.calm = true) (hi : PI X tg iter wi) (hg : PG X tg g) (hb : PSs X body tb)
    (hs : ∀ x, foldedSetIterable iter X.env x = pure x := by intro _; rfl) : PS X (.For tg iter body [] pos) (tFor wi g tb) := by
  intro pins s σ H D I h
  refine wpAny_For (thn (hi pins s σ H _ I h) fun v s1 h1 => thn h1 fun itv s2 h2 => ?_) hs
  obtain ⟨it, fp, tn, J, H2, e, I2, T, st2, f2, W, ⟨m0, w0⟩, turn⟩ := h2
  subst e
  have stat : ∀ {H' : Hp}, (∀ b ∈ fp, H' b = none) → ∀ b ∈ fp, FpOk X pins H' b := fun hn b hb => ⟨hn b hb, (f2 b hb).2⟩
  refine codeAny_forLoop_any (fun n s' => ∃ i σ' H', Inv X pins σ' H' s' ∧ tn i s'.heap ∧ (∀ b ∈ fp, H' b = none) ∧ W i n σ' H') ?_ m0 ⟨0, σ, H2, I2, st2, fun b hb => (f2 b hb).1, w0⟩
  rintro n s3 ⟨i, σ3, H3, I3, st3, fr3, w3⟩
  rcases turn i n σ3 H3 w3 with ⟨stop, qn⟩ | ⟨go, N, hN, step⟩
  · refine wpAny_passesOwn hp (thn (T.done X rfl rfl rfl hc i pins s3 σ3 H3 X.xe I3 (stat fr3) st3 stop) fun r s4 ⟨hr, I4⟩ => ?_)
    subst hr
    exact wpAny_execs_nil ⟨σ3, H3, I4, qn⟩
  · refine wpAny_passesOwn hp (thn (T.item X rfl rfl rfl hc i pins s3 σ3 H3 X.xe I3 (stat fr3) st3 go) fun r s4 ⟨u, hr, h4⟩ => ?_)
    subst hr
    refine wpAny_passesOwn hp (thn h4 fun _ s5 ⟨x, H5, I5, r5, y5, st5, fr5⟩ => ?_)
    have I5' := I5.pinned (stat fr5) (T.obj _ _ st5)
    refine wpAny_passesOwn hp (thn (hg _ s5 σ3 H5 x u _ I5' r5 (step x H5 y5)) fun _ s6 ⟨σ6, H6, I6, q6⟩ => ?_)
    refine wpAny_passesOwn hp (thn (hb _ s6 σ6 H6 _ I6 q6) fun f s7 q7 => ?_)
    have again : ∀ {σ7 : St} {H7 : Hp}, Inv X (pins ++ pinsAt fp s5.heap) σ7 H7 s7 → N σ7 H7 → ∃ m, m < n ∧ ∃ i σ' H', Inv X pins σ' H' s7 ∧ tn i s7.heap ∧ (∀ b ∈ fp, H' b = none) ∧ W i m σ' H' := fun {σ7 H7} I7 n7 => by
      obtain ⟨m', hm, w7⟩ := hN σ7 H7 n7
      refine ⟨m', hm, i + 1, σ7, H7, I7.unpinned, T.keep _ _ _ st5 fun b hb o e => (I7.pin (b, o) (List.mem_append_right _ (List.mem_append_right _ (mem_pinsAt hb e)))).1, fun b hb => ?_, w7⟩
      obtain ⟨o, e, d⟩ := T.obj _ _ st5 b hb
      exact (I7.pin (b, o) (List.mem_append_right _ (List.mem_append_right _ (mem_pinsAt hb e)))).2.1
    cases f with
    | next => obtain ⟨σ7, H7, I7, n7⟩ := q7; exact again I7 n7
    | cont => obtain ⟨σ7, H7, I7, n7⟩ := q7; exact again I7 n7
    | brk => obtain ⟨σ7, H7, I7, q7⟩ := q7; exact ⟨σ7, H7, I7.unpinned, q7⟩
    | ret v => obtain ⟨x7, σ7, H7, I7, r7, q7⟩ := q7; exact ⟨x7, σ7, H7, I7.unpinned, r7, q7⟩
end
theorem for_list {K : PySem.W.Frag} {a : Addr} {xs : List V} {g : TG} {tb : TS} {D : Ends} {σ : St} {H : Hp} (Pv : Nat → St → Hp → Prop) (h0 : Pv 0 σ H) (hl : ∀ i σ H, i ≤ xs.length → Pv i σ H → SqL K H a xs)
    (hs : ∀ i x σ H, xs[i]? = some x → Pv i σ H → g x σ H fun σ2 H2 => tb { D with nx := Pv (i + 1), ct := Pv (i + 1), bk := D.nx } σ2 H2) (hd : ∀ σ H, Pv xs.length σ H → D.nx σ H) :
    ∃ W : Nat → Nat → St → Hp → Prop, (∃ m, W 0 m σ H) ∧ ∀ i m σ H, W i m σ H →
      ((Itl K a).stop i H ∧ D.nx σ H) ∨ ((Itl K a).go i H ∧ ∃ N : St → Hp → Prop, (∀ σ' H', N σ' H' → ∃ m', m' < m ∧ W (i + 1) m' σ' H') ∧ ∀ x H', (Itl K a).yld i H x H' → g x σ H' fun σ2 H2 => tb { D with nx := N, ct := N, bk := D.nx } σ2 H2) := by
  refine ⟨fun i m σ H => m = xs.length - i ∧ i ≤ xs.length ∧ Pv i σ H, ⟨xs.length, by simp, Nat.zero_le _, h0⟩, ?_⟩
  rintro i m σ H ⟨rfl, hi, p⟩
  have q := hl i σ H hi p
  by_cases hlt : i < xs.length
  · refine .inr ⟨⟨xs, xs[i], q, by simp [hlt]⟩, Pv (i + 1), fun σ' H' p' => ⟨xs.length - (i + 1), by omega, rfl, hlt, p'⟩, fun x H' y => ?_⟩
    obtain ⟨e, y⟩ := y
    subst e
    exact hs i x σ _ (y xs q) p
  · have e : i = xs.length := by omega
    subst e
    exact .inl ⟨⟨xs, q, Nat.le_refl _⟩, hd σ H p⟩
theorem for_tup {K : PySem.W.Frag} {a : Addr} {xs : List V} {g : TG} {tb : TS} {D : Ends} {σ : St} {H : Hp} (Pv : Nat → St → Hp → Prop) (h0 : Pv 0 σ H) (hl : ∀ i σ H, i ≤ xs.length → Pv i σ H → SqT K H a xs)
    (hs : ∀ i x σ H, xs[i]? = some x → Pv i σ H → g x σ H fun σ2 H2 => tb { D with nx := Pv (i + 1), ct := Pv (i + 1), bk := D.nx } σ2 H2) (hd : ∀ σ H, Pv xs.length σ H → D.nx σ H) :
    ∃ W : Nat → Nat → St → Hp → Prop, (∃ m, W 0 m σ H) ∧ ∀ i m σ H, W i m σ H →
      ((Itt K a).stop i H ∧ D.nx σ H) ∨ ((Itt K a).go i H ∧ ∃ N : St → Hp → Prop, (∀ σ' H', N σ' H' → ∃ m', m' < m ∧ W (i + 1) m' σ' H') ∧ ∀ x H', (Itt K a).yld i H x H' → g x σ H' fun σ2 H2 => tb { D with nx := N, ct := N, bk := D.nx } σ2 H2) := by
  refine ⟨fun i m σ H => m = xs.length - i ∧ i ≤ xs.length ∧ Pv i σ H, ⟨xs.length, by simp, Nat.zero_le _, h0⟩, ?_⟩
  rintro i m σ H ⟨rfl, hi, p⟩
  have q := hl i σ H hi p
  by_cases hlt : i < xs.length
  · refine .inr ⟨⟨xs, xs[i], q, by simp [hlt]⟩, Pv (i + 1), fun σ' H' p' => ⟨xs.length - (i + 1), by omega, rfl, hlt, p'⟩, fun x H' y => ?_⟩
    obtain ⟨e, y⟩ := y
    subst e
    exact hs i x σ _ (y xs q) p
  · have e : i = xs.length := by omega
    subst e
    exact .inl ⟨⟨xs, q, Nat.le_refl _⟩, hd σ H p⟩
theorem for_range {lo : Int} {n : Nat} {g : TG} {tb : TS} {D : Ends} {σ : St} {H : Hp} (Pv : Nat → St → Hp → Prop) (h0 : Pv 0 σ H)
    (hs : ∀ i σ H, i < n → Pv i σ H → g (.int (lo + i)) σ H fun σ2 H2 => tb { D with nx := Pv (i + 1), ct := Pv (i + 1), bk := D.nx } σ2 H2) (hd : ∀ σ H, Pv n σ H → D.nx σ H) :
    ∃ W : Nat → Nat → St → Hp → Prop, (∃ m, W 0 m σ H) ∧ ∀ i m σ H, W i m σ H →
      ((Itr lo n).stop i H ∧ D.nx σ H) ∨ ((Itr lo n).go i H ∧ ∃ N : St → Hp → Prop, (∀ σ' H', N σ' H' → ∃ m', m' < m ∧ W (i + 1) m' σ' H') ∧ ∀ x H', (Itr lo n).yld i H x H' → g x σ H' fun σ2 H2 => tb { D with nx := N, ct := N, bk := D.nx } σ2 H2) := by
  refine ⟨fun i m σ H => m = n - i ∧ i ≤ n ∧ Pv i σ H, ⟨n, by simp, Nat.zero_le _, h0⟩, ?_⟩
  rintro i m σ H ⟨rfl, hi, p⟩
  by_cases hlt : i < n
  · refine .inr ⟨hlt, Pv (i + 1), fun σ' H' p' => ⟨n - (i + 1), by omega, rfl, hlt, p'⟩, fun x H' y => ?_⟩
    obtain ⟨e, y⟩ := y
    subst e y
    exact hs i σ _ hlt p
  · have e : i = n := by omega
    subst e
    exact .inl ⟨Nat.le_refl _, hd σ H p⟩
theorem while_by {c : TT} {tb : TS} {D : Ends} {σ : St} {H : Hp} (Pv : St → Hp → Prop) (μ : St → Hp → Nat) (h0 : Pv σ H)
    (hs : ∀ σ H, Pv σ H → c σ H fun b H1 => if b = true then tb { D with nx := fun σ' H' => Pv σ' H' ∧ μ σ' H' < μ σ H, ct := fun σ' H' => Pv σ' H' ∧ μ σ' H' < μ σ H, bk := D.nx } σ H1 else D.nx σ H1)
    (mono : ∀ σ H Q Q', (∀ b H1, Q b H1 → Q' b H1) → c σ H Q → c σ H Q') : tWhile c tb D σ H := by
  refine ⟨fun m σ H => m = μ σ H ∧ Pv σ H, ⟨_, rfl, h0⟩, ?_⟩
  rintro m σ H ⟨rfl, p⟩
  refine mono σ H _ _ (fun b H1 q => ?_) (hs σ H p)
  cases b with
  | true => exact ⟨_, fun σ' H' ⟨p', l⟩ => ⟨_, l, rfl, p'⟩, q⟩
  | false => exact q
end L2
namespace L2
open PySem PySem.Spec PyProof.Rows
abbrev R2 := V → V → Hp → VK → Prop
def OpR (X : Cx) (f : Value → Value → Sem Value) (r : R2) : Prop :=
  ∀ (pins : List (Addr × Obj)) (s : Shared) (σ : St) (H : Hp) (x y : V) (v u : Value) (Q : VK), Inv X pins σ H s → RelV x v → RelV y u → r x y H Q →
    wpAny (model X.prog X.w) X.A (f v u) (EP X pins σ Q) X.xe s
def UnR (X : Cx) (f : Value → Sem Value) (r : V → Hp → VK → Prop) : Prop :=
  ∀ (pins : List (Addr × Obj)) (s : Shared) (σ : St) (H : Hp) (x : V) (v : Value) (Q : VK), Inv X pins σ H s → RelV x v → r x H Q →
    wpAny (model X.prog X.w) X.A (f v) (EP X pins σ Q) X.xe s
def CallR (X : Cx) (f : Value) (r : List V → Hp → VK → Prop) : Prop :=
  ∀ (pins : List (Addr × Obj)) (s : Shared) (σ : St) (H : Hp) (xs : List V) (us : List Value) (Q : VK), Inv X pins σ H s → Vals xs us → r xs H Q →
    wpAny (model X.prog X.w) X.A (call f us) (EP X pins σ Q) X.xe s
def TruR (X : Cx) (r : V → Hp → (Bool → Hp → Prop) → Prop) : Prop :=
  ∀ (pins : List (Addr × Obj)) (s : Shared) (σ : St) (H : Hp) (x : V) (v : Value) (Q : Bool → Hp → Prop), Inv X pins σ H s → RelV x v → r x H Q →
    wpAny (model X.prog X.w) X.A (truthy v) (TP X pins σ Q) X.xe s
def tOp (r : R2) (ta tb : TE) : TE := fun σ H Q => ta σ H fun x H1 => tb σ H1 fun y H2 => r x y H2 Q
def tUn (r : V → Hp → VK → Prop) (ta : TE) : TE := fun σ H Q => ta σ H fun x H1 => r x H1 Q
def rI (C : Int → Int → Prop) (g : Int → Int → V) : R2 := fun x y H Q => ∃ i j, x = .int i ∧ y = .int j ∧ C i j ∧ Q (g i j) H
def rI0 (g : Int → Int → V) : R2 := fun x y H Q => ∃ i j, x = .int i ∧ y = .int j ∧ Q (g i j) H
def rU (g : Int → V) : V → Hp → VK → Prop := fun x H Q => ∃ i, x = .int i ∧ Q (g i) H
section
variable {X : Cx} {a b c : Expr} {ta tb tc : TE} {pos : Pos}
theorem binT (ha : PE X a ta) (hb : PE X b tb) {pins : List (Addr × Obj)} {s : Shared} {σ : St} {H : Hp} {R : V → V → Hp → Prop} (I : Inv X pins σ H s)
    (h : ta σ H fun x H1 => tb σ H1 fun y H2 => R x y H2) {Q : Value → Shared → Prop} {f : Value → Value → Sem Value}
    (hf : ∀ v u s2 x y H2, Inv X pins σ H2 s2 → RelV x v → RelV y u → R x y H2 → wpAny (model X.prog X.w) X.A (f v u) Q X.xe s2) :
    wpAny (model X.prog X.w) X.A (eval a X.env) (fun v s₁ => wpAny (model X.prog X.w) X.A (eval b X.env) (fun u s₂ => wpAny (model X.prog X.w) X.A (f v u) Q X.xe s₂) X.xe s₁) X.xe s := by
  refine thn (ha pins s σ H _ I h) fun v s1 ⟨x, H1, I1, r1, q1⟩ => ?_
  refine thn (hb pins s1 σ H1 _ I1 q1) fun u s2 ⟨y, H2, I2, r2, q2⟩ => ?_
  exact hf v u s2 x y H2 I2 r1 r2 q2
theorem pe_op {op : Operator} {r : R2} (ho : OpR X (binaryOp op) r) (ha : PE X a ta) (hb : PE X b tb) : PE X (.BinOp a op b pos) (tOp r ta tb) := by
  intro pins s σ H Q I h
  exact wpAny_BinOp (binT ha hb I h fun v u s2 x y H2 I2 rx ry q => ho pins s2 σ H2 x y v u Q I2 rx ry q)
theorem pe_un {op : UnaryOp} {r : V → Hp → VK → Prop} (ho : UnR X (unaryOp op) r) (ha : PE X a ta) : PE X (.UnaryOp op a pos) (tUn r ta) := by
  intro pins s σ H Q I h
  exact UnaryOp_ (thn (ha pins s σ H _ I h) fun v s1 ⟨x, H1, I1, r1, q1⟩ => ho pins s1 σ H1 x v Q I1 r1 q1)
theorem augR {op : Operator} {r : R2} (ho : OpR X (inplaceOp op) r) {pins : List (Addr × Obj)} {s : Shared} {σ : St} {H : Hp} {x y : V} {v u : Value} {Q : VK} (I : Inv X pins σ H s)
    (rx : RelV x v) (ry : RelV y u) (q : r x y H Q) : wpAny (model X.prog X.w) X.A (inplaceOp op v u) (EP X pins σ Q) X.xe s := ho pins s σ H x y v u Q I rx ry q
theorem opI {f : Value → Value → Sem Value} {C : Int → Int → Prop} {g : Int → Int → Int}
    (rule : ∀ (i j : Int) (t u : Tok) (s : Shared) (Q : Value → Shared → Prop) (E : Value → Shared → Prop), C i j → Q (.int (g i j) s.toks) { s with toks := s.toks + 1 } → wpAny (model X.prog X.w) X.A (f (.int i t) (.int j u)) Q E s) :
    OpR X f (rI C fun i j => .int (g i j)) := by
  intro pins s σ H x y v u Q I rx ry h
  obtain ⟨i, j, rfl, rfl, hc, q⟩ := h
  obtain ⟨t, rfl⟩ := rx
  obtain ⟨t', rfl⟩ := ry
  exact rule i j t t' s _ _ hc ⟨.int (g i j), H, I.tok _, ⟨_, rfl⟩, q⟩
theorem opI0 {f : Value → Value → Sem Value} {g : Int → Int → Int}
    (rule : ∀ (i j : Int) (t u : Tok) (s : Shared) (Q : Value → Shared → Prop) (E : Value → Shared → Prop), Q (.int (g i j) s.toks) { s with toks := s.toks + 1 } → wpAny (model X.prog X.w) X.A (f (.int i t) (.int j u)) Q E s) :
    OpR X f (rI0 fun i j => .int (g i j)) := by
  intro pins s σ H x y v u Q I rx ry h
  obtain ⟨i, j, rfl, rfl, q⟩ := h
  obtain ⟨t, rfl⟩ := rx
  obtain ⟨t', rfl⟩ := ry
  exact rule i j t t' s _ _ ⟨.int (g i j), H, I.tok _, ⟨_, rfl⟩, q⟩
theorem opB0 {f : Value → Value → Sem Value} {g : Int → Int → Bool}
    (rule : ∀ (i j : Int) (t u : Tok) (s : Shared) (Q : Value → Shared → Prop) (E : Value → Shared → Prop), Q (.bool (g i j)) s → wpAny (model X.prog X.w) X.A (f (.int i t) (.int j u)) Q E s) :
    OpR X f (rI0 fun i j => .bl (g i j)) := by
  intro pins s σ H x y v u Q I rx ry h
  obtain ⟨i, j, rfl, rfl, q⟩ := h
  obtain ⟨t, rfl⟩ := rx
  obtain ⟨t', rfl⟩ := ry
  exact rule i j t t' s _ _ ⟨.bl (g i j), H, I, rfl, q⟩
def CDiv (i j : Int) : Prop := 0 < j ∧ j < 1073741824
def CDivN (i j : Int) : Prop := j ≠ 0 ∧ j.natAbs < 1073741824
def CPow (i j : Int) : Prop := 0 ≤ j ∧ j ≤ 1000000 ∧ i.natAbs < 2 ^ 64
def CMul (i j : Int) : Prop := (-(2 ^ 64) < i ∧ i < 2 ^ 64) ∨ (-(2 ^ 64) < j ∧ j < 2 ^ 64)
theorem CMul.ok {i j : Int} (h : CMul i j) : IntMulOk i j := by
  rcases h with ⟨h1, h2⟩ | ⟨h1, h2⟩
  · exact .of_left (intBits_le_64 h1 h2)
  · exact .of_right (intBits_le_64 h1 h2)
theorem two_pow_nn (k : Nat) : (0 : Int) ≤ 2 ^ k := by
  rw [two_pow_cast]
  exact Int.natCast_nonneg _
theorem op_add : OpR X (binaryOp .Add) (rI0 fun i j => .int (i + j)) := opI0 fun _ _ _ _ _ _ _ q => add_int q
theorem op_sub : OpR X (binaryOp .Sub) (rI0 fun i j => .int (i - j)) := opI0 fun _ _ _ _ _ _ _ q => sub_int q
theorem op_mul : OpR X (binaryOp .Mult) (rI CMul fun i j => .int (i * j)) := opI fun _ _ _ _ _ _ _ hc q => mul_int q hc.ok
theorem op_fdiv : OpR X (binaryOp .FloorDiv) (rI CDiv fun i j => .int (i / j)) := opI fun i j _ _ _ _ _ hc q => by
  have h1 : (0 : Int) < j := hc.1
  have h2 : j < 1073741824 := hc.2
  exact floordiv_int (by omega) (by rw [Int.fdiv_eq_ediv_of_nonneg i (by omega)]; exact q) (.inl (PyProof.noPylong_small (by omega)))
theorem op_fdivN : OpR X (binaryOp .FloorDiv) (rI CDivN fun i j => .int (i.fdiv j)) := opI fun _ _ _ _ _ _ _ hc q => floordiv_int hc.1 q (.inl (PyProof.noPylong_small hc.2))
theorem op_mod : OpR X (binaryOp .Mod) (rI (fun _ j => 0 < j) fun i j => .int (i % j)) := opI fun i j _ _ _ _ _ hc q => by
  have h1 : (0 : Int) < j := hc
  exact mod_int' (by omega) (by rw [Int.fmod_eq_emod_of_nonneg i (by omega)]; exact q)
theorem op_modN : OpR X (binaryOp .Mod) (rI (fun _ j => j ≠ 0) fun i j => .int (i.fmod j)) := opI fun _ _ _ _ _ _ _ hc q => mod_int' hc q
theorem op_pow : OpR X (binaryOp .Pow) (rI CPow fun i j => .int (i ^ j.toNat)) := opI fun _ _ _ _ _ _ _ hc q => pow_int_small hc.1 hc.2.1 hc.2.2 q
theorem op_shl : OpR X (binaryOp .LShift) (rI CPow fun i j => .int (i * 2 ^ j.toNat)) := opI fun _ _ _ _ _ _ _ hc q => lshift_int_small hc.1 hc.2.1 hc.2.2 q
theorem op_shr : OpR X (binaryOp .RShift) (rI (fun _ j => 0 ≤ j) fun i j => .int (i / 2 ^ j.toNat)) := opI fun i j _ _ _ _ _ hc q =>
  rshift_int hc (by rw [Int.fdiv_eq_ediv_of_nonneg i (two_pow_nn _)]; exact q)
theorem op_and : OpR X (binaryOp .BitAnd) (rI0 fun i j => .int (Builtin.bitAnd i j)) := opI0 fun _ _ _ _ _ _ _ q => and_int q
theorem op_or : OpR X (binaryOp .BitOr) (rI0 fun i j => .int (Builtin.bitOr i j)) := opI0 fun _ _ _ _ _ _ _ q => or_int q
theorem op_xor : OpR X (binaryOp .BitXor) (rI0 fun i j => .int (Builtin.bitXor i j)) := opI0 fun _ _ _ _ _ _ _ q => xor_int q
theorem iop_add : OpR X (inplaceOp .Add) (rI0 fun i j => .int (i + j)) := opI0 fun _ _ _ _ _ _ _ q => iadd_int q
theorem iop_sub : OpR X (inplaceOp .Sub) (rI0 fun i j => .int (i - j)) := opI0 fun _ _ _ _ _ _ _ q => isub_int q
theorem iop_mul : OpR X (inplaceOp .Mult) (rI CMul fun i j => .int (i * j)) := opI fun _ _ _ _ _ _ _ hc q => imul_int q hc.ok
theorem iop_fdiv : OpR X (inplaceOp .FloorDiv) (rI CDiv fun i j => .int (i / j)) := opI fun i j _ _ _ _ _ hc q => by
  have h1 : (0 : Int) < j := hc.1
  have h2 : j < 1073741824 := hc.2
  exact ifloordiv_int (by omega) (by rw [Int.fdiv_eq_ediv_of_nonneg i (by omega)]; exact q) (.inl (PyProof.noPylong_small (by omega)))
theorem iop_mod : OpR X (inplaceOp .Mod) (rI (fun _ j => 0 < j) fun i j => .int (i % j)) := opI fun i j _ _ _ _ _ hc q => by
  have h1 : (0 : Int) < j := hc
  exact imod_int (by omega) (by rw [Int.fmod_eq_emod_of_nonneg i (by omega)]; exact q)
theorem iop_shl : OpR X (inplaceOp .LShift) (rI CPow fun i j => .int (i * 2 ^ j.toNat)) := opI fun _ _ _ _ _ _ _ hc q => ilshift_int_small hc.1 hc.2.1 hc.2.2 q
theorem iop_shr : OpR X (inplaceOp .RShift) (rI (fun _ j => 0 ≤ j) fun i j => .int (i / 2 ^ j.toNat)) := opI fun i j _ _ _ _ _ hc q =>
  irshift_int hc (by rw [Int.fdiv_eq_ediv_of_nonneg i (two_pow_nn _)]; exact q)
theorem iop_and : OpR X (inplaceOp .BitAnd) (rI0 fun i j => .int (Builtin.bitAnd i j)) := opI0 fun _ _ _ _ _ _ _ q => iand_int q
theorem iop_or : OpR X (inplaceOp .BitOr) (rI0 fun i j => .int (Builtin.bitOr i j)) := opI0 fun _ _ _ _ _ _ _ q => ior_int q
theorem iop_xor : OpR X (inplaceOp .BitXor) (rI0 fun i j => .int (Builtin.bitXor i j)) := opI0 fun _ _ _ _ _ _ _ q => ixor_int q
theorem unI {f : Value → Sem Value} {g : Int → Int}
    (rule : ∀ (i : Int) (t : Tok) (s : Shared) (Q : Value → Shared → Prop) (E : Value → Shared → Prop), Q (.int (g i) s.toks) { s with toks := s.toks + 1 } → wpAny (model X.prog X.w) X.A (f (.int i t)) Q E s) :
    UnR X f (rU fun i => .int (g i)) := by
  intro pins s σ H x v Q I rx h
  obtain ⟨i, rfl, q⟩ := h
  obtain ⟨t, rfl⟩ := rx
  exact rule i t s _ _ ⟨.int (g i), H, I.tok _, ⟨_, rfl⟩, q⟩
theorem un_neg : UnR X (unaryOp .USub) (rU fun i => .int (-i)) := unI fun _ _ _ _ _ q => neg_int q
theorem un_inv : UnR X (unaryOp .Invert) (rU fun i => .int (Builtin.bitNot i)) := unI fun _ _ _ _ _ q => invert_int q
theorem op_add_ib : OpR X (binaryOp .Add) (fun x y H Q => ∃ i k, x = .int i ∧ y = .bl k ∧ Q (.int (i + b2i k)) H) := by
  intro pins s σ H x y v u Q I rx ry h
  obtain ⟨i, k, rfl, rfl, q⟩ := h
  obtain ⟨t, rfl⟩ := rx
  cases ry
  exact add_int_bool ⟨.int (i + b2i k), H, I.tok _, ⟨_, rfl⟩, q⟩
end
def scal : V → V → Bool
  | .non, .non => true | .non, .int _ => true | .int _, .non => true | .non, .bl _ => true | .bl _, .non => true | .non, .str _ => true | .str _, .non => true
  | .int _, .int _ => true | .bl _, .bl _ => true | .str _, .str _ => true | .byt _, .byt _ => true
  | .int _, .str _ => true | .str _, .int _ => true | .bl _, .str _ => true | .str _, .bl _ => true
  | _, _ => false
def rEq : R2 := fun x y H Q => scal x y = true ∧ Q (.bl (decide (x = y))) H
def rNe : R2 := fun x y H Q => scal x y = true ∧ Q (.bl (!decide (x = y))) H
theorem dec_int {i j : Int} : decide (V.int i = V.int j) = (i == j) := by
  rw [Bool.eq_iff_iff]
  simp
theorem dec_bl {i j : Bool} : decide (V.bl i = V.bl j) = (i == j) := by
  rw [Bool.eq_iff_iff]
  simp
theorem dec_str {i j : Str} : decide (V.str i = V.str j) = (i == j) := by
  rw [Bool.eq_iff_iff]
  simp
theorem dec_byt {i j : Array UInt8} : decide (V.byt i = V.byt j) = (i.toList == j.toList) := by
  rw [Bool.eq_iff_iff]
  cases i
  cases j
  simp
section
variable {X : Cx} {a b c : Expr} {ta tb tc : TE} {pos : Pos}
theorem fin_bl {pins : List (Addr × Obj)} {σ : St} {H : Hp} {s : Shared} {Q : VK} {k k' : Bool} (I : Inv X pins σ H s) (q : Q (.bl k) H) (e : k = k') : EP X pins σ Q (.bool k') s := by
  subst e
  exact ⟨.bl k, H, I, rfl, q⟩
theorem op_eq : OpR X (compareOp .Eq) rEq := by
  intro pins s σ H x y v u Q I rx ry h
  obtain ⟨hs, q⟩ := h
  cases x with
  | non =>
    cases rx
    cases y with
    | non => cases ry; exact PySem.EqNone.eq_none_none (fin_bl I q (by simp))
    | bl j => cases ry; exact PySem.EqNone.eq_none_bool (fin_bl I q (by simp))
    | int j => obtain ⟨t', rfl⟩ := ry; exact PySem.EqNone.eq_none_int (fin_bl I q (by simp))
    | str j => obtain ⟨t', rfl⟩ := ry; exact PySem.EqNone.eq_none_str (fin_bl I q (by simp))
    | _ => exact absurd (show false = true from hs) Bool.false_ne_true
  | bl i =>
    cases rx
    cases y with
    | non => cases ry; exact PySem.EqNone.eq_bool_none (fin_bl I q (by simp))
    | bl j => cases ry; exact eq_bool (fin_bl I q dec_bl)
    | str j => obtain ⟨t', rfl⟩ := ry; exact PySem.EqMixed.eq_bool_str (fin_bl I q (by simp))
    | _ => exact absurd (show false = true from hs) Bool.false_ne_true
  | int i =>
    obtain ⟨t, rfl⟩ := rx
    cases y with
    | non => cases ry; exact PySem.EqNone.eq_int_none (fin_bl I q (by simp))
    | int j => obtain ⟨t', rfl⟩ := ry; exact eq_int (fin_bl I q dec_int)
    | str j => obtain ⟨t', rfl⟩ := ry; exact PySem.EqMixed.eq_int_str (fin_bl I q (by simp))
    | _ => exact absurd (show false = true from hs) Bool.false_ne_true
  | str i =>
    obtain ⟨t, rfl⟩ := rx
    cases y with
    | non => cases ry; exact PySem.EqNone.eq_str_none (fin_bl I q (by simp))
    | bl j => cases ry; exact PySem.EqMixed.eq_str_bool (fin_bl I q (by simp))
    | int j => obtain ⟨t', rfl⟩ := ry; exact PySem.EqMixed.eq_str_int (fin_bl I q (by simp))
    | str j => obtain ⟨t', rfl⟩ := ry; exact eq_str (fin_bl I q dec_str)
    | _ => exact absurd (show false = true from hs) Bool.false_ne_true
  | byt i =>
    obtain ⟨t, rfl⟩ := rx
    cases y with
    | byt j => obtain ⟨t', rfl⟩ := ry; exact PySem.W.eq_bytes (fin_bl I q dec_byt)
    | _ => exact absurd (show false = true from hs) Bool.false_ne_true
  | _ => cases y <;> exact absurd (show false = true from hs) Bool.false_ne_true
theorem op_ne : OpR X (compareOp .NotEq) rNe := by
  intro pins s σ H x y v u Q I rx ry h
  obtain ⟨hs, q⟩ := h
  cases x with
  | non =>
    cases rx
    cases y with
    | non => cases ry; exact PySem.EqNone.ne_none_none (fin_bl I q (by simp))
    | bl j => cases ry; exact PySem.EqNone.ne_none_bool (fin_bl I q (by simp))
    | int j => obtain ⟨t', rfl⟩ := ry; exact PySem.EqNone.ne_none_int (fin_bl I q (by simp))
    | str j => obtain ⟨t', rfl⟩ := ry; exact PySem.EqNone.ne_none_str (fin_bl I q (by simp))
    | _ => exact absurd (show false = true from hs) Bool.false_ne_true
  | bl i =>
    cases rx
    cases y with
    | non => cases ry; exact PySem.EqNone.ne_bool_none (fin_bl I q (by simp))
    | bl j => cases ry; exact ne_bool (fin_bl I q (congrArg not dec_bl))
    | str j => obtain ⟨t', rfl⟩ := ry; exact PySem.EqMixed.ne_bool_str (fin_bl I q (by simp))
    | _ => exact absurd (show false = true from hs) Bool.false_ne_true
  | int i =>
    obtain ⟨t, rfl⟩ := rx
    cases y with
    | non => cases ry; exact PySem.EqNone.ne_int_none (fin_bl I q (by simp))
    | int j => obtain ⟨t', rfl⟩ := ry; exact ne_int (fin_bl I q (congrArg not dec_int))
    | str j => obtain ⟨t', rfl⟩ := ry; exact PySem.EqMixed.ne_int_str (fin_bl I q (by simp))
    | _ => exact absurd (show false = true from hs) Bool.false_ne_true
  | str i =>
    obtain ⟨t, rfl⟩ := rx
    cases y with
    | non => cases ry; exact PySem.EqNone.ne_str_none (fin_bl I q (by simp))
    | bl j => cases ry; exact PySem.EqMixed.ne_str_bool (fin_bl I q (by simp))
    | int j => obtain ⟨t', rfl⟩ := ry; exact PySem.EqMixed.ne_str_int (fin_bl I q (by simp))
    | str j => obtain ⟨t', rfl⟩ := ry; exact ne_str (fin_bl I q (congrArg not dec_str))
    | _ => exact absurd (show false = true from hs) Bool.false_ne_true
  | byt i =>
    obtain ⟨t, rfl⟩ := rx
    cases y with
    | byt j => obtain ⟨t', rfl⟩ := ry; exact PySem.W.ne_bytes (fin_bl I q (congrArg not dec_byt))
    | _ => exact absurd (show false = true from hs) Bool.false_ne_true
  | _ => cases y <;> exact absurd (show false = true from hs) Bool.false_ne_true
theorem op_lt : OpR X (compareOp .Lt) (rI0 fun i j => .bl (decide (i < j))) := opB0 fun _ _ _ _ _ _ _ q => lt_int q
theorem op_le : OpR X (compareOp .LtE) (rI0 fun i j => .bl (decide (i ≤ j))) := opB0 fun _ _ _ _ _ _ _ q => le_int q
theorem op_gt : OpR X (compareOp .Gt) (rI0 fun i j => .bl (decide (j < i))) := opB0 fun _ _ _ _ _ _ _ q => gt_int q
theorem op_ge : OpR X (compareOp .GtE) (rI0 fun i j => .bl (decide (j ≤ i))) := opB0 fun _ _ _ _ _ _ _ q => ge_int q
theorem op_lt_str : OpR X (compareOp .Lt) (fun x y H Q => ∃ i j, x = .str i ∧ y = .str j ∧ Q (.bl (decide (i.cps.toList < j.cps.toList))) H) := by
  intro pins s σ H x y v u Q I rx ry h
  obtain ⟨i, j, rfl, rfl, q⟩ := h
  obtain ⟨t, rfl⟩ := rx
  obtain ⟨t', rfl⟩ := ry
  exact lt_str (fin_bl I q rfl)
theorem op_in_str : OpR X (compareOp .In) (fun x y H Q => ∃ i j, x = .str i ∧ y = .str j ∧ Q (.bl (!(Builtin.Str.occurrences j i 0 j.length 1).isEmpty)) H) := by
  intro pins s σ H x y v u Q I rx ry h
  obtain ⟨i, j, rfl, rfl, q⟩ := h
  obtain ⟨t, rfl⟩ := rx
  obtain ⟨t', rfl⟩ := ry
  exact in_str (fin_bl I q rfl)
theorem op_isN : OpR X (compareOp .Is) (fun x y H Q => y = .non ∧ Q (.bl (decide (x = .non))) H) := by
  intro pins s σ H x y v u Q I rx ry h
  obtain ⟨rfl, q⟩ := h
  cases ry
  refine is_none_gen (fin_bl I q ?_)
  cases x <;> first
    | (cases rx; rfl)
    | (obtain ⟨t, rfl⟩ := rx; rfl)
theorem op_notN : OpR X (compareOp .IsNot) (fun x y H Q => y = .non ∧ Q (.bl (!decide (x = .non))) H) := by
  intro pins s σ H x y v u Q I rx ry h
  obtain ⟨rfl, q⟩ := h
  cases ry
  refine isnot_none_gen (fin_bl I q ?_)
  cases x <;> first
    | (cases rx; rfl)
    | (obtain ⟨t, rfl⟩ := rx; rfl)
theorem op_notin_str : OpR X (compareOp .NotIn) (fun x y H Q => ∃ i j, x = .str i ∧ y = .str j ∧ Q (.bl (!(!(Builtin.Str.occurrences j i 0 j.length 1).isEmpty))) H) := by
  intro pins s σ H x y v u Q I rx ry h
  obtain ⟨i, j, rfl, rfl, q⟩ := h
  obtain ⟨t, rfl⟩ := rx
  obtain ⟨t', rfl⟩ := ry
  exact notIn_str (fin_bl I q rfl)
def isObj : HO → Bool
  | .lst _ => true
  | .ins _ _ _ => true
  | _ => false
theorem obj_there {pins : List (Addr × Obj)} {s : Shared} {σ : St} {H : Hp} {a : Addr} {o : HO} (I : Inv X pins σ H s) (h : H a = some o) (p : isObj o = true) : ∃ ob, s.heap.get? a = some ob ∧ ob.cls ≠ .type "tuple" := by
  cases o with
  | lst xs =>
    obtain ⟨_, its, n, _, e⟩ : xs.length ≤ sizeLine ∧ ∃ (its : List Value) (n : Nat), Vals xs its ∧ s.heap.get? a = some { cls := .type "list", data := .seq its.toArray n } := I.hok a _ h
    exact ⟨_, e, (by show Value.type "list" ≠ .type "tuple"; decide +kernel)⟩
  | ins C dx fs =>
    have x := I.hok a _ h
    obtain ⟨_, _, _, e, _⟩ := x
    exact ⟨_, e, (by show Value.ref C ≠ .type "tuple"; exact fun z => by cases z)⟩
  | _ => exact absurd (show false = true from p) Bool.false_ne_true
theorem op_is_ref : OpR X (compareOp .Is) (fun x y H Q => ∃ a b oa ob, x = .ref a ∧ y = .ref b ∧ H a = some oa ∧ isObj oa = true ∧ H b = some ob ∧ isObj ob = true ∧ Q (.bl (decide (a = b))) H) := by
  intro pins s σ H x y v u Q I rx ry h
  obtain ⟨a, b, oa, ob, rfl, rfl, ha, pa, hb, pb, q⟩ := h
  cases rx
  cases ry
  obtain ⟨o1, e1, n1⟩ := obj_there I ha pa
  obtain ⟨o2, e2, _⟩ := obj_there I hb pb
  by_cases z : a = b
  · subst z
    exact wpAny_is_ref_self (fin_bl I q (by simp))
  · exact wpAny_is_ref_other z e1 e2 n1 (fin_bl I q (by simp [z]))
theorem op_isnot_ref : OpR X (compareOp .IsNot) (fun x y H Q => ∃ a b oa ob, x = .ref a ∧ y = .ref b ∧ H a = some oa ∧ isObj oa = true ∧ H b = some ob ∧ isObj ob = true ∧ Q (.bl (!decide (a = b))) H) := by
  intro pins s σ H x y v u Q I rx ry h
  obtain ⟨a, b, oa, ob, rfl, rfl, ha, pa, hb, pb, q⟩ := h
  cases rx
  cases ry
  obtain ⟨o1, e1, n1⟩ := obj_there I ha pa
  obtain ⟨o2, e2, _⟩ := obj_there I hb pb
  by_cases z : a = b
  · subst z
    exact wpAny_isNot_ref_self (fin_bl I q (by simp))
  · exact wpAny_isNot_ref_other z e1 e2 n1 (fin_bl I q (by simp [z]))
theorem OpR.or {f : Value → Value → Sem Value} {r r' : R2} (h : OpR X f r) (h' : OpR X f r') : OpR X f (fun x y H Q => r x y H Q ∨ r' x y H Q) := by
  intro pins s σ H x y v u Q I rx ry q
  rcases q with q | q
  · exact h pins s σ H x y v u Q I rx ry q
  · exact h' pins s σ H x y v u Q I rx ry q
theorem nomark (b : Expr) {op : CmpOp} (h : op ≠ .In := by decide) (h2 : op ≠ .NotIn := by decide) : behindInMarks op b = false := by
  have e1 : (op == CmpOp.In) = false := by cases op <;> first | rfl | exact absurd rfl h
  have e2 : (op == CmpOp.NotIn) = false := by cases op <;> first | rfl | exact absurd rfl h2
  cases b <;> simp [behindInMarks, e1, e2]
theorem pe_cmpR {op : CmpOp} {r : R2} (ho : OpR X (compareOp op) r) (ha : PE X a ta) (hb : PE X b tb) (hm : behindInMarks op b = false) : PE X (.Compare a [op] [b] pos) (tOp r ta tb) := by
  intro pins s σ H Q I h
  exact wpAny_Compare1 (binT ha hb I h fun v u s2 x y H2 I2 rx ry q => ho pins s2 σ H2 x y v u Q I2 rx ry q) hm
def tTest (t : TE) : TT := fun σ H Q => t σ H fun x H' => ∃ k, x = .bl k ∧ Q k H'
theorem pt_cmpR {op : CmpOp} {r : R2} (ho : OpR X (compareOp op) r) (ha : PE X a ta) (hb : PE X b tb) (hm : behindInMarks op b = false) : PT X (.Compare a [op] [b] pos) (tTest (tOp r ta tb)) := by
  intro pins s σ H Q I h
  refine wpAny_isTrue_Compare1 (thn (ha pins s σ H _ I h) fun v s1 ⟨x, H1, I1, r1, q1⟩ => thn (hb pins s1 σ H1 _ I1 q1) fun u s2 ⟨y, H2, I2, r2, q2⟩ =>
    thn (ho pins s2 σ H2 x y v u _ I2 r1 r2 q2) fun c s3 ⟨z, H3, I3, r3, k, e, q3⟩ => ?_) hm
  subst e
  cases r3
  exact wpAny_truthy_bool ⟨H3, I3, q3⟩
def tChain (r r' : R2) (ta tb tc : TE) : TE := fun σ H Q => ta σ H fun x H1 => tb σ H1 fun y H2 => r x y H2 fun z H3 => ∃ k, z = .bl k ∧
  (if k = true then tc σ H3 fun w' H4 => r' y w' H4 Q else Q (.bl false) H3)
theorem pe_chain {op op' : CmpOp} {r r' : R2} (ho : OpR X (compareOp op) r) (ho' : OpR X (compareOp op') r') (ha : PE X a ta) (hb : PE X b tb) (hc : PE X c tc)
    (hm : lastMarks [op, op'] [b, c] = false := by with_unfolding_all rfl) : PE X (.Compare a [op, op'] [b, c] pos) (tChain r r' ta tb tc) := by
  intro pins s σ H Q I h
  refine Compare_chain (thn (ha pins s σ H _ I h) fun v s1 ⟨x, H1, I1, r1, q1⟩ => chain_link (thn (hb pins s1 σ H1 _ I1 q1) fun u s2 ⟨y, H2, I2, r2, q2⟩ =>
    thn (ho pins s2 σ H2 x y v u _ I2 r1 r2 q2) fun d s3 ⟨z, H3, I3, r3, k, e, q3⟩ => ?_)) hm
  subst e
  cases r3
  refine wpAny_truthy_bool ?_
  cases k with
  | false => exact ite_ff ⟨.bl false, H3, I3, rfl, q3⟩
  | true => exact ite_tt (chain_last (thn (hc pins s3 σ H3 _ I3 q3) fun w' s4 ⟨z', H4, I4, r4, q4⟩ => ho' pins s4 σ H4 y z' u w' Q I4 r2 r4 q4))
theorem pt_chain {op op' : CmpOp} {r r' : R2} (ho : OpR X (compareOp op) r) (ho' : OpR X (compareOp op') r') (ha : PE X a ta) (hb : PE X b tb) (hc : PE X c tc)
    (hm : lastMarks [op, op'] [b, c] = false := by with_unfolding_all rfl) : PT X (.Compare a [op, op'] [b, c] pos) (tTest (tChain r r' ta tb tc)) := by
  intro pins s σ H Q I h
  refine isTrue_chain (thn (ha pins s σ H _ I h) fun v s1 ⟨x, H1, I1, r1, q1⟩ => test_link (thn (hb pins s1 σ H1 _ I1 q1) fun u s2 ⟨y, H2, I2, r2, q2⟩ =>
    thn (ho pins s2 σ H2 x y v u _ I2 r1 r2 q2) fun d s3 ⟨z, H3, I3, r3, k, e, q3⟩ => ?_)) hm
  subst e
  cases r3
  refine wpAny_truthy_bool ?_
  cases k with
  | false =>
    obtain ⟨k', e', q'⟩ := q3
    cases e'
    exact ite_ff ⟨H3, I3, q'⟩
  | true =>
    refine ite_tt (test_last (thn (hc pins s3 σ H3 _ I3 q3) fun w' s4 ⟨z', H4, I4, r4, q4⟩ => thn (ho' pins s4 σ H4 y z' u w' _ I4 r2 r4 q4) fun d' s5 ⟨z2, H5, I5, r5, k2, e2, q5⟩ => ?_))
    subst e2
    cases r5
    exact wpAny_truthy_bool ⟨H5, I5, q5⟩
def TruV (K : PySem.W.Frag) (x : V) (H : Hp) (k : Bool) : Prop :=
  match x with
  | .non => k = false
  | .bl b => k = b
  | .int i => k = (i != 0)
  | .str y => y.length ≤ sizeLine ∧ k = ((y.length : Int) != 0)
  | .byt y => y.size ≤ sizeLine ∧ k = ((y.size : Int) != 0)
  | .ref p => (∃ xs, SqL K H p xs ∧ k = !xs.isEmpty) ∨ (∃ xs, SqT K H p xs ∧ k = !xs.isEmpty) ∨ ∃ kvs, H p = some (.dK kvs) ∧ k = !kvs.isEmpty
  | _ => False
theorem isEmpty_kv {κ : Type} {kvs : List (κ × V)} {vs : List (κ × Value)} (r : KV kvs vs) : (!vs.isEmpty) = !kvs.isEmpty := by
  cases r <;> rfl
theorem isEmpty_of {xs : List V} {its : List Value} (r : Vals xs its) : (!its.toArray.isEmpty) = !xs.isEmpty := by
  cases r <;> simp
theorem line63 : (sizeLine : Nat) < 2 ^ 63 := by rw [sizeLine_eq]; decide
theorem tru_ok : TruR X (fun x H Q => ∃ k, TruV X.K x H k ∧ Q k H) := by
  intro pins s σ H x v Q I rx h
  obtain ⟨k, e, q⟩ := h
  have hl := line63
  have hs : sizeLine = 16777216 := sizeLine_eq
  cases x with
  | non =>
    cases rx
    have e' : k = false := e
    subst e'
    exact truthy_none ⟨H, I, q⟩
  | bl b =>
    cases rx
    have e' : k = b := e
    subst e'
    exact wpAny_truthy_bool ⟨H, I, q⟩
  | int i =>
    obtain ⟨t, rfl⟩ := rx
    have e' : k = (i != 0) := e
    subst e'
    exact PySem.P.truthy_int ⟨H, I, q⟩
  | str y =>
    obtain ⟨t, rfl⟩ := rx
    obtain ⟨hy, e'⟩ : y.length ≤ sizeLine ∧ k = ((y.length : Int) != 0) := e
    subst e'
    exact PySem.P.truthy_str (by omega) ⟨H, I.tok _, q⟩
  | byt y =>
    obtain ⟨t, rfl⟩ := rx
    obtain ⟨hy, e'⟩ : y.size ≤ sizeLine ∧ k = ((y.size : Int) != 0) := e
    subst e'
    exact PySem.W.truthy_bytes (by omega) ⟨H, I.tok _, q⟩
  | ref p =>
    cases rx
    have e' : (∃ xs, SqL X.K H p xs ∧ k = !xs.isEmpty) ∨ (∃ xs, SqT X.K H p xs ∧ k = !xs.isEmpty) ∨ ∃ kvs, H p = some (.dK kvs) ∧ k = !kvs.isEmpty := e
    rcases e' with ⟨xs, hx, e'⟩ | ⟨xs, hx, e'⟩ | ⟨kvs, hx, e'⟩
    · subst e'
      obtain ⟨its, r, pl, hz⟩ := I.list hx
      have hlen := r.length
      exact wpAny_truthy_list pl.isList (by simp only [List.size_toArray]; omega) ⟨H, I.tok _, by rw [isEmpty_of r]; exact q⟩
    · subst e'
      obtain ⟨its, r, pl, hz⟩ := I.tuple hx
      have hlen := r.length
      exact truthy_tuple pl (by simp only [List.size_toArray]; omega) ⟨H, I.tok _, by rw [isEmpty_of r]; exact q⟩
    · subst e'
      obtain ⟨hz, hS, vs, r, m⟩ : kvs.length ≤ sizeLine ∧ (p == sysModules) = false ∧ ∃ vs, KV kvs vs ∧ s.heap.DictOf (mixKind X.prog X.w) p vs := I.hok p _ hx
      have hlen : kvs.length = vs.length := Paired.length r
      exact wpAny_truthy_dict hS m (by omega) ⟨H, I.tok _, by rw [isEmpty_kv r]; exact q⟩
  | _ => exact (show False from e).elim
theorem pt_truth (ha : PE X a ta) (he : ∀ whole, isTrue a X.env whole = (do let v ← whole; standAt a.pos; holding [v] (truthy v))) :
    PT X a (fun σ H Q => ta σ H fun x H' => ∃ k, TruV X.K x H' k ∧ Q k H') := by
  intro pins s σ H Q I h
  exact isTrue_plain (thn (ha pins s σ H _ I h) fun v s1 ⟨x, H1, I1, r1, q1⟩ => tru_ok pins s1 σ H1 x v Q I1 r1 q1) (he _)
theorem pe_byt {x : List UInt8} {k : Nat} : PE X (.Constant (.bytes x) k pos) (fun _ H Q => Q (.byt x.toArray) H) := fun _ _ _ H _ I h => PySem.W.Constant_bytes ⟨.byt x.toArray, H, I.tok _, ⟨_, rfl⟩, h⟩
theorem op_add_str : OpR X (binaryOp .Add) (fun x y H Q => ∃ i j, x = .str i ∧ y = .str j ∧ i.length + j.length ≤ sizeLine ∧ Q (.str (i ++ j)) H) := by
  intro pins s σ H x y v u Q I rx ry h
  obtain ⟨i, j, rfl, rfl, hz, q⟩ := h
  obtain ⟨t, rfl⟩ := rx
  obtain ⟨t', rfl⟩ := ry
  exact add_str (fun t' tk => ⟨.str (i ++ j), H, I.tok _, ⟨_, rfl⟩, q⟩) hz
theorem iop_add_str : OpR X (inplaceOp .Add) (fun x y H Q => ∃ i j, x = .str i ∧ y = .str j ∧ i.length + j.length ≤ sizeLine ∧ Q (.str (i ++ j)) H) := by
  intro pins s σ H x y v u Q I rx ry h
  obtain ⟨i, j, rfl, rfl, hz, q⟩ := h
  obtain ⟨t, rfl⟩ := rx
  obtain ⟨t', rfl⟩ := ry
  exact iadd_str (fun t' tk => ⟨.str (i ++ j), H, I.tok _, ⟨_, rfl⟩, q⟩) hz
theorem op_add_byt : OpR X (binaryOp .Add) (fun x y H Q => ∃ i j, x = .byt i ∧ y = .byt j ∧ i.size + j.size ≤ 16777216 ∧ Q (.byt (i ++ j)) H) := by
  intro pins s σ H x y v u Q I rx ry h
  obtain ⟨i, j, rfl, rfl, hz, q⟩ := h
  obtain ⟨t, rfl⟩ := rx
  obtain ⟨t', rfl⟩ := ry
  exact PySem.W.KBy.add_bytes hz (fun t' tk => ⟨.byt (i ++ j), H, I.tok _, ⟨_, rfl⟩, q⟩)
def PlainIxT (b : Expr) : Prop := ∀ o i, subscripted b false o i = operate [o, i] (getItem o i)
theorem pe_item_str (ha : PE X a ta) (hb : PE X b tb) (hs : PlainIxT b) :
    PE X (.Subscript a b pos) (tOp (fun x y H Q => ∃ z i c, x = .str z ∧ y = .int i ∧ 0 ≤ i ∧ i < 2 ^ 63 ∧ i < z.length ∧ z.cps[i.toNat]? = some c ∧ Q (.str ⟨#[c]⟩) H) ta tb) := by
  intro pins s σ H Q I h
  refine Subscript_ (binT ha hb I h fun v u s2 x y H2 I2 rx ry q => ?_)
  obtain ⟨z, i, c, rfl, rfl, h0, h63, h1, hc, q⟩ := q
  obtain ⟨t, rfl⟩ := rx
  obtain ⟨t', rfl⟩ := ry
  have e : seqIndex? i z.length = some i.toNat := PySem.StrLaws.seqIndex_nonneg h0 h1
  exact tail_any (typeIs_str s2 z t) slot_str_getitem.lookup (getItem_str (c := c) (by
    have e1 : decide (i < -(2 ^ 63 : Int)) = false := decide_eq_false (by omega)
    have e2 : decide (i ≥ 2 ^ 63) = false := decide_eq_false (by omega)
    rw [e1, e2] <;> rfl) (by rw [e]; exact hc) ⟨.str ⟨#[c]⟩, H2, I2.tok _, ⟨_, rfl⟩, q⟩) (hs _ _)
theorem pe_item_byt (ha : PE X a ta) (hb : PE X b tb) (hs : PlainIxT b) :
    PE X (.Subscript a b pos) (tOp (fun x y H Q => ∃ (z : List UInt8) (i : Int), x = .byt z.toArray ∧ y = .int i ∧ z.length ≤ sizeLine ∧ 0 ≤ i ∧ i < z.length ∧ Q (.int ((z.getD i.toNat 0).toNat : Nat)) H) ta tb) := by
  intro pins s σ H Q I h
  refine Subscript_ (binT ha hb I h fun v u s2 x y H2 I2 rx ry q => ?_)
  obtain ⟨z, i, rfl, rfl, hz, h0, h1, q⟩ := q
  obtain ⟨t, rfl⟩ := rx
  obtain ⟨t', rfl⟩ := ry
  have hl : sizeLine = 16777216 := sizeLine_eq
  exact tail_any (PySem.W.typeIs_bytes s2 z.toArray t) PySem.W.FB.slot_bytes_getitem.lookup (PySem.W.getItem_bytes (by omega) h0 h1 ⟨.int ((z.getD i.toNat 0).toNat : Nat), H2, I2.tok _, ⟨_, rfl⟩, q⟩) (hs _ _)
theorem vals1 {x : V} {us : List Value} (r : Vals [x] us) : ∃ u, us = [u] ∧ RelV x u := by
  cases r with
  | cons r1 r2 => cases r2; exact ⟨_, rfl, r1⟩
theorem vals2 {x y : V} {us : List Value} (r : Vals [x, y] us) : ∃ u w', us = [u, w'] ∧ RelV x u ∧ RelV y w' := by
  cases r with
  | cons r1 r2 =>
    cases r2 with
    | cons r3 r4 => cases r4; exact ⟨_, _, rfl, r1, r3⟩
theorem call_abs : CallR X (.builtin "abs") (fun xs H Q => ∃ i, xs = [.int i] ∧ Q (.int (if i < 0 then -i else i)) H) := by
  intro pins s σ H xs us Q I r h
  obtain ⟨i, rfl, q⟩ := h
  obtain ⟨u, rfl, t, rfl⟩ := vals1 r
  exact call_abs_int fun u tk => ⟨.int (if i < 0 then -i else i), H, I.tok _, ⟨_, rfl⟩, q⟩
theorem call_max2 (hc : X.calm = true) : CallR X (.builtin "max") (fun xs H Q => ∃ i j, xs = [.int i, .int j] ∧ Q (.int (if j > i then j else i)) H) := by
  intro pins s σ H xs us Q I r h
  obtain ⟨i, j, rfl, q⟩ := h
  obtain ⟨u, w', rfl, ⟨t, rfl⟩, ⟨t', rfl⟩⟩ := vals2 r
  refine max_two_ints (I.ok.hd hc) fun h' tk k => ⟨_, H, I.kept k, ?_, q⟩
  by_cases hj : j > i
  · rw [if_pos hj, if_pos hj]; exact ⟨_, rfl⟩
  · rw [if_neg hj, if_neg hj]; exact ⟨_, rfl⟩
theorem call_min2 (hc : X.calm = true) : CallR X (.builtin "min") (fun xs H Q => ∃ i j, xs = [.int i, .int j] ∧ Q (.int (if j < i then j else i)) H) := by
  intro pins s σ H xs us Q I r h
  obtain ⟨i, j, rfl, q⟩ := h
  obtain ⟨u, w', rfl, ⟨t, rfl⟩, ⟨t', rfl⟩⟩ := vals2 r
  refine min_two_ints (I.ok.hd hc) fun h' tk k => ⟨_, H, I.kept k, ?_, q⟩
  by_cases hj : j < i
  · rw [if_pos hj, if_pos hj]; exact ⟨_, rfl⟩
  · rw [if_neg hj, if_neg hj]; exact ⟨_, rfl⟩
theorem call_int1 : CallR X (.type "int") (fun xs H Q => (∃ i, xs = [.int i] ∧ Q (.int i) H) ∨ ∃ k, xs = [.bl k] ∧ Q (.int (if k then 1 else 0)) H) := by
  intro pins s σ H xs us Q I r h
  rcases h with ⟨i, rfl, q⟩ | ⟨k, rfl, q⟩
  · obtain ⟨u, rfl, t, rfl⟩ := vals1 r
    exact call_int_int ⟨.int i, H, I, ⟨_, rfl⟩, q⟩
  · obtain ⟨u, rfl, r1⟩ := vals1 r
    cases r1
    exact call_int_bool ⟨.int (if k then 1 else 0), H, I.tok _, ⟨_, rfl⟩, q⟩
theorem call_bool1 : CallR X (.type "bool") (fun xs H Q => (∃ i, xs = [.int i] ∧ Q (.bl (i != 0)) H) ∨ ∃ k, xs = [.bl k] ∧ Q (.bl k) H) := by
  intro pins s σ H xs us Q I r h
  rcases h with ⟨i, rfl, q⟩ | ⟨k, rfl, q⟩
  · obtain ⟨u, rfl, t, rfl⟩ := vals1 r
    exact call_bool_int ⟨.bl (i != 0), H, I, rfl, q⟩
  · obtain ⟨u, rfl, r1⟩ := vals1 r
    cases r1
    exact call_bool_bool ⟨.bl k, H, I, rfl, q⟩
theorem call_str_int : CallR X (.type "str") (fun xs H Q => ∃ i, xs = [.int i] ∧ i.natAbs.log2 < 1920 ∧ Q (.str (toString i)) H) := by
  intro pins s σ H xs us Q I r h
  obtain ⟨i, rfl, hz, q⟩ := h
  obtain ⟨u, rfl, t, rfl⟩ := vals1 r
  exact PySem.P.str_of_int hz ⟨.str _, H, I.tok _, ⟨_, rfl⟩, q⟩
theorem call_ord : CallR X (.builtin "ord") (fun xs H Q => ∃ x, xs = [.str x] ∧ x.length = 1 ∧ Q (.int (x.cps.getD 0 0 : Nat)) H) := by
  intro pins s σ H xs us Q I r h
  obtain ⟨x, rfl, hz, q⟩ := h
  obtain ⟨u, rfl, t, rfl⟩ := vals1 r
  exact ord_of_one hz ⟨.int _, H, I.tok _, ⟨_, rfl⟩, q⟩
theorem call_chr : CallR X (.builtin "chr") (fun xs H Q => ∃ i, xs = [.int i] ∧ 0 ≤ i ∧ i ≤ 1114111 ∧ Q (.str ⟨#[i.toNat]⟩) H) := by
  intro pins s σ H xs us Q I r h
  obtain ⟨i, rfl, h0, h1, q⟩ := h
  obtain ⟨u, rfl, t, rfl⟩ := vals1 r
  exact chr_of_range h0 h1 ⟨.str _, H, I.tok _, ⟨_, rfl⟩, q⟩
def LenV (K : PySem.W.Frag) (x : V) (H : Hp) (n : Nat) : Prop :=
  match x with
  | .str y => y.length ≤ sizeLine ∧ n = y.length
  | .byt y => y.size ≤ sizeLine ∧ n = y.size
  | .ref p => (∃ xs, SqL K H p xs ∧ n = xs.length) ∨ ∃ xs, SqT K H p xs ∧ n = xs.length
  | _ => False
theorem call_len : CallR X (.builtin "len") (fun xs H Q => ∃ x n, xs = [x] ∧ LenV X.K x H n ∧ Q (.int n) H) := by
  intro pins s σ H xs us Q I r h
  obtain ⟨x, n, rfl, e, q⟩ := h
  obtain ⟨u, rfl, rx⟩ := vals1 r
  have hl := line63
  have hs : sizeLine = 16777216 := sizeLine_eq
  cases x with
  | str y =>
    obtain ⟨t, rfl⟩ := rx
    obtain ⟨hy, e'⟩ : y.length ≤ sizeLine ∧ n = y.length := e
    subst e'
    exact len_str (by omega) ⟨.int _, H, I.tok _, ⟨_, rfl⟩, q⟩
  | byt y =>
    obtain ⟨t, rfl⟩ := rx
    obtain ⟨hy, e'⟩ : y.size ≤ sizeLine ∧ n = y.size := e
    subst e'
    exact PySem.W.len_bytes (by omega) ⟨.int _, H, I.tok _, ⟨_, rfl⟩, q⟩
  | ref p =>
    cases rx
    have e' : (∃ xs, SqL X.K H p xs ∧ n = xs.length) ∨ ∃ xs, SqT X.K H p xs ∧ n = xs.length := e
    rcases e' with ⟨xs, hx, e'⟩ | ⟨xs, hx, e'⟩
    · subst e'
      obtain ⟨its, r', pl, hz⟩ := I.list hx
      have hlen := r'.length
      exact Calls.call_len_list pl.isList (by simp only [List.size_toArray]; omega) ⟨.int xs.length, H, I.tok _, ⟨_, by simp only [List.size_toArray]; rw [hlen]⟩, q⟩
    · subst e'
      obtain ⟨its, r', pl, hz⟩ := I.tuple hx
      have hlen := r'.length
      exact len_tuple pl (by simp only [List.size_toArray]; omega) ⟨.int xs.length, H, I.tok _, ⟨_, by simp only [List.size_toArray]; rw [hlen]⟩, q⟩
  | _ => exact (show False from e).elim
theorem call_divmod : CallR X (.builtin "divmod") (fun xs H Q => ∃ i j, xs = [.int i, .int j] ∧ CDiv i j ∧ ∀ p, H p = none → Q (.ref p) (upd H p (.tup [.int (i / j), .int (i % j)]))) := by
  intro pins s σ H xs us Q I r h
  obtain ⟨i, j, rfl, ⟨h1, h2⟩, q⟩ := h
  obtain ⟨u, w', rfl, ⟨t, rfl⟩, ⟨t', rfl⟩⟩ := vals2 r
  refine divmod_int (by omega) ?_ (.inl (PyProof.noPylong_small (by omega)))
  rw [Int.fdiv_eq_ediv_of_nonneg i (by omega), Int.fmod_eq_emod_of_nonneg i (by omega)]
  have hn : H s.heap.objs.size = none := I.hok.fresh (Nat.le_refl _)
  refine ⟨.ref s.heap.objs.size, _, ?_, rfl, q _ hn⟩
  refine I.laid (fun b o e => Heap.get?_push_of_some _ e) (Nat.le_refl _) ⟨by simp only [List.length_cons, List.length_nil]; rw [sizeLine_eq]; decide, [.int (i / j) s.toks, .int (i % j) (s.toks + 1)], .cons ⟨_, rfl⟩ (.cons ⟨_, rfl⟩ .nil), ?_⟩
  exact ⟨_, Heap.get?_push_size s.heap rfl, rfl, 0, rfl⟩
end
end L2
namespace L2
open PySem PySem.Spec PyProof.Rows
structure ObjM (h : Heap) (x dx C : Addr) (mA : Str → Option Value) : Prop where
  obj : h.get? x = some (PySem.W.instObj C dx)
  ns : h.Ns1 dx mA
  ne : dx ≠ x
theorem lookIn_ns {h : Heap} {dx : Addr} {mA : Str → Option Value} (n : h.Ns1 dx mA) : ∃ od, h.get? dx = some od ∧ ∀ name, PySem.W.lookIn name od = some (mA name) := by
  obtain ⟨o, es, ep, ho, hd, hk, _, hm⟩ := n
  refine ⟨o, ho, fun name => ?_⟩
  have e := hm name
  unfold nsFind findBy at e
  rw [← Array.find?_toList] at e
  unfold PySem.W.lookIn
  rw [hd]
  dsimp only
  split
  · rename_i y q
    rw [q] at e
    exact congrArg some e
  · rename_i q
    rw [q] at e
    have a : es.toList.any (·.refKey) = false := by
      rw [List.any_eq_false]
      intro y hy
      obtain ⟨z, t, hkey⟩ := hk y (Array.mem_toList_iff.mp hy)
      simp [DictEntry.refKey, hkey]
    have a' : ¬ es.toList.any (·.refKey) = true := by rw [a]; exact Bool.false_ne_true
    rw [if_neg a']
    exact congrArg some e
theorem ObjM.look {h : Heap} {x dx C : Addr} {mA : Str → Option Value} (I : ObjM h x dx C mA) : ∃ od, PySem.W.InstAt h x (PySem.W.instObj C dx) C (some od) ∧ ∀ name, PySem.W.lookIn name od = some (mA name) :=
  let ⟨od, ho, hl⟩ := lookIn_ns I.ns
  ⟨od, ⟨I.obj, rfl, rfl, ho⟩, hl⟩
section
variable {prog : Program} {w : World} {A : Around} {E : Value → Shared → Prop} {s : Shared} {K : PySem.W.Frag} {x dx C f : Addr} {mA : Str → Option Value} {name : Str} {v : Value}
theorem get_map {expr : Bool} {Q : Value → Shared → Prop} (X : K.In s.heap) (I : ObjM s.heap x dx C mA) (hg : PySem.W.plainGet K C name = true) (hh : PySem.W.hasDictIn K C = true)
    (ha : PySem.W.findIn K (.ref C) name = some none) (hv : mA name = some v) (hv' : PySem.W.handedIn v = true) (h : Q v { s with toks := s.toks + 1 }) :
    wpAny (model prog w) A (getAttr (.ref x) name expr) Q E s := by
  obtain ⟨od, J, hl⟩ := I.look
  exact PySem.W.get_value X J (PySem.W.plainGet_of hg).1 (PySem.W.findObj_own hh ha rfl (by rw [hl, hv])) hv' h
theorem get_const {expr : Bool} {a : Value} {Q : Value → Shared → Prop} (X : K.In s.heap) (I : ObjM s.heap x dx C mA) (hg : PySem.W.plainGet K C name = true) (hh : PySem.W.hasDictIn K C = true)
    (ha : PySem.W.findIn K (.ref C) name = some (some a)) (hn : PySem.W.specialIn K a "__get__" = some none) (hc : PySem.W.copiedNames.contains name = false) (hv : mA name = none) (hv' : PySem.W.handedIn a = true)
    (h : Q a { s with toks := s.toks + 1 }) : wpAny (model prog w) A (getAttr (.ref x) name expr) Q E s := by
  obtain ⟨od, J, hl⟩ := I.look
  exact PySem.W.get_value X J (PySem.W.plainGet_of hg).1 (PySem.W.findObj_cls hh ha hn hv' hc (by rw [hl, hv])) hv' h
theorem get_meth {pl : Sem Bool} {Q : Value × List Value → Shared → Prop} (X : K.In s.heap) (I : ObjM s.heap x dx C mA) (hg : PySem.W.plainGet K C name = true)
    (hf : PySem.W.findIn K (.ref C) name = some (some (.ref f))) (ht : PySem.W.isFn K (.ref f) = true) (hv : mA name = none) (h : Q (.ref f, [.ref x]) s) :
    wpAny (model prog w) A (getMethod (.ref x) name pl) Q E s := by
  obtain ⟨od, J, hl⟩ := I.look
  exact PySem.W.method_fn X J (PySem.W.plainGet_of hg).1 (PySem.W.plainGet_of hg).2 hf (beq_iff_eq.mp ht) (by show (PySem.W.lookIn name od).map (·.isSome) = some false; rw [hl, hv]; rfl) h
theorem set_map {ns : List Str} {Q : Unit → Shared → Prop} (X : K.In s.heap) (I : ObjM s.heap x dx C mA)
    (hs : PySem.W.findIn K (.ref C) "__setattr__" = some (some (.builtin "object.__setattr__"))) (hp : PySem.W.plainOver K C = true) (ht : PySem.W.takerIn K C name = some none) (hh : PySem.W.hasDictIn K C = true)
    (hw : PySem.Within mA ns) (hsz : ns.length ≤ sizeLine)
    (h : ∀ h', ObjM h' x dx C (fun y => if y = name then some v else mA y) → Heap.SameBut dx s.heap h' → Q () { s with heap := h', toks := s.toks + 2 }) :
    wpAny (model prog w) A (setAttr (.ref x) name v) Q E s := by
  obtain ⟨od, J, hl⟩ := I.look
  refine PySem.W.set_plain X J hs (PySem.W.osa_open (s := { s with toks := s.toks + 1 }) (r := none) X J hp ht fun b => ?_)
  obtain ⟨cd, hc, hd'⟩ := PySem.W.any_some hh
  have hx : s.heap.get? x = some ⟨.ref C, some dx, .plain, #[]⟩ := I.obj
  refine wpAny_bind (wpAny_pure (wpAny_bind (wpAny_bind (wpAny_loadPart hx (wpAny_bind (PySem.W.Looks.here (s := { s with toks := s.toks + 1 }) (PySem.W.looks_clsIn X hc) ?_))))))
  rw [hd']
  refine wpAny_pure (a := some dx) (wpAny_bind (wpAny_pure (wpAny_bind ?_)))
  refine wpAny_nsSet1 (s := { s with toks := s.toks + 1 }) I.ns fun h' hn2 hs2 => ?_
  obtain ⟨oD, esD, epD, hoD, hdD, hcD⟩ := hn2.count (PySem.Within.cons name v hw)
  refine wpAny_bind (wpAny_lookBehind hoD (by rw [hdD]; exact pastItsLine_dict (Nat.le_trans hcD (by rw [List.length_cons]; omega))) ?_)
  exact wpAny_pure (h _ ⟨(hs2.2 _ (Ne.symm I.ne)).trans I.obj, hn2, I.ne⟩ hs2)
theorem make_map {R : Result → Shared → Prop} {vs : List Value} {kw : List (Str × Value)} (X : K.In s.heap) (hm : PySem.W.makesIn K C = true)
    (hi : PySem.W.findIn K (.ref C) "__init__" = some (some (.ref f))) (hf : PySem.W.typeIn K (.ref f) = some (.type "function"))
    (h : codeAny (model prog w) (A.under (.builtin "type.__call__" ⟨.ref C :: vs, kw⟩)) (.call (.ref f) ⟨.ref (s.heap.objs.size + 1) :: vs, kw⟩) (PySem.W.InitBack (s.heap.objs.size + 1) R)
      { s with heap := (s.heap.push PySem.W.emptyDict).push (PySem.W.instObj C s.heap.objs.size) }) :
    codeAny (model prog w) A (.call (.ref C) ⟨vs, kw⟩) R s := by
  obtain ⟨hh, g, d, t, os⟩ := s
  exact PySem.W.make_core (PySem.W.makes_of X hm) (PySem.W.looks_findIn X hi) (fun self => PySem.W.bind_fn X self hf) (.inl rfl) h
theorem make_map0 {R : Result → Shared → Prop} (X : K.In s.heap) (hm : PySem.W.makesIn K C = true)
    (hi : PySem.W.findIn K (.ref C) "__init__" = some (some (.builtin "object.__init__")))
    (hb : ∀ self, PySem.W.Looks (model prog w) s.heap (bindSpecial (.builtin "object.__init__") self) (.builtin "object.__init__", [self]))
    (h : codeAny (model prog w) (A.under (.builtin "type.__call__" ⟨[.ref C], []⟩)) (.call (.builtin "object.__init__") ⟨[.ref (s.heap.objs.size + 1)], []⟩) (PySem.W.InitBack (s.heap.objs.size + 1) R)
      { s with heap := (s.heap.push PySem.W.emptyDict).push (PySem.W.instObj C s.heap.objs.size) }) :
    codeAny (model prog w) A (.call (.ref C) ⟨[], []⟩) R s := by
  obtain ⟨hh, g, d, t, os⟩ := s
  exact PySem.W.make_core (PySem.W.makes_of X hm) (PySem.W.looks_findIn X hi) hb (.inr ⟨rfl, rfl⟩) h
end
def putF (f : Str) (v : V) : List (Str × V) → List (Str × V)
  | [] => [(f, v)]
  | (g, x) :: r => if g = f then (g, v) :: r else (g, x) :: putF f v r
theorem lookup_putF (f g : Str) (v : V) : ∀ fs : List (Str × V), (putF f v fs).lookup g = if g = f then some v else fs.lookup g
  | [] => by
    show List.lookup g [(f, v)] = _
    by_cases h : g = f
    · have hb : (g == f) = true := beq_iff_eq.mpr h
      simp only [List.lookup, hb, if_pos h]
    · have hb : (g == f) = false := beq_eq_false_iff_ne.mpr h
      simp only [List.lookup, hb, if_neg h]
  | (k, x) :: r => by
    have ih := lookup_putF f g v r
    rw [show putF f v ((k, x) :: r) = (if k = f then (k, v) :: r else (k, x) :: putF f v r) from rfl]
    by_cases hk : k = f
    · rw [if_pos hk]
      by_cases h : g = k
      · have hb : (g == k) = true := beq_iff_eq.mpr h
        simp only [List.lookup, hb, if_pos (h.trans hk)]
      · have hb : (g == k) = false := beq_eq_false_iff_ne.mpr h
        simp only [List.lookup, hb, if_neg (fun e : g = f => h (e.trans hk.symm))]
    · rw [if_neg hk]
      by_cases h : g = k
      · have hb : (g == k) = true := beq_iff_eq.mpr h
        simp only [List.lookup, hb, if_neg (fun e : g = f => hk (h.symm.trans e))]
      · have hb : (g == k) = false := beq_eq_false_iff_ne.mpr h
        simp only [List.lookup, hb]
        exact ih
theorem keys_putF (f : Str) (v : V) : ∀ fs : List (Str × V), f ∈ (putF f v fs).map (·.1) ∧ ∀ g, g ∈ fs.map (·.1) → g ∈ (putF f v fs).map (·.1)
  | [] => ⟨by simp [putF], fun g h => by simp at h⟩
  | (k, x) :: r => by
    obtain ⟨i1, i2⟩ := keys_putF f v r
    rw [show putF f v ((k, x) :: r) = (if k = f then (k, v) :: r else (k, x) :: putF f v r) from rfl]
    by_cases hk : k = f
    · rw [if_pos hk]
      subst hk
      exact ⟨by simp, fun g h => by simpa using h⟩
    · rw [if_neg hk]
      refine ⟨?_, fun g h => ?_⟩
      · rw [List.map_cons]
        exact List.mem_cons_of_mem _ i1
      · rw [List.map_cons] at h ⊢
        rcases List.mem_cons.mp h with e | e
        · exact List.mem_cons.mpr (.inl e)
        · exact List.mem_cons_of_mem _ (i2 g e)
theorem length_putF (f : Str) (v : V) : ∀ fs : List (Str × V), (putF f v fs).length ≤ fs.length + 1
  | [] => by simp [putF]
  | (k, x) :: r => by
    have ih := length_putF f v r
    rw [show putF f v ((k, x) :: r) = (if k = f then (k, v) :: r else (k, x) :: putF f v r) from rfl]
    by_cases hk : k = f
    · rw [if_pos hk, List.length_cons, List.length_cons]; omega
    · rw [if_neg hk, List.length_cons, List.length_cons]; omega
theorem RelO.some_of {v : V} {o : Option Value} (r : RelO (some v) o) : ∃ u, o = some u ∧ RelV v u := by
  cases o with
  | none => exact (show False from r).elim
  | some u => exact ⟨u, rfl, r⟩
theorem RelO.none_of {o : Option Value} (r : RelO none o) : o = none := by
  cases o with
  | none => rfl
  | some u => exact (show False from r).elim
theorem handed_of {v : V} {u : Value} (r : RelV v u) : PySem.W.handedIn u = true := by
  cases v with
  | non => cases (show u = Value.none from r); rfl
  | bl b => cases (show u = Value.bool b from r); rfl
  | int i => obtain ⟨t, e⟩ := (show ∃ t, u = Value.int i t from r); cases e; rfl
  | str x => obtain ⟨t, e⟩ := (show ∃ t, u = Value.str x t from r); cases e; rfl
  | byt b => obtain ⟨t, e⟩ := (show ∃ t, u = Value.bytes b t from r); cases e; rfl
  | flt b => obtain ⟨t, e⟩ := (show ∃ t, u = Value.float b t from r); cases e; rfl
  | ref a => cases (show u = Value.ref a from r); rfl
  | ty n => cases (show u = Value.type n from r); rfl
section
variable {P : Program} {w : World} {H H' : Hp} {h h' : Heap} {a C dx : Addr} {fs fs' : List (Str × V)}
theorem ins_get (hok : HOk P w H h) (e : H a = some (.ins C dx fs)) : ∃ mA, ObjM h a dx C mA ∧ (∀ f, RelO (fs.lookup f) (mA f)) ∧ PySem.Within mA (fs.map (·.1)) ∧ fs.length ≤ 1000 ∧ H dx = some (.own a) := by
  obtain ⟨d, z, ne, ob, mA, n, r, q⟩ := (show ObjOk P w H h a (.ins C dx fs) from hok a _ e)
  exact ⟨mA, ⟨ob, n, ne⟩, r, q, z, d⟩
end
structure Cls (K : PySem.W.Frag) (C : Addr) : Prop where
  pg : PySem.W.plainGet K C Str.empty = true
  hd : PySem.W.hasDictIn K C = true
  po : PySem.W.plainOver K C = true
  sa : PySem.W.findIn K (.ref C) "__setattr__" = some (some (.builtin "object.__setattr__"))
theorem Cls.get {K : PySem.W.Frag} {C : Addr} (c : Cls K C) (f : Str) : PySem.W.plainGet K C f = true := c.pg
def NoAttr (K : PySem.W.Frag) (C : Addr) (f : Str) : Prop := PySem.W.findIn K (.ref C) f = some none
theorem NoAttr.taker {K : PySem.W.Frag} {C : Addr} {f : Str} (n : NoAttr K C f) : PySem.W.takerIn K C f = some none := by
  unfold PySem.W.takerIn
  rw [show PySem.W.findIn K (.ref C) f = some none from n]
  rfl
structure Con (K : PySem.W.Frag) (C : Addr) (f : Str) (v : V) (u : Value) : Prop where
  at_ : PySem.W.findIn K (.ref C) f = some (some u)
  rel : RelV v u
  get : PySem.W.specialIn K u "__get__" = some none
  cp : PySem.W.copiedNames.contains f = false
structure Meth (K : PySem.W.Frag) (C : Addr) (m : Str) (f : Addr) : Prop where
  at_ : PySem.W.findIn K (.ref C) m = some (some (.ref f))
  fn : PySem.W.isFn K (.ref f) = true
  kp : PySem.W.keepIn K (.ref f) = true
section
variable {X : Cx} {pins : List (Addr × Obj)} {σ : St} {H : Hp} {s : Shared} {a C dx : Addr} {fs : List (Str × V)} {f : Str} {v : V} {A : Around} {E : Value → Shared → Prop}
theorem getattr_ok {b : Bool} {Q : Value → Shared → Prop} (I : Inv X pins σ H s) (e : H a = some (.ins C dx fs)) (c : Cls X.K C) (n : NoAttr X.K C f) (l : fs.lookup f = some v)
    (h : ∀ u s', Inv X pins σ H s' → RelV v u → Q u s') : wpAny (model X.prog X.w) A (getAttr (.ref a) f b) Q E s := by
  obtain ⟨mA, O, r, _, _, _⟩ := ins_get I.hok e
  obtain ⟨u, hu, ru⟩ := RelO.some_of (v := v) (o := mA f) (by rw [← l]; exact r f)
  exact get_map I.kIn O (c.get f) c.hd n hu (handed_of ru) (h u _ (I.tok _) ru)
theorem getcon_ok {b : Bool} {u : Value} {Q : Value → Shared → Prop} (I : Inv X pins σ H s) (e : H a = some (.ins C dx fs)) (c : Cls X.K C) (k : Con X.K C f v u) (l : fs.lookup f = none)
    (h : ∀ s', Inv X pins σ H s' → Q u s') : wpAny (model X.prog X.w) A (getAttr (.ref a) f b) Q E s := by
  obtain ⟨mA, O, r, _, _, _⟩ := ins_get I.hok e
  have hn : mA f = none := RelO.none_of (by rw [← l]; exact r f)
  exact get_const I.kIn O (c.get f) c.hd k.at_ k.get k.cp hn (handed_of k.rel) (h _ (I.tok _))
theorem getmeth_ok {m : Str} {g : Addr} {pl : Sem Bool} {Q : Value × List Value → Shared → Prop} (I : Inv X pins σ H s) (e : H a = some (.ins C dx fs)) (c : Cls X.K C) (k : Meth X.K C m g) (l : fs.lookup m = none)
    (h : Q (.ref g, [.ref a]) s) : wpAny (model X.prog X.w) A (getMethod (.ref a) m pl) Q E s := by
  obtain ⟨mA, O, r, _, _, _⟩ := ins_get I.hok e
  have hn : mA m = none := RelO.none_of (by rw [← l]; exact r m)
  exact get_meth I.kIn O (c.get m) k.at_ k.fn hn h
theorem setattr_ok {y : V} {u : Value} {Q : Unit → Shared → Prop} (I : Inv X pins σ H s) (e : H a = some (.ins C dx fs)) (c : Cls X.K C) (n : NoAttr X.K C f) (hl : fs.length < 1000) (ry : RelV y u)
    (h : ∀ s', Inv X pins σ (upd H a (.ins C dx (putF f y fs))) s' → Q () s') : wpAny (model X.prog X.w) A (setAttr (.ref a) f u) Q E s := by
  obtain ⟨mA, O, r, wi, _, ho⟩ := ins_get I.hok e
  have hz : (fs.map (·.1)).length ≤ sizeLine := by rw [List.length_map, sizeLine_eq]; omega
  refine set_map I.kIn O c.sa c.po n.taker c.hd wi hz fun h' O' sb => h _ ?_
  have hd : ∃ o, h'.get? dx = some o := let ⟨o, _, _, e', _⟩ := O'.ns; ⟨o, e'⟩
  refine I.write (x := a) (e := dx) (by rw [e]; exact True.intro) (.inr ho) (fun b q hb z => (sb.2 b hb).trans z) hd ?_
  refine ⟨by rw [upd_ne O.ne]; exact ho, ?_, O.ne, O'.obj, _, O'.ns, fun g => ?_, fun g hg => ?_⟩
  · have := length_putF f y fs; omega
  · show RelO ((putF f y fs).lookup g) (if g = f then some u else mA g)
    rw [lookup_putF]
    by_cases q : g = f
    · rw [if_pos q, if_pos q]; exact ry
    · rw [if_neg q, if_neg q]; exact r g
  · by_cases q : g = f
    · rw [q]; exact (keys_putF f y fs).1
    · refine (keys_putF f y fs).2 g (wi g fun z => hg ?_)
      show (if g = f then some u else mA g) = none
      rw [if_neg q]; exact z
theorem Inv.made (I : Inv X pins σ H s) : Inv X pins σ (upd (upd H s.heap.objs.size (.own (s.heap.objs.size + 1))) (s.heap.objs.size + 1) (.ins C s.heap.objs.size []))
    { s with heap := (s.heap.push PySem.W.emptyDict).push (PySem.W.instObj C s.heap.objs.size) } := by
  have e1 : (s.heap.push PySem.W.emptyDict).get? s.heap.objs.size = some PySem.W.emptyDict := Heap.get?_push_size s.heap rfl
  have e2 : ((s.heap.push PySem.W.emptyDict).push (PySem.W.instObj C s.heap.objs.size)).get? (s.heap.objs.size + 1) = some (PySem.W.instObj C s.heap.objs.size) := by
    have := Heap.get?_push_size (s.heap.push PySem.W.emptyDict) (o := PySem.W.instObj C s.heap.objs.size) rfl
    rwa [Heap.size_push] at this
  have e3 : (s.heap.push PySem.W.emptyDict).Ns s.heap.objs.size (fun _ => none) := ⟨PySem.W.emptyDict, #[], _, e1, rfl, (fun e he => absurd he (by simp)), fun _ => rfl⟩
  have I1 := I.laid (a := s.heap.objs.size) (o := .own (s.heap.objs.size + 1)) (h' := s.heap.push PySem.W.emptyDict) (t' := s.toks) (fun b u q => Heap.get?_push_of_some _ q) (Nat.le_refl _) ⟨_, e1⟩
  refine I1.laid (a := s.heap.objs.size + 1) (o := .ins C s.heap.objs.size []) (t' := s.toks) (fun b u q => Heap.get?_push_of_some _ q) (Nat.le_of_eq (Heap.size_push _ _)) ?_
  have ne : s.heap.objs.size ≠ s.heap.objs.size + 1 := Nat.ne_of_lt (Nat.lt_succ_self _)
  refine ⟨by rw [upd_ne ne, upd_same], Nat.zero_le _, ne, e2, fun _ => none, (Heap.Ns1.of_empty e3).at fun o q => Heap.get?_push_of_some _ q, fun _ => True.intro, fun y hy => absurd rfl hy⟩
theorem attr_of {prog : Program} {w : World} {env : Env} {e : Expr} {f : Str} {pos : Pos} {s : Shared} {Q : Value → Shared → Prop} (hb : attributeBase e f env (eval e env) = eval e env)
    (h : wpAny (model prog w) A (eval e env) (fun o s₁ => wpAny (model prog w) A (getAttr o f true) Q E s₁) E s) : wpAny (model prog w) A (eval (.Attribute e f pos) env) Q E s :=
  Attribute_any_ h (by rw [arm_eval_Attribute, hb])
end
def tFld (K : PySem.W.Frag) (ta : TE) (f : Str) : TE := fun σ H Q => ta σ H fun x H1 => ∃ a C dx fs v, x = .ref a ∧ H1 a = some (.ins C dx fs) ∧ Cls K C ∧ NoAttr K C f ∧ fs.lookup f = some v ∧ Q v H1
def tCon (K : PySem.W.Frag) (ta : TE) (f : Str) : TE := fun σ H Q => ta σ H fun x H1 => ∃ a C dx fs v u, x = .ref a ∧ H1 a = some (.ins C dx fs) ∧ Cls K C ∧ Con K C f v u ∧ fs.lookup f = none ∧ Q v H1
def sFld (K : PySem.W.Frag) (ta tv : TE) (f : Str) : TS := fun D σ H => tv σ H fun y H1 => ta σ H1 fun x H2 => ∃ a C dx fs, x = .ref a ∧ H2 a = some (.ins C dx fs) ∧ Cls K C ∧ NoAttr K C f ∧ fs.length < 1000 ∧
  D.nx σ (upd H2 a (.ins C dx (putF f y fs)))
def InOp (X : Cx) (op : Operator) (rd : V → V → Hp → VK → Prop) : Prop :=
  ∀ (pins : List (Addr × Obj)) (s : Shared) (σ : St) (H : Hp) (x y : V) (u v : Value) (Q : VK), Inv X pins σ H s → RelV x u → RelV y v → rd x y H Q → wpAny (model X.prog X.w) X.A (inplaceOp op u v) (EP X pins σ Q) X.xe s
def sFldAug (K : PySem.W.Frag) (ta tv : TE) (rd : V → V → Hp → VK → Prop) (f : Str) : TS := fun D σ H => ta σ H fun x H1 => ∃ a C dx fs v, x = .ref a ∧ H1 a = some (.ins C dx fs) ∧ Cls K C ∧ NoAttr K C f ∧ fs.lookup f = some v ∧
  tv σ H1 fun y H2 => rd v y H2 fun z H3 => ∃ dx' fs', H3 a = some (.ins C dx' fs') ∧ fs'.length < 1000 ∧ D.nx σ (upd H3 a (.ins C dx' (putF f z fs')))
section
variable {X : Cx} {o e value : Expr} {f : Str} {pos pos' tpos : Pos} {ta tv : TE}
theorem pe_fld (he : PE X e ta) (hb : attributeBase e f X.env (eval e X.env) = eval e X.env) : PE X (.Attribute e f pos) (tFld X.K ta f) := by
  intro pins s σ H Q I h
  refine attr_of hb (thn (he pins s σ H _ I h) fun u s1 ⟨x, H1, I1, rx, a, C, dx, fs, v, ex, ea, c, n, l, q⟩ => ?_)
  subst ex
  obtain rfl : u = Value.ref a := rx
  exact getattr_ok I1 ea c n l fun u' s2 I2 ru => ⟨v, H1, I2, ru, q⟩
theorem pe_con (he : PE X e ta) (hb : attributeBase e f X.env (eval e X.env) = eval e X.env) : PE X (.Attribute e f pos) (tCon X.K ta f) := by
  intro pins s σ H Q I h
  refine attr_of hb (thn (he pins s σ H _ I h) fun u s1 ⟨x, H1, I1, rx, a, C, dx, fs, v, u0, ex, ea, c, k, l, q⟩ => ?_)
  subst ex
  obtain rfl : u = Value.ref a := rx
  exact getcon_ok I1 ea c k l fun s2 I2 => ⟨v, H1, I2, k.rel, q⟩
theorem ps_fld (ha : PE X o ta) (hv : PE X value tv) (hs : swapsWith value (some (.Attribute o f pos')) pos.line X.env = pure false) : PS X (.Assign [.Attribute o f pos'] value pos) (sFld X.K ta tv f) := by
  intro pins s σ H D I h
  refine plainObj_wpAny_Assign_Attribute (thn (hv pins s σ H _ I h) fun u s1 ⟨y, H1, I1, ry, q⟩ => thn (ha pins s1 σ H1 _ I1 q) fun ov s2 ⟨x, H2, I2, rx, a, C, dx, fs, ex, ea, c, n, l, q2⟩ => ?_) hs
  subst ex
  obtain rfl : ov = Value.ref a := rx
  exact setattr_ok I2 ea c n l ry fun s3 I3 => ⟨σ, _, I3, q2⟩
theorem ps_fldaug {op : Operator} {rd : V → V → Hp → VK → Prop} (ha : PE X o ta) (hv : PE X value tv) (hop : InOp X op rd) : PS X (.AugAssign (.Attribute o f tpos) op value pos) (sFldAug X.K ta tv rd f) := by
  intro pins s σ H D I h
  refine wpAny_AugAssign_AttributeAny (thn (ha pins s σ H _ I h) fun ov s1 ⟨x, H1, I1, rx, a, C, dx, fs, v, ex, ea, c, n, l, q⟩ => ?_)
  subst ex
  obtain rfl : ov = Value.ref a := rx
  refine getattr_ok I1 ea c n l fun u s2 I2 ru => thn (hv pins s2 σ H1 _ I2 q) fun w3 s3 ⟨y, H2, I3, ry, q3⟩ => thn (hop pins s3 σ H2 v y u w3 _ I3 ru ry q3) fun w4 s4 ⟨z, H3, I4, rz, dx', fs', ea', l', q4⟩ => ?_
  exact setattr_ok I4 ea' c n l' rz fun s5 I5 => ⟨σ, _, I5, q4⟩
def rAdd : V → V → Hp → VK → Prop := fun x y H Q => ∃ i j, x = .int i ∧ y = .int j ∧ Q (.int (i + j)) H
def rSub : V → V → Hp → VK → Prop := fun x y H Q => ∃ i j, x = .int i ∧ y = .int j ∧ Q (.int (i - j)) H
theorem in_add : InOp X .Add rAdd := by
  rintro pins s σ H x y u v Q I rx ry ⟨i, j, rfl, rfl, q⟩
  obtain ⟨t, rfl⟩ := (show ∃ t, u = Value.int i t from rx)
  obtain ⟨t', rfl⟩ := (show ∃ t', v = Value.int j t' from ry)
  exact PyProof.Rows.iadd_int ⟨.int (i + j), H, I.tok _, ⟨_, rfl⟩, q⟩
theorem in_sub : InOp X .Sub rSub := by
  rintro pins s σ H x y u v Q I rx ry ⟨i, j, rfl, rfl, q⟩
  obtain ⟨t, rfl⟩ := (show ∃ t, u = Value.int i t from rx)
  obtain ⟨t', rfl⟩ := (show ∃ t', v = Value.int j t' from ry)
  exact PyProof.Rows.isub_int ⟨.int (i - j), H, I.tok _, ⟨_, rfl⟩, q⟩
theorem methcall_of {pl : Sem Bool} {m : Str} {apos : Pos} {args : List Expr} {pins : List (Addr × Obj)} {s : Shared} {σ : St} {H : Hp} {Q : Value → Shared → Prop} {te : TE} (he : PE X e te) (I : Inv X pins σ H s)
    (h : te σ H fun x H1 => ∃ a C dx fs g, x = .ref a ∧ H1 a = some (.ins C dx fs) ∧ Cls X.K C ∧ Meth X.K C m g ∧ fs.lookup m = none ∧
      ∀ s1, Inv X pins σ H1 s1 → wpAny (model X.prog X.w) X.A (callWith pos (.ref g) [.ref a] (backTo pos (starEach args X.env)) (backToKw pos (keywordEach [] X.env))) Q X.xe s1)
    (ht : eval (.Call (.Attribute e m apos) args [] pos) X.env = (do
      let ov ← eval e X.env
      standAt apos.atName
      let (f, first) ← holding [ov] (getMethod ov m pl)
      callWith pos f first (backTo pos (starEach args X.env)) (backToKw pos (keywordEach [] X.env)))) :
    wpAny (model X.prog X.w) X.A (eval (.Call (.Attribute e m apos) args [] pos) X.env) Q X.xe s := by
  refine PySem.W.methodCall_KW (pl := pl) (thn (he pins s σ H _ I h) fun u s1 ⟨x, H1, I1, rx, a, C, dx, fs, g, ex, ea, c, k, l, q⟩ => ?_) ht
  subst ex
  obtain rfl : u = Value.ref a := rx
  exact getmeth_ok I1 ea c k l (q s1 I1)
end
section
variable {X : Cx} {pins : List (Addr × Obj)} {σ : St} {H : Hp} {s : Shared} {A : Around} {E : Value → Shared → Prop} {Q : Value → Shared → Prop} {c : Value} {b : Bool}
inductive TyOf (K : PySem.W.Frag) (H : Hp) : V → Value → Prop where
  | non : TyOf K H .non (.type "NoneType")
  | bl (x : Bool) : TyOf K H (.bl x) (.type "bool")
  | int (i : Int) : TyOf K H (.int i) (.type "int")
  | str (x : Str) : TyOf K H (.str x) (.type "str")
  | flt (x : UInt64) : TyOf K H (.flt x) (.type "float")
  | lst {a : Addr} {xs : List V} (e : H a = some (.lst xs)) : TyOf K H (.ref a) (.type "list")
  | frz {a : Addr} {o : Obj} {xs : List V} (e : H a = some (.frz o (.lst xs))) : TyOf K H (.ref a) (.type "list")
  | tup {a : Addr} {xs : List V} (e : H a = some (.tup xs)) : TyOf K H (.ref a) (.type "tuple")
  | dK {a : Addr} {kvs : List (Key × V)} (e : H a = some (.dK kvs)) : TyOf K H (.ref a) (.type "dict")
  | dT {a : Addr} {kvs : List (List Key × V)} (e : H a = some (.dT kvs)) : TyOf K H (.ref a) (.type "dict")
  | ins {a C dx : Addr} {fs : List (Str × V)} (e : H a = some (.ins C dx fs)) (cl : Cls K C) (ha : PySem.W.findIn K (.ref C) "__class__" = some (some (.builtin "object.__class__")))
      (hn : PySem.W.specialIn K (.builtin "object.__class__") "__get__" = some (some (.builtin "getset_descriptor.__get__"))) (htk : PySem.W.takesIn K (.builtin "object.__class__") = some true)
      (hm : PySem.W.mroIn K C (.type "object") = some true) : TyOf K H (.ref a) (.ref C)
theorem isinst_ok {x : V} {u t : Value} (I : Inv X pins σ H s) (rx : RelV x u) (ty : TyOf X.K H x t) (e : PySem.W.kitOne X.K t c = some b) (h : ∀ tk, Q (.bool b) { s with toks := tk }) :
    wpAny (model X.prog X.w) A (call (.builtin "isinstance") [u, c]) Q E s := by
  cases ty with
  | non => cases (show u = Value.none from rx); exact PySem.W.kia_one PySem.W.kitx_none I.kIn True.intro e (fun z => nomatch z) h
  | bl y => cases (show u = Value.bool y from rx); exact PySem.W.kia_one PySem.W.kitx_bool I.kIn True.intro e (fun z => nomatch z) h
  | int i => obtain ⟨t, q⟩ := (show ∃ t, u = Value.int i t from rx); cases q; exact PySem.W.kia_one PySem.W.kitx_int I.kIn True.intro e (fun z => nomatch z) h
  | str y => obtain ⟨t, q⟩ := (show ∃ t, u = Value.str y t from rx); cases q; exact PySem.W.kia_one PySem.W.kitx_str I.kIn True.intro e (fun z => nomatch z) h
  | flt y => obtain ⟨t, q⟩ := (show ∃ t, u = Value.float y t from rx); cases q; exact PySem.W.kia_one PySem.W.kitx_float I.kIn True.intro e (fun z => nomatch z) h
  | @lst a xs ea =>
    cases (show u = Value.ref a from rx)
    obtain ⟨_, _, n, _, h1⟩ := (show ObjOk X.prog X.w H s.heap a (.lst xs) from I.hok a _ ea)
    exact PySem.W.kia_one PySem.W.kitx_list I.kIn ⟨_, h1, rfl⟩ e (fun z => nomatch z) h
  | @frz a ob xs ea =>
    cases (show u = Value.ref a from rx)
    obtain ⟨_, _, _, n, _, h1⟩ := (show ObjOk X.prog X.w H s.heap a (.frz ob (.lst xs)) from I.hok a _ ea)
    exact PySem.W.kia_one PySem.W.kitx_list I.kIn ⟨_, h1, rfl⟩ e (fun z => nomatch z) h
  | @tup a xs ea =>
    cases (show u = Value.ref a from rx)
    obtain ⟨_, _, _, p⟩ := (show ObjOk X.prog X.w H s.heap a (.tup xs) from I.hok a _ ea)
    obtain ⟨o, h1, h2, _⟩ := p
    exact PySem.W.kia_one PySem.W.kitx_tuple I.kIn ⟨o, h1, h2⟩ e (fun z => nomatch z) h
  | @dK a kvs ea =>
    cases (show u = Value.ref a from rx)
    obtain ⟨_, _, vs, _, p⟩ := (show ObjOk X.prog X.w H s.heap a (.dK kvs) from I.hok a _ ea)
    obtain ⟨o, es, ep, h1, h2, _⟩ := p
    exact PySem.W.kia_one PySem.W.kitx_dict I.kIn ⟨o, h1, h2.1⟩ e (fun z => nomatch z) h
  | @dT a kvs ea =>
    cases (show u = Value.ref a from rx)
    obtain ⟨_, _, xs, _, o, es, ep, h1, h2, _⟩ := (show ObjOk X.prog X.w H s.heap a (.dT kvs) from I.hok a _ ea)
    exact PySem.W.kia_one PySem.W.kitx_dict I.kIn ⟨o, h1, h2.1⟩ e (fun z => nomatch z) h
  | @ins a C dx fs ea cl ha hn htk hm =>
    cases (show u = Value.ref a from rx)
    obtain ⟨mA, O, _⟩ := ins_get I.hok ea
    obtain ⟨od, J, _⟩ := O.look
    exact PySem.W.kia_one (PySem.W.kitx_own (cl.get _) cl.hd ha hn htk hm) I.kIn J e (fun z => nomatch z) h
end
end L2
namespace L2
open PySem PySem.Spec PyProof.Rows
structure Room (k : Nat) (A : Around) : Prop where
  hd : A.handled = none
  dp : A.depth + 3 * k + 5 < recursionLimit
  un : A.units + 16 * k + 200 < cLine
theorem Room.mono {j k : Nat} {A : Around} (r : Room k A) (h : j ≤ k) : Room j A := ⟨r.hd, by have := r.dp; omega, by have := r.un; omega⟩
theorem Room.deeper {k : Nat} {A : Around} (r : Room (k + 1) A) (env : Env) : Room k (A.deeper env) :=
  ⟨r.hd, by have := r.dp; show A.depth + 1 + 3 * k + 5 < _; omega, by have := r.un; show A.units + 3 + 16 * k + 200 < _; omega⟩
theorem Room.in1 {k : Nat} {A : Around} (r : Room (k + 1) A) : Room k A.in1 :=
  ⟨r.hd, by have := r.dp; show A.depth + 3 * k + 5 < _; omega, by have := r.un; show A.units + 1 + 16 * k + 200 < _; omega⟩
theorem make_depth {A : Around} {C : Addr} {us : List Value} {kw : List (Str × Value)} : (A.under (.builtin "type.__call__" ⟨.ref C :: us, kw⟩)).depth = A.depth + 1 := by
  first | rfl | simp [Around.under, Code.weight, Code.isCreation, Code.isGuard, Code.isCaller, Code.frames, Code.isFrame, guardIds]
theorem make_units {A : Around} {C : Addr} {us : List Value} {kw : List (Str × Value)} : (A.under (.builtin "type.__call__" ⟨.ref C :: us, kw⟩)).units = A.units + 1 := by
  first | rfl | simp [Around.under, Code.cUnits, Code.frames, Code.isFrame]
theorem Room.make {k : Nat} {A : Around} (r : Room (k + 1) A) (C : Addr) (us : List Value) (kw : List (Str × Value)) : Room k (A.under (.builtin "type.__call__" ⟨.ref C :: us, kw⟩)) :=
  ⟨r.hd, by have := r.dp; rw [make_depth]; omega, by have := r.un; rw [make_units]; omega⟩
theorem Room.depth {k : Nat} {A : Around} (r : Room k A) : A.depth < recursionLimit := by have := r.dp; omega
theorem Room.units {k : Nat} {A : Around} (r : Room k A) : A.units + 64 < cLine := by have := r.un; omega
theorem Room.units0 {k : Nat} {A : Around} (r : Room k A) : A.units < cLine := by have := r.un; omega
def tNil : TA := fun _ H Q => Q [] H
def tCons (ta : TE) (tr : TA) : TA := fun σ H Q => ta σ H fun x H1 => tr σ H1 fun xs H2 => Q (x :: xs) H2
section
variable {X : Cx} {e : Expr} {es : List Expr} {te : TE} {t : TA} {pos : Pos}
theorem pa_nil : PA X [] tNil := fun _ _ _ _ H Q I h => Calls.spliced_nil ⟨[], H, I, .nil, h⟩
theorem pa_cons (ha : PE X e te) (hr : PA X es t) (hs : starEach (e :: es) X.env = (false, eval e X.env) :: starEach es X.env := by rfl) : PA X (e :: es) (tCons te t) := by
  intro pos pins s σ H Q I h
  rw [hs]
  show wpAny _ _ (spliced ((false, eval e X.env) :: backTo pos (starEach es X.env))) _ _ s
  refine Calls.spliced_cons (thn (ha pins s σ H _ I h) fun u s1 ⟨x, H1, I1, r1, q1⟩ => ?_)
  exact thn (hr pos pins s1 σ H1 _ I1 q1) fun us s2 ⟨xs, H2, I2, r2, q2⟩ => ⟨x :: xs, H2, I2, .cons r1 r2, q2⟩
def tTup (t : TA) : TE := fun σ H Q => t σ H fun xs H1 => xs.length ≤ sizeLine ∧ ∀ p, H1 p = none → Q (.ref p) (upd H1 p (.tup xs))
def tLst (t : TA) : TE := fun σ H Q => t σ H fun xs H1 => xs.length ≤ sizeLine ∧ ∀ p, H1 p = none → Q (.ref p) (upd H1 p (.lst xs))
theorem pe_tup {x1} (h : PA X es t) : PE X (.Tuple es x1 pos) (tTup t) := by
  intro pins s σ H Q I hq
  refine wpAny_Tuple_spliced (thn (h pos pins s σ H _ I hq) fun us s1 ⟨xs, H1, I1, r, z, q⟩ => ⟨by rw [← r.length]; exact z, ?_⟩)
  have hf : H1 s1.heap.objs.size = none := I1.hok.fresh (Nat.le_refl _)
  refine ⟨.ref s1.heap.objs.size, upd H1 s1.heap.objs.size (.tup xs), I1.laid (t' := s1.toks) (fun b u e => Heap.get?_push_of_some _ e) (Nat.le_refl _) ?_, rfl, q _ hf⟩
  exact ⟨z, us, r, ⟨_, Heap.get?_push_size _ rfl, rfl, _, rfl⟩⟩
theorem pe_lst (h : PA X es t) : PE X (.List es pos) (tLst t) := by
  intro pins s σ H Q I hq
  refine wpAny_List_spliced (thn (h pos pins s σ H _ I hq) fun us s1 ⟨xs, H1, I1, r, z, q⟩ => ⟨by rw [← r.length]; exact z, ?_⟩)
  have hf : H1 s1.heap.objs.size = none := I1.hok.fresh (Nat.le_refl _)
  refine ⟨.ref s1.heap.objs.size, upd H1 s1.heap.objs.size (.lst xs), I1.laid (t' := s1.toks) (fun b u e => Heap.get?_push_of_some _ e) (Nat.le_refl _) ?_, rfl, q _ hf⟩
  exact ⟨z, us, 0, r, Heap.get?_push_size _ rfl⟩
end
abbrev Sp := List V → Hp → VK → XK → Prop
abbrev CXT := List Env → Hp → Shared → XK → Value → Shared → Prop
structure Env0 (P : Program) (w : World) (K : PySem.W.Frag) (mg : Str → Option Value) (base : Heap) (A : Around) (outer : List Env) (s : Shared) (H : Hp) : Prop where
  frames : A.frames = some outer
  mod : Mod K mg base
  bs : ∀ b o, base.get? b = some o → s.heap.get? b = some o ∧ H b = none
  bsz : base.objs.size ≤ s.heap.objs.size
  funs : s.heap.FunFrames base outer
  frf : ∀ b ∈ frs outer, H b = none
  hok : HOk P w H s.heap
  bare : AllBare s.gens
def CE (outer : List Env) (P : Program) (w : World) (H : Hp) (s : Shared) (Q : VK) (u : Value) (s' : Shared) : Prop :=
  ∃ v H', s'.os = s.os ∧ AllBare s'.gens ∧ Un (frs outer) [] H H' s.heap s'.heap ∧ HOk P w H' s'.heap ∧ RelV v u ∧ Q v H'
def CR (CX : CXT) (outer : List Env) (P : Program) (w : World) (H : Hp) (s : Shared) (Q : VK) (E : XK) (r : Result) (s' : Shared) : Prop :=
  match r with
  | .ok (.ret u) => CE outer P w H s Q u s'
  | .ok _ => False
  | .error e => CX outer H s E e s'
structure FnOk (P : Program) (w : World) (K : PySem.W.Frag) (mg : Str → Option Value) (base : Heap) (CX : CXT) (k : Nat) (f : Addr) (fd : FuncData) (ps : List Str) (sp : Sp) : Prop where
  len : ∀ vs H Q E, sp vs H Q E → vs.length = ps.length
  run : ∀ (A : Around) (outer : List Env) (s : Shared) (H : Hp) (args : Args) (us : List Value) (vs : List V) (Q : VK) (E : XK), Room k A → Env0 P w K mg base A outer s H → BindsTo s fd args (ps.zip us) → Vals vs us → sp vs H Q E →
    codeAny (model P w) A (.call (.ref f) args) (CR CX outer P w H s Q E) s
theorem FnOk.mono {P : Program} {w : World} {K : PySem.W.Frag} {mg : Str → Option Value} {base : Heap} {CX : CXT} {j k : Nat} {f : Addr} {fd : FuncData} {ps : List Str} {sp : Sp} (F : FnOk P w K mg base CX j f fd ps sp) (h : j ≤ k) :
    FnOk P w K mg base CX k f fd ps sp := ⟨F.len, fun A outer s H args us vs Q E hr => F.run A outer s H args us vs Q E (hr.mono h)⟩
theorem FnOk.imp {P : Program} {w : World} {K : PySem.W.Frag} {mg : Str → Option Value} {base : Heap} {CX : CXT} {k : Nat} {f : Addr} {fd : FuncData} {ps : List Str} {sp sp' : Sp} (F : FnOk P w K mg base CX k f fd ps sp)
    (h : ∀ vs H Q E, sp' vs H Q E → sp vs H Q E) : FnOk P w K mg base CX k f fd ps sp' :=
  ⟨fun vs H Q E q => F.len vs H Q E (h _ _ _ _ q), fun A outer s H args us vs Q E hr he hb hv hs => F.run A outer s H args us vs Q E hr he hb hv (h _ _ _ _ hs)⟩
theorem Env0.make {P : Program} {w : World} {K : PySem.W.Frag} {mg : Str → Option Value} {base : Heap} {A : Around} {outer : List Env} {s : Shared} {H : Hp} (e : Env0 P w K mg base A outer s H) (C : Addr) (us : List Value) (kw : List (Str × Value)) :
    Env0 P w K mg base (A.under (.builtin "type.__call__" ⟨.ref C :: us, kw⟩)) outer s H := ⟨by first | exact e.frames | (simpa [Around.under, Code.envs, Code.isFrame, pushEnvs] using e.frames), e.mod, e.bs, e.bsz, e.funs, e.frf, e.hok, e.bare⟩
theorem Env0.in1 {P : Program} {w : World} {K : PySem.W.Frag} {mg : Str → Option Value} {base : Heap} {A : Around} {outer : List Env} {s : Shared} {H : Hp} (e : Env0 P w K mg base A outer s H) :
    Env0 P w K mg base A.in1 outer s H := ⟨e.frames, e.mod, e.bs, e.bsz, e.funs, e.frf, e.hok, e.bare⟩
section
variable {X : Cx} {pins : List (Addr × Obj)} {σ : St} {H : Hp} {s s' : Shared}
theorem Inv.env0 (I : Inv X pins σ H s) : Env0 X.prog X.w X.K X.mg X.base X.A X.stack s H :=
  ⟨I.ok.frames, I.ok.mod, I.bs, Nat.le_trans I.ok.bsz I.sz, I.stack, I.stkFree, I.hok, I.bare⟩
theorem Inv.after {Q : VK} {u : Value} (I : Inv X pins σ H s) (h : CE X.stack X.prog X.w H s Q u s') : EP X pins σ Q u s' := by
  obtain ⟨v, H', os, bare, un, hok, r, q⟩ := h
  obtain ⟨hh, g, d, t, os'⟩ := s'
  obtain rfl : os' = s.os := os
  exact ⟨v, H', I.call (h' := hh) (g' := g) (d' := d) (t' := t) (ch := []) un hok bare (fun b z => absurd z (by simp)), r, q⟩
end
def tCall (sp : Sp) (dvs : List V) (E : XK) (t : TA) : TE := fun σ H Q => t σ H fun vs H1 => sp (vs ++ dvs) H1 Q E
def tMeth (C : Addr) (m : Str) (sp : Sp) (dvs : List V) (E : XK) (ta : TE) (t : TA) : TE := fun σ H Q => ta σ H fun x H1 => ∃ a dx fs, x = .ref a ∧ H1 a = some (.ins C dx fs) ∧ fs.lookup m = none ∧
  t σ H1 fun vs H2 => sp (x :: (vs ++ dvs)) H2 Q E
def tMake (C : Addr) (sp : Sp) (dvs : List V) (E : XK) (t : TA) : TE := fun σ H Q => t σ H fun vs H1 => ∀ x dx, H1 x = none → H1 dx = none → dx ≠ x →
  sp (.ref x :: (vs ++ dvs)) (upd (upd H1 dx (.own x)) x (.ins C dx [])) (fun v H2 => v = .non ∧ Q (.ref x) H2) E
def Binds (K : PySem.W.Frag) (fd : FuncData) (ps : List Str) (ds : List Value) : Prop :=
  ∀ (s : Shared) (us : List Value), K.In s.heap → (us ++ ds).length = ps.length → BindsTo s fd ⟨us, []⟩ (ps.zip (us ++ ds))
theorem Binds.all {K : PySem.W.Frag} {fd : FuncData} {ps : List Str} (h : ∀ us : List Value, us.length = ps.length → bindArgs fd ⟨us, []⟩ = pure (ps.zip us)) : Binds K fd ps [] := fun s us _ hl => by
  rw [List.append_nil] at hl ⊢
  exact .of_eq (h us hl)
def Passes (CX : CXT) (X : Cx) (E : XK) : Prop := ∀ (pins : List (Addr × Obj)) (σ : St) (H : Hp) (s : Shared) (e : Value) (s' : Shared), Inv X pins σ H s → CX X.stack H s E e s' → X.xe e s'
section
variable {X : Cx} {CX : CXT} {k : Nat} {f C : Addr} {fd : FuncData} {ps : List Str} {sp : Sp} {dvs : List V} {ds : List Value} {E : XK} {x m : Str} {p pos apos : Pos} {e o : Expr} {es : List Expr} {ta : TE} {t : TA}
theorem run_fn {pins : List (Addr × Obj)} {σ : St} {H : Hp} {s : Shared} {Q : VK} {us : List Value} {vs : List V} (F : FnOk X.prog X.w X.K X.mg X.base CX k f fd ps sp) (hr : Room k X.A) (hb : Binds X.K fd ps ds) (hd : Vals dvs ds) (hx : Passes CX X E)
    (I : Inv X pins σ H s) (r : Vals vs us) (h : sp (vs ++ dvs) H Q E) : wpAny (model X.prog X.w) X.A (call (.ref f) us) (EP X pins σ Q) X.xe s := by
  have r2 : Vals (vs ++ dvs) (us ++ ds) := r.append hd
  have hl : (us ++ ds).length = ps.length := by rw [← r2.length]; exact F.len _ _ _ _ h
  refine wpAny_call (codeAny_mono (F.run X.A X.stack s H ⟨us, []⟩ (us ++ ds) (vs ++ dvs) Q E hr I.env0 (hb s us I.kIn hl) r2 h) fun r s' hq => ?_)
  cases r with
  | error e => exact hx pins σ H s e s' I hq
  | ok fl =>
    cases fl with
    | ret u => exact I.after hq
    | next => exact False.elim hq
    | brk => exact False.elim hq
    | cont => exact False.elim hq
theorem pe_call (F : FnOk X.prog X.w X.K X.mg X.base CX k f fd ps sp) (hr : Room k X.A) (hg : Gl X x) (hm : X.mg x = some (.ref f)) (hk : PySem.W.keepIn X.K (.ref f) = true) (hb : Binds X.K fd ps ds) (hd : Vals dvs ds) (hx : Passes CX X E)
    (ha : PA X (e :: es) t) (hdb : (x == ("__debug__" : Str)) = false := by decide) (he : starEach (e :: es) X.env = (false, eval e X.env) :: starEach es X.env := by rfl) (hpl : (backTo pos (starEach es X.env)).any (·.1) = false := by rfl) :
    PE X (.Call (.Name x p) (e :: es) [] pos) (tCall sp dvs E t) := by
  intro pins s σ H Q I h
  refine wpAny_Call_Name_kw (ld_glob I hg hm ?_ hdb)
  refine PySem.W.callWith_K (h₀ := X.base) I.ok.mod.kin hk (thn (ha pos pins s σ H _ I h) fun us s1 ⟨vs, H1, I1, r, q⟩ => ⟨I1.kIn, ?_⟩) he hpl
  exact run_fn F hr hb hd hx I1 r q
theorem pe_call0 (F : FnOk X.prog X.w X.K X.mg X.base CX k f fd ps sp) (hr : Room k X.A) (hg : Gl X x) (hm : X.mg x = some (.ref f)) (hk : PySem.W.keepIn X.K (.ref f) = true) (hb : Binds X.K fd ps ds) (hd : Vals dvs ds) (hx : Passes CX X E)
    (hdb : (x == ("__debug__" : Str)) = false := by decide) : PE X (.Call (.Name x p) [] [] pos) (tCall sp dvs E tNil) := by
  intro pins s σ H Q I h
  refine wpAny_Call_Name_kw (ld_glob I hg hm ?_ hdb)
  exact PySem.W.callWith_K0 I.kIn hk (run_fn (us := []) F hr hb hd hx I .nil h)
theorem pe_meth {pl : Sem Bool} (he : PE X o ta) (c : Cls X.K C) (hm : Meth X.K C m f) (F : FnOk X.prog X.w X.K X.mg X.base CX k f fd ps sp) (hr : Room k X.A) (hb : Binds X.K fd ps ds) (hd : Vals dvs ds) (hx : Passes CX X E) (ha : PA X (e :: es) t)
    (hst : starEach (e :: es) X.env = (false, eval e X.env) :: starEach es X.env := by rfl) (hpl : (backTo pos (starEach es X.env)).any (·.1) = false := by rfl)
    (ht : eval (.Call (.Attribute o m apos) (e :: es) [] pos) X.env = (do
      let ov ← eval o X.env
      standAt apos.atName
      let (f, first) ← holding [ov] (getMethod ov m pl)
      callWith pos f first (backTo pos (starEach (e :: es) X.env)) (backToKw pos (keywordEach [] X.env))) := by rfl) :
    PE X (.Call (.Attribute o m apos) (e :: es) [] pos) (tMeth C m sp dvs E ta t) := by
  intro pins s σ H Q I h
  refine PySem.W.methodCall_KW (pl := pl) (thn (he pins s σ H _ I h) fun u s1 ⟨x, H1, I1, rx, a, dx, fs, ex, ea, l, q⟩ => ?_) ht
  subst ex
  obtain rfl : u = Value.ref a := rx
  refine getmeth_ok I1 ea c hm l ?_
  refine PySem.W.callWith_K (first := [.ref a]) (h₀ := X.base) I.ok.mod.kin hm.kp (thn (ha pos pins s1 σ H1 _ I1 q) fun us s2 ⟨vs, H2, I2, r, q2⟩ => ⟨I2.kIn, ?_⟩) hst hpl
  exact run_fn (us := .ref a :: us) (vs := .ref a :: vs) F hr hb hd hx I2 (.cons rfl r) q2
theorem pe_meth0 {pl : Sem Bool} (he : PE X o ta) (c : Cls X.K C) (hm : Meth X.K C m f) (F : FnOk X.prog X.w X.K X.mg X.base CX k f fd ps sp) (hr : Room k X.A) (hb : Binds X.K fd ps ds) (hd : Vals dvs ds) (hx : Passes CX X E)
    (ht : eval (.Call (.Attribute o m apos) [] [] pos) X.env = (do
      let ov ← eval o X.env
      standAt apos.atName
      let (f, first) ← holding [ov] (getMethod ov m pl)
      callWith pos f first (backTo pos (starEach [] X.env)) (backToKw pos (keywordEach [] X.env))) := by rfl) :
    PE X (.Call (.Attribute o m apos) [] [] pos) (tMeth C m sp dvs E ta tNil) := by
  intro pins s σ H Q I h
  refine PySem.W.methodCall_KW (pl := pl) (thn (he pins s σ H _ I h) fun u s1 ⟨x, H1, I1, rx, a, dx, fs, ex, ea, l, q⟩ => ?_) ht
  subst ex
  obtain rfl : u = Value.ref a := rx
  refine getmeth_ok I1 ea c hm l ?_
  exact PySem.W.callWith_K0 (first := [.ref a]) I1.kIn hm.kp (run_fn (us := [.ref a]) (vs := [.ref a]) F hr hb hd hx I1 (.cons rfl .nil) q)
structure Mk (K : PySem.W.Frag) (C f : Addr) : Prop where
  makes : PySem.W.makesIn K C = true
  init : PySem.W.findIn K (.ref C) "__init__" = some (some (.ref f))
  fn : PySem.W.isFn K (.ref f) = true
  kp : PySem.W.keepIn K (.ref C) = true
theorem run_make {pins : List (Addr × Obj)} {σ : St} {H : Hp} {s : Shared} {Q : VK} {us : List Value} {vs : List V} (M : Mk X.K C f) (F : FnOk X.prog X.w X.K X.mg X.base CX k f fd ps sp) (hr : Room (k + 1) X.A) (hb : Binds X.K fd ps ds) (hd : Vals dvs ds)
    (hx : Passes CX X E) (I : Inv X pins σ H s) (r : Vals vs us)
    (h : ∀ x dx, H x = none → H dx = none → dx ≠ x → sp (.ref x :: (vs ++ dvs)) (upd (upd H dx (.own x)) x (.ins C dx [])) (fun v H2 => v = .non ∧ Q (.ref x) H2) E) :
    wpAny (model X.prog X.w) X.A (call (.ref C) us) (EP X pins σ Q) X.xe s := by
  have hq := h (s.heap.objs.size + 1) s.heap.objs.size (I.hok.fresh (Nat.le_succ _)) (I.hok.fresh (Nat.le_refl _)) (Nat.ne_of_lt (Nat.lt_succ_self _))
  have I2 := Inv.made (C := C) I
  have r2 : Vals (V.ref (s.heap.objs.size + 1) :: (vs ++ dvs)) (Value.ref (s.heap.objs.size + 1) :: (us ++ ds)) := .cons rfl (r.append hd)
  have hl : (Value.ref (s.heap.objs.size + 1) :: us ++ ds).length = ps.length := by
    have e := r2.length
    rw [F.len _ _ _ _ hq] at e
    exact e.symm
  refine wpAny_call (make_map (f := f) I.kIn M.makes M.init (beq_iff_eq.mp M.fn) (codeAny_mono (F.run _ X.stack _ _ ⟨Value.ref (s.heap.objs.size + 1) :: us, []⟩ (Value.ref (s.heap.objs.size + 1) :: (us ++ ds)) _ _ E (hr.make C us [])
    (I2.env0.make C us []) (hb _ (Value.ref (s.heap.objs.size + 1) :: us) I2.kIn hl) r2 hq) fun r s' hq' => ?_))
  cases r with
  | error e => exact hx pins σ _ _ e s' I2 hq'
  | ok fl =>
    cases fl with
    | ret u =>
      obtain ⟨v, H', I3, rv, ev, q3⟩ := I2.after hq'
      subst ev
      exact ⟨rv, ⟨V.ref (s.heap.objs.size + 1), H', I3, rfl, q3⟩⟩
    | next => exact False.elim hq'
    | brk => exact False.elim hq'
    | cont => exact False.elim hq'
theorem pe_make (M : Mk X.K C f) (F : FnOk X.prog X.w X.K X.mg X.base CX k f fd ps sp) (hr : Room (k + 1) X.A) (hg : Gl X x) (hm : X.mg x = some (.ref C)) (hb : Binds X.K fd ps ds) (hd : Vals dvs ds) (hx : Passes CX X E)
    (ha : PA X (e :: es) t) (hdb : (x == ("__debug__" : Str)) = false := by decide) (he : starEach (e :: es) X.env = (false, eval e X.env) :: starEach es X.env := by rfl) (hpl : (backTo pos (starEach es X.env)).any (·.1) = false := by rfl) :
    PE X (.Call (.Name x p) (e :: es) [] pos) (tMake C sp dvs E t) := by
  intro pins s σ H Q I h
  refine wpAny_Call_Name_kw (ld_glob I hg hm ?_ hdb)
  refine PySem.W.callWith_K (h₀ := X.base) I.ok.mod.kin M.kp (thn (ha pos pins s σ H _ I h) fun us s1 ⟨vs, H1, I1, r, q⟩ => ⟨I1.kIn, ?_⟩) he hpl
  exact run_make M F hr hb hd hx I1 r q
theorem pe_make0 (M : Mk X.K C f) (F : FnOk X.prog X.w X.K X.mg X.base CX k f fd ps sp) (hr : Room (k + 1) X.A) (hg : Gl X x) (hm : X.mg x = some (.ref C)) (hb : Binds X.K fd ps ds) (hd : Vals dvs ds) (hx : Passes CX X E)
    (hdb : (x == ("__debug__" : Str)) = false := by decide) : PE X (.Call (.Name x p) [] [] pos) (tMake C sp dvs E tNil) := by
  intro pins s σ H Q I h
  refine wpAny_Call_Name_kw (ld_glob I hg hm ?_ hdb)
  exact PySem.W.callWith_K0 I.kIn M.kp (run_make (us := []) M F hr hb hd hx I .nil h)
end
def PK (X : Cx) (kws : List Keyword) (t : TA) : Prop :=
  ∀ (pos : Pos) (pins : List (Addr × Obj)) (s : Shared) (σ : St) (H : Hp) (Q : List V → Hp → Prop), Inv X pins σ H s → t σ H Q → wpAny (model X.prog X.w) X.A (evalAll ((backToKw pos (keywordEach kws X.env)).map (·.2))) (AP X pins σ Q) X.xe s
section
variable {X : Cx} {CX : CXT} {k : Nat} {f C : Addr} {fd : FuncData} {ps ks : List Str} {sp : Sp} {E : XK} {x m : Str} {p pos apos kpos : Pos} {e o : Expr} {es : List Expr} {kws : List Keyword} {te ta : TE} {t tk : TA} {nm : Option Str}
theorem pk_nil : PK X [] tNil := fun _ _ _ _ H Q I h => wpAny_evalAll_nil ⟨[], H, I, .nil, h⟩
theorem pk_cons (ha : PE X e te) (hr : PK X kws t) : PK X (⟨nm, e, kpos⟩ :: kws) (tCons te t) := by
  intro pos pins s σ H Q I h
  show wpAny _ _ (evalAll ((do let v ← eval e X.env; standAt pos; pure v) :: (backToKw pos (keywordEach kws X.env)).map (·.2))) _ _ s
  refine wpAny_evalAll_cons (wpAny_bind (thn (ha pins s σ H _ I h) fun u s1 ⟨x, H1, I1, r1, q1⟩ => wpAny_bind (wpAny_standAt (wpAny_pure ?_))))
  exact thn (hr pos pins s1 σ H1 _ I1 q1) fun us s2 ⟨xs, H2, I2, r2, q2⟩ => ⟨x :: xs, H2, I2, .cons r1 r2, q2⟩
structure KBinds (K : PySem.W.Frag) (fd : FuncData) (ps ks : List Str) (g : List Value → List Value → List Value) (gV : List V → List V → List V) : Prop where
  to : ∀ (s : Shared) (us ws : List Value), K.In s.heap → (g us ws).length = ps.length → BindsTo s fd ⟨us, ks.zip ws⟩ (ps.zip (g us ws))
  rel : ∀ {vs : List V} {us : List Value} {zs : List V} {ws : List Value}, Vals vs us → Vals zs ws → Vals (gV vs zs) (g us ws)
def tCallK (sp : Sp) (gV : List V → List V → List V) (E : XK) (t tk : TA) : TE := fun σ H Q => t σ H fun vs H1 => tk σ H1 fun zs H2 => sp (gV vs zs) H2 Q E
variable {g : List Value → List Value → List Value} {gV : List V → List V → List V}
theorem run_fnk {pins : List (Addr × Obj)} {σ : St} {H : Hp} {s : Shared} {Q : VK} {us ws : List Value} {vs zs : List V} (F : FnOk X.prog X.w X.K X.mg X.base CX k f fd ps sp) (hr : Room k X.A) (hb : KBinds X.K fd ps ks g gV) (hx : Passes CX X E)
    (I : Inv X pins σ H s) (r : Vals vs us) (rz : Vals zs ws) (h : sp (gV vs zs) H Q E) : wpAny (model X.prog X.w) X.A (call (.ref f) us (ks.zip ws)) (EP X pins σ Q) X.xe s := by
  have r2 := hb.rel r rz
  have hl : (g us ws).length = ps.length := by rw [← r2.length]; exact F.len _ _ _ _ h
  refine wpAny_call (codeAny_mono (F.run X.A X.stack s H ⟨us, ks.zip ws⟩ (g us ws) (gV vs zs) Q E hr I.env0 (hb.to s us ws I.kIn hl) r2 h) fun r s' hq => ?_)
  cases r with
  | error e => exact hx pins σ H s e s' I hq
  | ok fl =>
    cases fl with
    | ret u => exact I.after hq
    | next => exact False.elim hq
    | brk => exact False.elim hq
    | cont => exact False.elim hq
theorem pe_callK (F : FnOk X.prog X.w X.K X.mg X.base CX k f fd ps sp) (hr : Room k X.A) (hg : Gl X x) (hm : X.mg x = some (.ref f)) (hk : PySem.W.keepIn X.K (.ref f) = true) (hb : KBinds X.K fd ps ks g gV) (hx : Passes CX X E)
    (ha : PA X (e :: es) t) (hkw : PK X kws tk) (hall : (backToKw pos (keywordEach kws X.env)).all (·.1.isSome) = true := by rfl) (hks : (backToKw pos (keywordEach kws X.env)).filterMap (·.1) = ks := by rfl)
    (hdb : (x == ("__debug__" : Str)) = false := by decide) (he : starEach (e :: es) X.env = (false, eval e X.env) :: starEach es X.env := by rfl)
    (hpl : ((backTo pos (starEach (e :: es) X.env)).any (·.1) || (backToKw pos (keywordEach kws X.env)).any (·.1.isNone)) = false := by rfl) :
    PE X (.Call (.Name x p) (e :: es) kws pos) (tCallK sp gV E t tk) := by
  intro pins s σ H Q I h
  refine wpAny_Call_Name_kw (ld_glob I hg hm ?_ hdb)
  refine PySem.W.callWith_KW (h₀ := X.base) I.ok.mod.kin hk hall (thn (ha pos pins s σ H _ I h) fun us s1 ⟨vs, H1, I1, r, q⟩ => ?_) hpl he
  refine thn (hkw pos pins s1 σ H1 _ I1 q) fun ws s2 ⟨zs, H2, I2, rz, q2⟩ => ⟨I2.kIn, ?_⟩
  rw [hks]
  exact run_fnk F hr hb hx I2 r rz q2
end
structure FnScope (N P : List Str) (sc : Scope) : Prop where
  kind : sc.kind = .function
  co : sc.isCoroutine = false
  gen : sc.isGenerator = false
  nd : N.Nodup
  pre : N.take P.length = P
  par : ∀ x ∈ P, sc.names.lookup x = some .local ∨ sc.names.lookup x = some .cell
  nofree : ∀ y ∈ sc.names, y.2 ≠ .free
theorem bindL_out {kindOf : Str → Option NameKind} {x : Str} : ∀ {binds : List (Str × Value)} {m : Str → Option Value}, (∀ v, (x, v) ∉ binds) → bindL kindOf binds m x = m x
  | [], _, _ => rfl
  | (n, v) :: r, m, h => by
    unfold bindL
    rw [bindL_out fun w hw => h w (List.mem_cons_of_mem _ hw)]
    split
    · have : x ≠ n := by rintro rfl; exact h v List.mem_cons_self
      simp [this]
    · rfl
theorem bindC_out {kindOf : Str → Option NameKind} {x : Str} : ∀ {binds : List (Str × Value)} {m : Str → Option Value}, (∀ v, (x, v) ∉ binds) → bindC kindOf binds m x = m x
  | [], _, _ => rfl
  | (n, v) :: r, m, h => by
    unfold bindC
    rw [bindC_out fun w hw => h w (List.mem_cons_of_mem _ hw)]
    split
    · rfl
    · have : x ≠ n := by rintro rfl; exact h v List.mem_cons_self
      simp [this]
theorem bindL_get {kindOf : Str → Option NameKind} {x : Str} {v : Value} : ∀ {P : List Str} {vs : List Value} {i : Nat} {m : Str → Option Value}, P.Nodup → P[i]? = some x → vs[i]? = some v → kindOf x = some .local →
    bindL kindOf (P.zip vs) m x = some v
  | [], _, _, _, _, h, _, _ => by simp at h
  | _ :: _, [], _, _, _, _, h, _ => by simp at h
  | p :: P, w :: vs, 0, m, nd, h1, h2, hk => by
    simp at h1 h2; subst h1; subst h2
    show bindL kindOf ((p, w) :: P.zip vs) m p = _
    unfold bindL
    rw [bindL_out fun v hv => (List.nodup_cons.mp nd).1 (List.of_mem_zip hv).1, if_pos hk]
    simp
  | p :: P, w :: vs, i + 1, m, nd, h1, h2, hk => by
    show bindL kindOf ((p, w) :: P.zip vs) m x = _
    unfold bindL
    exact bindL_get (i := i) (List.nodup_cons.mp nd).2 (by simpa using h1) (by simpa using h2) hk
theorem bindC_get {kindOf : Str → Option NameKind} {x : Str} {v : Value} : ∀ {P : List Str} {vs : List Value} {i : Nat} {m : Str → Option Value}, P.Nodup → P[i]? = some x → vs[i]? = some v → kindOf x ≠ some .local →
    bindC kindOf (P.zip vs) m x = some v
  | [], _, _, _, _, h, _, _ => by simp at h
  | _ :: _, [], _, _, _, _, h, _ => by simp at h
  | p :: P, w :: vs, 0, m, nd, h1, h2, hk => by
    simp at h1 h2; subst h1; subst h2
    show bindC kindOf ((p, w) :: P.zip vs) m p = _
    unfold bindC
    rw [bindC_out fun v hv => (List.nodup_cons.mp nd).1 (List.of_mem_zip hv).1, if_neg hk]
    simp
  | p :: P, w :: vs, i + 1, m, nd, h1, h2, hk => by
    show bindC kindOf ((p, w) :: P.zip vs) m x = _
    unfold bindC
    exact bindC_get (i := i) (List.nodup_cons.mp nd).2 (by simpa using h1) (by simpa using h2) hk
def start (N : List Str) (vs : List V) : St := vs.map some ++ List.replicate (N.length - vs.length) none
def cxOf (CX : CXT) (P : Program) (w : World) (K : PySem.W.Frag) (mg : Str → Option Value) (base : Heap) (N : List Str) (qual : Str) (scope : Scope) (f : Addr) (cd : Value) (A : Around) (outer : List Env) (s : Shared) (H : Hp) (E : XK) : Cx where
  prog := P
  w := w
  K := K
  mg := mg
  base := base
  A := A.deeper (envOfC qual scope s.heap.objs.size f cd)
  N := N
  s₀ := s
  H₀ := H
  env := envOfC qual scope s.heap.objs.size f cd
  outer := outer
  stack := envOfC qual scope s.heap.objs.size f cd :: outer
  ex := []
  calm := true
  fn := fun _ => true
  pn := []
  xe := fun e s' => wpAny (model P w) (A.deeper (envOfC qual scope s.heap.objs.size f cd)) (leaving (envOfC qual scope s.heap.objs.size f cd) e) (fun _ s'' => CX outer H s E e s'') (fun e' s'' => CX outer H s E e' s'') s'
theorem cell_has {sc : Scope} {n : Nat} {x : Str} (h : sc.names.lookup x = some .cell) : ∃ c, (cellsFrom n sc.names []).lookup x = some c := by
  have q := PySem.W.cellsFrom_some sc.names n [] (.inl h)
  exact Option.isSome_iff_exists.mp q
theorem inv_start {CX : CXT} {P : Program} {w : World} {K : PySem.W.Frag} {mg : Str → Option Value} {base : Heap} {N ps : List Str} {qual : Str} {scope : Scope} {f : Addr} {cd : Value} {A : Around} {outer : List Env} {s s1 : Shared} {H : Hp} {E : XK} {us : List Value} {vs : List V}
    (S : FnScope N ps scope) (hd : A.handled = none) (e0 : Env0 P w K mg base A outer s H) (hl : vs.length = ps.length) (r : Vals vs us)
    (x : InCallC s s.heap.objs.size (bindL (envOfC qual scope s.heap.objs.size f cd).kindOf (ps.zip us) fun _ => none) (cellsFrom (s.heap.objs.size + 1) scope.names []) (bindC (envOfC qual scope s.heap.objs.size f cd).kindOf (ps.zip us) fun _ => none) s1) :
    Inv (cxOf CX P w K mg base N qual scope f cd A outer s H E) [] (start N vs) H s1 := by
  have hpl : ps.length ≤ N.length := by have := congrArg List.length S.pre; rw [List.length_take] at this; omega
  obtain ⟨h1, tk, rfl, hk⟩ := x.done
  have noA : ∀ b : Addr, b ∉ (cxOf CX P w K mg base N qual scope f cd A outer s H E).ex := fun b z => absurd (show b ∈ ([] : List Addr) from z) (by simp)
  refine ⟨⟨e0.mod, S.kind, rfl, rfl, Nat.le_refl _, fun y z c h1 h2 => ?_, fun y hy => ?_, fun y c _ h => ?_, fun _ => hd, Around.frames_deeper e0.frames, .inr ⟨rfl, rfl⟩, fun b z => absurd z (noA b), e0.bs, e0.bsz, fun b _ _ => noA b, fun b z => absurd z (noA b), e0.funs, e0.frf⟩,
    rfl, e0.bare, Un.kept hk, ⟨_, x.toInCall.ns, fun i y v h1 h2 h3 => ?_⟩, fun y c h => ⟨_, x.cell y c h⟩, e0.hok.fresh (Nat.le_refl _), fun y c h => ?_, fun p hp => absurd (show p ∈ ([] : List (Addr × Obj)) from hp) (by simp), e0.hok.kept hk, ?_⟩
  · exact name_of_addr x.apart (PySem.mem_of_lookup h1) (PySem.mem_of_lookup h2)
  · have hy : scope.names.lookup y = some .cell ∨ scope.names.lookup y = some .free := hy
    rcases hy with hy | hy
    · exact cell_has hy
    · exact absurd rfl (S.nofree _ (PySem.mem_of_lookup hy))
  · exact Nat.le_of_lt (x.above y c (PySem.mem_of_lookup h))
  · have hi : i < vs.length := by
      unfold start at h2
      by_cases hi : i < vs.length
      · exact hi
      · rw [List.getElem?_append_right (by simpa using hi)] at h2
        rw [List.getElem?_replicate] at h2
        split at h2 <;> cases h2
    have ha : vs[i]? = some v := by
      unfold start at h2
      rw [List.getElem?_append_left (by simpa using hi), List.getElem?_map] at h2
      cases e : vs[i]? with
      | none => rw [e] at h2; cases h2
      | some a => rw [e] at h2; cases h2; rfl
    obtain ⟨u, hu, rv⟩ := r.get ha
    have hp : ps[i]? = some y := by
      rw [← S.pre, List.getElem?_take_of_lt (by omega)]; exact h1
    have ndP : ps.Nodup := by rw [← S.pre]; exact S.nd.sublist (List.take_sublist _ _)
    refine ⟨u, rv, ?_⟩
    rcases S.par y (List.mem_of_getElem? hp) with k | k
    · exact .inl ⟨k, bindL_get ndP hp hu k⟩
    · obtain ⟨c, e⟩ := cell_has (n := s.heap.objs.size + 1) k
      refine .inr ⟨.inl k, c, e, ?_⟩
      have q := x.cell y c e
      rw [bindC_get ndP hp hu (by show scope.names.lookup y ≠ _; rw [k]; decide)] at q
      exact q
  · exact e0.hok.fresh (Nat.le_of_lt (x.above y c (PySem.mem_of_lookup h)))
  · unfold start
    show _ = N.length
    rw [List.length_append, List.length_map, List.length_replicate]
    omega
theorem fn_of {CX : CXT} {P : Program} {w : World} {K : PySem.W.Frag} {mg : Str → Option Value} {base : Heap} {k : Nat} {f : Addr} {name qual : Str} {params : Arguments} {body : List Stmt} {scope : Scope} {dV kV doc pm cdv ct oc : Value} {an od : Option Addr}
    {osl : Array (Option Value)} {N ps : List Str} {sp : Sp} (lk : K.lookup f = some ⟨oc, od, .func (PySem.W.fnOf name qual params body scope dV kV doc pm an cdv ct), osl⟩) (hcd : PySem.W.codeIn K cdv qual = true) (S : FnScope N ps scope)
    (len : ∀ vs H Q E, sp vs H Q E → vs.length = ps.length)
    (hbody : ∀ (A : Around) (outer : List Env) (s : Shared) (H : Hp) (vs : List V) (Q : VK) (E : XK), Room k (A.deeper (envOfC qual scope s.heap.objs.size f cdv)) → sp vs H Q E →
      ∃ t, PSs (cxOf CX P w K mg base N qual scope f cdv A outer s H E) body t ∧ t { nx := fun _ H' => Q .non H', rt := Q } (start N vs) H) :
    FnOk P w K mg base CX (k + 1) f (PySem.W.fnOf name qual params body scope dV kV doc pm an cdv ct) ps sp := by
  refine ⟨len, fun A outer s H args us vs Q E hr e0 hb r hsp => ?_⟩
  have hl := len _ _ _ _ hsp
  have KX : K.In s.heap := e0.mod.kin.keeps fun b o e => (e0.bs b o e).1
  have lim : s.heap.NoLimit := e0.mod.nolimit.keeps fun b o e => (e0.bs b o e).1
  have hkind : ∀ y ∈ ps.zip us, scope.names.lookup y.1 = some .local ∨ (scope.names.lookup y.1 = some .cell ∧ ((cellsFrom (s.heap.objs.size + 1) scope.names []).lookup y.1).isSome = true) := fun ⟨n, v⟩ hy => by
    rcases S.par n (List.of_mem_zip hy).1 with q | q
    · exact .inl q
    · exact .inr ⟨q, PySem.W.cellsFrom_some _ _ _ (.inl q)⟩
  refine codeAny_call_function hr.depth (KX _ _ lk) rfl S.co S.gen rfl (PySem.W.codeRec_of KX hcd) (hb _ _ _ _ ?_)
  refine wpAny_newFunctionEnv_cells S.kind hkind fun env he s1 x => ?_
  subst he
  refine ⟨lim.keeps x.toInCall.keep, codeAny_func ?_⟩
  obtain ⟨t, ht, hq⟩ := hbody A outer s H vs Q E (hr.deeper _) hsp
  have I : Inv (cxOf CX P w K mg base N qual scope f cdv A outer s H E) [] (start N vs) H s1 := inv_start S hr.hd e0 hl r x
  refine wpAny_mono (ht [] s1 (start N vs) H _ I hq) (fun fl s' hs => ?_) fun e s' hs => hs
  have fin : ∀ {σ' : St} {H' : Hp} {v : V} {u : Value}, Inv (cxOf CX P w K mg base N qual scope f cdv A outer s H E) [] σ' H' s' → RelV v u → Q v H' → CE outer P w H s Q u s' :=
    fun {σ' H' v u} J rv q => ⟨v, H', J.os, J.bare, J.base, J.hok, rv, q⟩
  cases fl with
  | ret u =>
    obtain ⟨v, σ', H', J, rv, q⟩ := hs
    exact fin J rv q
  | next =>
    obtain ⟨σ', H', J, q⟩ := hs
    exact fin (v := V.non) (u := Value.none) J rfl q
  | brk =>
    obtain ⟨_, _, _, q⟩ := hs
    exact False.elim q
  | cont =>
    obtain ⟨_, _, _, q⟩ := hs
    exact False.elim q
end L2
namespace L2
open PySem PySem.Spec PyProof.Rows
section
variable {X : Cx} {x : Str} {p pos : Pos} {e : Expr} {es : List Expr} {t : TA} {id T : String} {r : List V → Hp → VK → Prop}
def tCB (r : List V → Hp → VK → Prop) (t : TA) : TE := fun σ H Q => t σ H fun vs H1 => r vs H1 Q
theorem pe_callB (hc : CallR X (.builtin id) r) (hg : Gl X x) (hm : X.mg x = none) (hv : bootBuiltins x = some (.builtin id)) (ha : PA X (e :: es) t) (hn : x ≠ "__name__" := by decide) (hdb : (x == ("__debug__" : Str)) = false := by decide)
    (he : starEach (e :: es) X.env = (false, eval e X.env) :: starEach es X.env := by rfl) (hpl : (backTo pos (starEach es X.env)).any (·.1) = false := by rfl) : PE X (.Call (.Name x p) (e :: es) [] pos) (tCB r t) := by
  intro pins s σ H Q I h
  refine wpAny_Call_Name_kw (ld_blt I hg hm hv ?_ hn hdb)
  exact PyProof.Rows.callWith_builtin1 (thn (ha pos pins s σ H _ I h) fun us s1 ⟨vs, H1, I1, r1, q1⟩ => hc pins s1 σ H1 vs us Q I1 r1 q1) he hpl
theorem pe_callTy (hc : CallR X (.type T) r) (hg : Gl X x) (hm : X.mg x = none) (hv : bootBuiltins x = some (.type T)) (ha : PA X (e :: es) t) (hn : x ≠ "__name__" := by decide) (hdb : (x == ("__debug__" : Str)) = false := by decide)
    (he : starEach (e :: es) X.env = (false, eval e X.env) :: starEach es X.env := by rfl) (hpl : (backTo pos (starEach es X.env)).any (·.1) = false := by rfl) : PE X (.Call (.Name x p) (e :: es) [] pos) (tCB r t) := by
  intro pins s σ H Q I h
  refine wpAny_Call_Name_kw (ld_blt I hg hm hv ?_ hn hdb)
  exact PyProof.Rows.callWith_type1 (thn (ha pos pins s σ H _ I h) fun us s1 ⟨vs, H1, I1, r1, q1⟩ => hc pins s1 σ H1 vs us Q I1 r1 q1) he hpl
theorem pe_callTy0 (hc : CallR X (.type T) r) (hg : Gl X x) (hm : X.mg x = none) (hv : bootBuiltins x = some (.type T)) (hn : x ≠ "__name__" := by decide) (hdb : (x == ("__debug__" : Str)) = false := by decide) :
    PE X (.Call (.Name x p) [] [] pos) (tCB r tNil) := by
  intro pins s σ H Q I h
  refine wpAny_Call_Name_kw (ld_blt I hg hm hv ?_ hn hdb)
  exact PyProof.Rows.callWith_type0 (hc pins s σ H [] [] Q I .nil h)
end
end L2
namespace HT
open PySem PyProof.Rows
def lexLt : List Int → List Int → Bool
  | [], [] => false
  | [], _ :: _ => true
  | _ :: _, [] => false
  | x :: xs, y :: ys => if x = y then lexLt xs ys else decide (x < y)
theorem lexLt_cons (x y : Int) (xs ys : List Int) : lexLt (x :: xs) (y :: ys) = if x = y then lexLt xs ys else decide (x < y) := rfl
theorem lexLt_nil_nil : lexLt [] [] = false := rfl
theorem lexLt_nil_cons (y : Int) (ys : List Int) : lexLt [] (y :: ys) = true := rfl
theorem lexLt_cons_nil (x : Int) (xs : List Int) : lexLt (x :: xs) [] = false := rfl
theorem eqAt_int (A : Around) (s : Shared) (a : Int) (t : Tok) (c : Int) (u : Tok) : ∃ e, SeqAt.EqAt A s (.int a t) (.int c u) e ∧ (e = true ↔ a = c) :=
  ⟨(a == c), SeqAt.EqAt.int_int a t c u, by simp⟩
theorem rcLt_int (A : Around) (s : Shared) (a : Int) (t : Tok) (c : Int) (u : Tok) (prog : Program) (w : World) (E : Value → Shared → Prop) (Q : Value → Shared → Prop) (h : Q (.bool (decide (a < c))) s) :
    wpAny (model prog w) A (richCompare .Lt (.int a t) (.int c u)) Q E s :=
  (PyProof.Rows.lt_int h : wpAny (model prog w) A (compareOp .Lt (.int a t) (.int c u)) Q E s)
section
open PySem.SeqAt
open PySem.AutoSeq1 (wpAny_loadPart')
open PySem.MeetsSeq PySem.MeetsSeq2 PySem.MeetsSeq3
theorem tuple_lt_ints (l b : Addr) (items items2 : Array Value) (n n2 : Nat) (dd dd2 : Option Addr) (sl sl2 : Array (Option Value)) (ns ms : List Int) (hi : IntsAre items.toList ns) (hj : IntsAre items2.toList ms) :
    Meets (Builtin.«tuple.__lt__» ⟨[.ref l, .ref b], []⟩)
      (fun _ R s => s.heap.get? l = some { cls := .type "tuple", dict := dd, data := .seq items n, slots := sl } ∧ s.heap.get? b = some { cls := .type "tuple", dict := dd2, data := .seq items2 n2, slots := sl2 } ∧
        R (.ok (.ret (.bool (lexLt ns ms)))) s) :=
  .of_wp fun prog w A R s h => by
    obtain ⟨hp, g, d, tk, os⟩ := s; obtain ⟨hl, hb, h⟩ := h
    have f2 := AutoSeq1.sub_tuple_tuple
    have z1 : items.size = ns.length := by rw [← hi.length]; simp
    have z2 : items2.size = ms.length := by rw [← hj.length]; simp
    wp_walk using wpAny_loadPart' hl, wpAny_loadPart' hb, wpAny_forIn_list _ (fun rest b s' => b.1 = none ∧ s' = ⟨hp, g, d, tk, os⟩ ∧ ∃ (vs ws : List Value) (ns' ms' : List Int), rest = vs.zip ws ∧
      IntsAre vs ns' ∧ IntsAre ws ms' ∧ ns'.length + items2.size = ms'.length + items.size ∧ R (.ok (.ret (.bool (lexLt ns' ms')))) ⟨hp, g, d, tk, os⟩) _
    case turn =>
      rintro ⟨y, x⟩ rest b s' ⟨hb', rfl, vs, ws, ns', ms', hz, hvi, hwi, hlen, hR⟩
      cases hvi with
      | nil => rw [List.zip_nil_left] at hz; cases hz
      | cons a t hvi' =>
        cases hwi with
        | nil => rw [List.zip_nil_right] at hz; cases hz
        | cons c u hwi' =>
          rw [List.zip_cons_cons] at hz
          injection hz with hyx hrest
          injection hyx with hy hx
          subst hy hx
          rw [lexLt_cons] at hR
          simp only [List.length_cons] at hlen
          obtain ⟨e, he, hiff⟩ := eqAt_int A.in1 ⟨hp, g, d, tk, os⟩ a t c u
          refine wpAny_bind (he prog w _ _ ?_)
          cases e with
          | true =>
            rw [if_pos (hiff.mp rfl)] at hR
            wp_walk
            exact ⟨rfl, rfl, _, _, _, _, hrest, hvi', hwi', by omega, hR⟩
          | false =>
            rw [if_neg (fun q => absurd (hiff.mpr q) Bool.false_ne_true)] at hR
            have hri := rcLt_int A.in1 ⟨hp, g, d, tk, os⟩ a t c u prog w
            wp_walk using hri
            exact ⟨_, rfl, by simpa using hR⟩
    case fin =>
      rintro ⟨b1, b2⟩ s' ⟨hb', rfl, vs, ws, ns', ms', hz, hvi, hwi, hlen, hR⟩
      simp only at hb'
      subst hb'
      have hv : lexLt ns' ms' = decide (items.size < items2.size) := by
        cases hvi with
        | nil =>
          cases hwi with
          | nil =>
            simp only [List.length_nil] at hlen
            rw [lexLt_nil_nil]
            exact (decide_eq_false (by omega)).symm
          | cons c u hw =>
            simp only [List.length_nil, List.length_cons] at hlen
            rw [lexLt_nil_cons]
            exact (decide_eq_true (by omega)).symm
        | cons a t hv =>
          cases hwi with
          | nil =>
            simp only [List.length_nil, List.length_cons] at hlen
            rw [lexLt_cons_nil]
            exact (decide_eq_false (by omega)).symm
          | cons c u hw =>
            rw [List.zip_cons_cons] at hz
            cases hz
      rw [hv] at hR
      wp_walk
      exact ⟨_, rfl, by simpa [Builtin.Tuple.tupleCompareSizes] using hR⟩
    case h =>
      exact ⟨rfl, rfl, items.toList, items2.toList, ns, ms, rfl, hi, hj, by omega, h⟩
end
section
variable {prog : Program} {w : World} {A : Around} {E : Value → Shared → Prop} {s : Shared}
theorem lt_tupInts {l b : Addr} {items items2 : Array Value} {ns ms : List Int} {Q : Value → Shared → Prop} (hl : IsTup s.heap l items) (hb : IsTup s.heap b items2) (hi : IntsAre items.toList ns) (hj : IntsAre items2.toList ms)
    (hu : A.units < cLine) (h : Q (.bool (lexLt ns ms)) s) : wpAny (model prog w) A (compareOp .Lt (.ref l) (.ref b)) Q E s := by
  obtain ⟨⟨cls, dd, data, sl⟩, ho, hc, n, hd⟩ := id hl
  obtain ⟨⟨cls2, dd2, data2, sl2⟩, ho2, hc2, n2, hd2⟩ := id hb
  simp only at hc hd hc2 hd2
  subst hc hd hc2 hd2
  exact richCompare_meets_room (op := .Lt) ⟨_, ho, rfl⟩ ⟨_, ho2, rfl⟩ PySem.F.slot_tuple_lt PySem.F.entry_tuple_lt (PySem.F.args_tuple_lt_2 _ _) (tuple_lt_ints l b items items2 n n2 dd dd2 sl sl2 ns ms hi hj)
    ⟨ho, ho2, show Value.bool (lexLt ns ms) ≠ Value.notImplemented ∧ Q (.bool (lexLt ns ms)) s from ⟨(fun x => nomatch x), h⟩⟩ hu
theorem cat_tup {t b : Addr} {vs ws : List Value} {Q : Value → Shared → Prop} (ht : IsTup s.heap t vs.toArray) (hb : IsTup s.heap b ws.toArray) (hv : vs ≠ [])
    (h1 : ws = [] → Q (.ref t) s) (h2 : ws ≠ [] → Q (.ref s.heap.objs.size) { s with heap := s.heap.push { cls := .type "tuple", data := .seq (vs ++ ws).toArray } })
    (hsz : vs.length + ws.length ≤ sizeLine) : wpAny (model prog w) A (binaryOp .Add (.ref t) (.ref b)) Q E s := by
  obtain ⟨⟨cls, dd, data, sl⟩, ho, hc, n, hd⟩ := id ht
  obtain ⟨⟨cls2, dd2, data2, sl2⟩, ho2, hc2, n2, hd2⟩ := id hb
  simp only at hc hd hc2 hd2
  subst hc hd hc2 hd2
  have e : vs.toArray ++ ws.toArray = (vs ++ ws).toArray := by simp
  by_cases hw : ws = []
  · exact concat_meets ⟨_, ho, rfl⟩ ⟨_, ho2, rfl⟩ noFill_tuple_add seq_tuple_add PySem.F.slot_tuple_add PySem.F.entry_tuple_add (PySem.F.args_tuple_add_2 _ _)
      (tuple_addW1 t b vs.toArray ws.toArray n n2 dd dd2 sl sl2 (by simpa using hv) (by simp [hw])) ⟨ho, ho2, h1 hw⟩
  · refine concat_meets ⟨_, ho, rfl⟩ ⟨_, ho2, rfl⟩ noFill_tuple_add seq_tuple_add PySem.F.slot_tuple_add PySem.F.entry_tuple_add (PySem.F.args_tuple_add_2 _ _)
      (tuple_addW2 t b vs.toArray ws.toArray n n2 dd dd2 sl sl2 (by simpa using hv) (by simpa using hw) (by rw [List.size_toArray, List.size_toArray]; exact hsz)) ⟨ho, ho2, ?_⟩
    rw [e]
    exact h2 hw
def sIx (n d : Nat) : Option Int → Nat
  | none => d
  | some v => if v < 0 then (v + (n : Int)).toNat else min v.toNat n
theorem sIx_none (n d : Nat) : sIx n d none = d := rfl
theorem sIx_nat (n d k : Nat) : sIx n d (some (k : Int)) = min k n := by
  show (if (k : Int) < 0 then ((k : Int) + (n : Int)).toNat else min (k : Int).toNat n) = min k n
  rw [if_neg (by omega), Int.toNat_natCast]
theorem sIx_le (n d : Nat) (hd : d ≤ n) (o : Option Int) : sIx n d o ≤ n := by
  cases o with
  | none => exact hd
  | some v =>
    show (if v < 0 then (v + (n : Int)).toNat else min v.toNat n) ≤ n
    by_cases hv : v < 0
    · rw [if_pos hv]; omega
    · rw [if_neg hv]; exact Nat.min_le_right _ _
theorem clip_eq (v : Int) (n d : Nat) : (if v < 0 then max (v + (n : Int)) 0 else min v (n : Int)) = ((sIx n d (some v) : Nat) : Int) := by
  show (if v < 0 then max (v + (n : Int)) 0 else min v (n : Int)) = (((if v < 0 then (v + (n : Int)).toNat else min v.toNat n) : Nat) : Int)
  by_cases hv : v < 0
  · simp only [if_pos hv]; omega
  · simp only [if_neg hv]; omega
theorem adjust_gen (lo hi : Option Int) (n : Nat) : Builtin.Slice.sliceAdjust lo hi 1 (n : Int) = (((sIx n 0 lo : Nat) : Int), ((sIx n n hi : Nat) : Int)) := by
  have h1 : ¬ ((1 : Int) < 0) := by omega
  unfold Builtin.Slice.sliceAdjust
  simp only [h1, if_false]
  refine Prod.ext ?_ ?_
  · cases lo with
    | none => rfl
    | some v => exact clip_eq v n 0
  · cases hi with
    | none => rfl
    | some v => exact clip_eq v n n
theorem places_gen (i j : Nat) : Builtin.Slice.slicePlaces (i : Int) (j : Int) 1 = j - i := by
  unfold Builtin.Slice.slicePlaces
  have h1 : (1 : Int) > 0 := by omega
  simp only [h1, if_true, Int.ediv_one]
  split <;> omega
theorem slicePart_ {v : Value} {o : Option Int} {Q : Option Int → Shared → Prop} (p : IsPart v o) (h : Q o s) : wpAny (model prog w) A (Builtin.Slice.slicePartIndex v) Q E s := by
  cases p with
  | none => exact slicePart_none h
  | int i t => exact slicePart_int h
theorem sliceApplied_gen {sl : Addr} {vl vu : Value} {lo hi : Option Int} {n : Nat} {Q : Int × Int × Nat → Shared → Prop} (hs : s.heap.IsSliceOf sl vl vu .none) (pl : IsPart vl lo) (pu : IsPart vu hi)
    (h : Q (((sIx n 0 lo : Nat) : Int), 1, sIx n n hi - sIx n 0 lo) s) : wpAny (model prog w) A (Builtin.Slice.sliceApplied (.ref sl) (pure (n : Int))) Q E s := by
  obtain ⟨os, hos, hcs, hds⟩ := id hs
  unfold Builtin.Slice.sliceApplied Builtin.Slice.sliceFields
  refine wpAny_bind (wpAny_bind (wpAny_field hos hds (x := vl) rfl (wpAny_bind (wpAny_field hos hds (x := vu) rfl (wpAny_bind (wpAny_field hos hds (x := .none) rfl (wpAny_pure ?_)))))))
  refine wpAny_bind (slicePart_none ?_)
  show wpAny _ _ (if ((1 : Int) == 0) = true then _ else _) _ _ s
  rw [if_neg (by decide)]
  refine wpAny_bind (slicePart_ pl (wpAny_bind (slicePart_ pu (wpAny_bind (wpAny_pure ?_)))))
  show wpAny _ _ (match Builtin.Slice.sliceAdjust lo hi 1 (n : Int) with | (lo, hi) => pure (lo, (1 : Int), Builtin.Slice.slicePlaces lo hi 1)) _ _ s
  rw [adjust_gen lo hi n]
  show wpAny _ _ (pure (((sIx n 0 lo : Nat) : Int), (1 : Int), Builtin.Slice.slicePlaces ((sIx n 0 lo : Nat) : Int) ((sIx n n hi : Nat) : Int) 1)) _ _ s
  rw [places_gen]
  exact wpAny_pure h
theorem pick_gen (xs : Array Value) (i k : Nat) : ((List.range k).filterMap fun (m : Nat) => xs[((i : Int) + (m : Int) * 1).toNat]?).toArray = ((xs.toList.drop i).take k).toArray := by
  have e : (fun (m : Nat) => xs[((i : Int) + (m : Int) * 1).toNat]?) = fun m => xs[i + m]? := by
    funext m
    have : ((i : Int) + (m : Int) * 1).toNat = i + m := by omega
    rw [this]
  rw [e]
  have := pick_run xs i k
  rw [List.filterMap_map] at this
  have e2 : ((fun x => xs[x]?) ∘ fun x => i + x) = fun m => xs[i + m]? := rfl
  rw [e2] at this
  rw [this]
theorem getItem_tuple_cut {t sl : Addr} {items : Array Value} {vl vu : Value} {lo hi : Option Int} {Q : Value → Shared → Prop} (ht : IsTup s.heap t items) (hs : s.heap.IsSliceOf sl vl vu .none) (pl : IsPart vl lo) (pu : IsPart vu hi)
    (hw : ¬ (sIx items.size 0 lo = 0 ∧ sIx items.size items.size hi = items.size))
    (h : Q (.ref s.heap.objs.size) { s with heap := s.heap.push { cls := .type "tuple", data := .seq ((items.toList.drop (sIx items.size 0 lo)).take (sIx items.size items.size hi - sIx items.size 0 lo)).toArray } })
    (hsz : items.size ≤ sizeLine) : wpAny (model prog w) A (getItem (.ref t) (.ref sl)) Q E s := by
  have htake : sizeOk (.seq ((items.toList.drop (sIx items.size 0 lo)).take (sIx items.size items.size hi - sIx items.size 0 lo)).toArray) := by
    show ((items.toList.drop (sIx items.size 0 lo)).take (sIx items.size items.size hi - sIx items.size 0 lo)).toArray.size ≤ sizeLine
    rw [List.size_toArray, List.length_take, List.length_drop, Array.length_toList]
    omega
  have hj : sIx items.size items.size hi ≤ items.size := sIx_le _ _ (Nat.le_refl _) hi
  obtain ⟨os, hos, hcs, hds⟩ := id hs
  have hTs : s.TypeIs (.ref sl) "slice" := ⟨os, hos, hcs⟩
  unfold getItem
  try with_reducible refine wpAny_holding ?_
  first | refine wpAny_bind (wpAny_pure ?_) | skip
  refine wpAny_bind (wpAny_sequenceKey ht.typeIs (by decide) ?_)
  refine wpAny_bind (wpAny_callSpecial?_slot (name := Str.ofString "__getitem__") ht.typeIs PyProof.Rows.slot_tuple_getitem
    (wpAny_call_entry PyProof.Rows.slot_tuple_getitem ht.typeIs entry_tuple_getitem ?_ (args_tuple_getitem _ _)))
  show wpAny _ _ (Builtin.Tuple.tupleItemsOf (.ref t) >>= _) _ _ s
  refine wpAny_bind (tupleItemsOf_ ht ?_)
  refine wpAny_bind (wpAny_typeOf hTs ?_)
  rw [if_pos (by decide)]
  refine wpAny_bind (sliceApplied_gen hs pl pu ?_)
  have hno : ¬ ((((sIx items.size 0 lo : Nat) : Int) == 0 && (1 : Int) == 1 && (sIx items.size items.size hi - sIx items.size 0 lo) == items.size) = true) := by
    intro q
    rw [Bool.and_eq_true, Bool.and_eq_true] at q
    have q1 : ((sIx items.size 0 lo : Nat) : Int) = 0 := eq_of_beq q.1.1
    have q2 : sIx items.size items.size hi - sIx items.size 0 lo = items.size := eq_of_beq q.2
    exact hw ⟨by omega, by omega⟩
  show wpAny _ _ (if (((sIx items.size 0 lo : Nat) : Int) == 0 && (1 : Int) == 1 && (sIx items.size items.size hi - sIx items.size 0 lo) == items.size) = true then _ else _) _ _ s
  rw [if_neg hno, pick_gen]
  first
    | exact wpAny_bind (m := Builtin.Tuple.tupleExact _) (wpAny_newObj_type (wpAny_pure ⟨_, rfl, wpAny_pure h⟩) htake)
    | exact wpAny_bind (m := Builtin.Tuple.tupleExact _) (wpAny_newObj_type (wpAny_bind (wpAny_pure (wpAny_pure ⟨_, rfl, wpAny_pure h⟩))) htake)
    | exact wpAny_bind (wpAny_bind (m := Builtin.Tuple.tupleExact _) (wpAny_newObj_type (wpAny_pure (wpAny_pure ⟨_, rfl, wpAny_pure h⟩)) htake))
    | exact wpAny_bind (wpAny_bind (m := Builtin.Tuple.tupleExact _) (wpAny_newObj_type (wpAny_pure ⟨_, rfl, wpAny_pure h⟩) htake))
end
end HT
namespace L2
open PySem PySem.Spec PyProof.Rows
abbrev TO := St → Hp → (Option Int → Hp → Prop) → Prop
def PO (X : Cx) (e : Option Expr) (t : TO) : Prop :=
  ∀ (pins : List (Addr × Obj)) (s : Shared) (σ : St) (H : Hp) (Q : Option Int → Hp → Prop), Inv X pins σ H s → t σ H Q →
    wpAny (model X.prog X.w) X.A (evalPart e X.env) (fun u s' => ∃ o H', Inv X pins σ H' s' ∧ IsPart u o ∧ Q o H') X.xe s
def tNoPart : TO := fun _ H Q => Q none H
def tPart (t : TE) : TO := fun σ H Q => t σ H fun x H1 => ∃ i, x = .int i ∧ Q (some i) H1
theorem intsAre_of {ns : List Int} : ∀ {us : List Value}, Vals (ns.map V.int) us → IntsAre us ns := by
  induction ns with
  | nil => intro us r; rw [List.map_nil] at r; cases r; exact .nil
  | cons n ns ih =>
    intro us r
    rw [List.map_cons] at r
    cases r with
    | cons r1 r2 =>
      obtain ⟨t, e⟩ := r1
      subst e
      exact .cons n t (ih r2)
section
variable {X : Cx} {e : Expr} {te : TE} {lo hi : Option Expr} {tl th : TO} {pos p2 : Pos}
theorem po_none : PO X none tNoPart := by
  intro pins s σ H Q I h
  rw [evalPart_none]
  exact wpAny_pure ⟨none, H, I, .none, h⟩
theorem po_some (h : PE X e te) : PO X (some e) (tPart te) := by
  intro pins s σ H Q I hw
  rw [evalPart_some]
  refine thn (h pins s σ H _ I hw) fun u s1 ⟨x, H1, I1, r1, q1⟩ => ?_
  obtain ⟨i, rfl, q⟩ := q1
  obtain ⟨t, rfl⟩ := r1
  exact ⟨some i, H1, I1, .int i t, q⟩
def SlR (X : Cx) (r : V → Option Int → Option Int → Hp → VK → Prop) : Prop :=
  ∀ (pins : List (Addr × Obj)) (s : Shared) (σ : St) (H : Hp) (x : V) (v vl vu : Value) (lo hi : Option Int) (sl : Addr) (Q : VK), Inv X pins σ H s → RelV x v → s.heap.IsSliceOf sl vl vu .none → IsPart vl lo → IsPart vu hi → r x lo hi H Q →
    ∃ T id, typeLookup (.type T) "__getitem__" = pure (some (.builtin id)) ∧ s.TypeIs v T ∧ wpAny (model X.prog X.w) X.A (getItem v (.ref sl)) (EP X pins σ Q) X.xe s
theorem SlR.or {r r' : V → Option Int → Option Int → Hp → VK → Prop} (h : SlR X r) (h' : SlR X r') : SlR X (fun x lo hi H Q => r x lo hi H Q ∨ r' x lo hi H Q) := by
  intro pins s σ H x v vl vu lo hi sl Q I rx hs pl pu q
  rcases q with q | q
  · exact h pins s σ H x v vl vu lo hi sl Q I rx hs pl pu q
  · exact h' pins s σ H x v vl vu lo hi sl Q I rx hs pl pu q
def tSl (r : V → Option Int → Option Int → Hp → VK → Prop) (te : TE) (tl th : TO) : TE := fun σ H Q => te σ H fun x H1 => tl σ H1 fun l H2 => th σ H2 fun u H3 => r x l u H3 Q
theorem pe_slice {r : V → Option Int → Option Int → Hp → VK → Prop} (hr : SlR X r) (he : PE X e te) (hl : PO X lo tl) (hu : PO X hi th) : PE X (.Subscript e (.Slice lo hi none p2) pos) (tSl r te tl th) := by
  intro pins s σ H Q I h
  refine Subscript_ (thn (he pins s σ H _ I h) fun v s1 ⟨x, H1, I1, r1, q1⟩ => ?_)
  refine wpAny_Slice (thn (hl pins s1 σ H1 _ I1 q1) fun vl s2 ⟨l, H2, I2, pl, q2⟩ => thn (hu pins s2 σ H2 _ I2 q2) fun vu s3 ⟨u, H3, I3, pu, q3⟩ => ?_)
  rw [evalPart_none]
  refine wpAny_pure ?_
  have I4 : Inv X pins σ H3 { s3 with heap := s3.heap.push { cls := .type "slice", data := .fields #[vl, vu, .none] } } := I3.kept (t' := s3.toks) fun b ob q => Heap.get?_push_of_some _ q
  obtain ⟨T, id, hT, ht, hg⟩ := hr pins { s3 with heap := s3.heap.push { cls := .type "slice", data := .fields #[vl, vu, .none] } } σ H3 x v vl vu l u s3.heap.objs.size Q I4 r1 (Heap.IsSliceOf.new ..) pl pu q3
  show wpAny (model X.prog X.w) X.A (subscriptTail e (.Slice lo hi none p2) v (.ref s3.heap.objs.size)) (EP X pins σ Q) X.xe { s3 with heap := s3.heap.push { cls := .type "slice", data := .fields #[vl, vu, .none] } }
  exact tail_any (ops := [.ref s3.heap.objs.size, v]) ht hT hg (by with_unfolding_all rfl)
def cutV (xs : List V) (lo hi : Option Int) : List V := (xs.drop (HT.sIx xs.length 0 lo)).take (HT.sIx xs.length xs.length hi - HT.sIx xs.length 0 lo)
theorem cutV_length (xs : List V) (lo hi : Option Int) : (cutV xs lo hi).length ≤ xs.length := by
  unfold cutV
  rw [List.length_take, List.length_drop]
  omega
def rSlT (K : PySem.W.Frag) : V → Option Int → Option Int → Hp → VK → Prop := fun x lo hi H Q => ∃ a xs, x = .ref a ∧ SqT K H a xs ∧
  ¬ (HT.sIx xs.length 0 lo = 0 ∧ HT.sIx xs.length xs.length hi = xs.length) ∧ ∀ p, H p = none → Q (.ref p) (upd H p (.tup (cutV xs lo hi)))
theorem sl_tup : SlR X (rSlT X.K) := by
  intro pins s σ H x v vl vu lo hi sl Q I rx hs pl pu h
  obtain ⟨a, xs, rfl, hx, hw, q⟩ := h
  cases rx
  obtain ⟨its, r, ht, hz⟩ := I.tuple hx
  have hlen : its.toArray.size = xs.length := by rw [List.size_toArray]; exact r.length.symm
  refine ⟨"tuple", _, PyProof.Rows.slot_tuple_getitem.lookup, ht.typeIs, ?_⟩
  refine HT.getItem_tuple_cut ht hs pl pu (by rw [hlen]; exact hw) ?_ (by rw [hlen]; exact hz)
  rw [hlen]
  refine ⟨.ref s.heap.objs.size, _, I.laid (t' := s.toks) (o := .tup (cutV xs lo hi)) (fun b ob q => Heap.get?_push_of_some _ q) (Nat.le_refl _) ?_, rfl, q _ (I.hok.fresh (Nat.le_refl _))⟩
  exact ⟨Nat.le_trans (cutV_length xs lo hi) hz, _, (r.drop (HT.sIx xs.length 0 lo)).take (HT.sIx xs.length xs.length hi - HT.sIx xs.length 0 lo), IsTup.new _ _⟩
def rLtT (K : PySem.W.Frag) : R2 := fun x y H Q => ∃ a b ns ms, x = .ref a ∧ y = .ref b ∧ SqT K H a (ns.map V.int) ∧ SqT K H b (ms.map V.int) ∧ Q (.bl (HT.lexLt ns ms)) H
theorem op_ltT (hu : X.A.units < cLine) : OpR X (compareOp .Lt) (rLtT X.K) := by
  intro pins s σ H x y v u Q I rx ry h
  obtain ⟨a, b, ns, ms, rfl, rfl, ha, hb, q⟩ := h
  cases rx
  cases ry
  obtain ⟨its, r1, p1, _⟩ := I.tuple ha
  obtain ⟨its2, r2, p2, _⟩ := I.tuple hb
  have i1 : IntsAre its.toArray.toList ns := intsAre_of r1
  have i2 : IntsAre its2.toArray.toList ms := intsAre_of r2
  exact HT.lt_tupInts p1 p2 i1 i2 hu ⟨.bl (HT.lexLt ns ms), H, I, rfl, q⟩
def rCatT (K : PySem.W.Frag) : R2 := fun x y H Q => ∃ a b xs ys, x = .ref a ∧ y = .ref b ∧ SqT K H a xs ∧ SqT K H b ys ∧ xs ≠ [] ∧ xs.length + ys.length ≤ sizeLine ∧
  (ys = [] → Q (.ref a) H) ∧ (ys ≠ [] → ∀ p, H p = none → Q (.ref p) (upd H p (.tup (xs ++ ys))))
theorem Vals.nil_iff {xs : List V} {us : List Value} (r : Vals xs us) : us = [] ↔ xs = [] := by
  cases r with
  | nil => simp
  | cons _ _ => simp
theorem op_catT : OpR X (binaryOp .Add) (rCatT X.K) := by
  intro pins s σ H x y v u Q I rx ry h
  obtain ⟨a, b, xs, ys, rfl, rfl, ha, hb, hx, hz, q1, q2⟩ := h
  cases rx
  cases ry
  obtain ⟨its, r1, p1, _⟩ := I.tuple ha
  obtain ⟨its2, r2, p2, _⟩ := I.tuple hb
  refine HT.cat_tup p1 p2 (fun z => hx (r1.nil_iff.mp z)) (fun z => ⟨.ref a, H, I, rfl, q1 (r2.nil_iff.mp z)⟩) (fun z => ?_) (by rw [← r1.length, ← r2.length]; exact hz)
  refine ⟨.ref s.heap.objs.size, _, I.laid (t' := s.toks) (o := .tup (xs ++ ys)) (fun b ob q => Heap.get?_push_of_some _ q) (Nat.le_refl _) ?_, rfl, q2 (fun w => z (r2.nil_iff.mpr w)) _ (I.hok.fresh (Nat.le_refl _))⟩
  exact ⟨by rw [List.length_append]; exact hz, _, r1.append r2, IsTup.new _ _⟩
theorem call_tupleT : CallR X (.type "tuple") (fun xs H Q => ∃ a ys, xs = [.ref a] ∧ SqT X.K H a ys ∧ Q (.ref a) H) := by
  intro pins s σ H xs us Q I r h
  obtain ⟨a, ys, rfl, ha, q⟩ := h
  obtain ⟨u, rfl, ru⟩ := vals1 r
  cases ru
  obtain ⟨its, _, p1, _⟩ := I.tuple ha
  exact call_tuple_same (items := its.toArray) p1 ⟨.ref a, H, I, rfl, q⟩
end
end L2
namespace L2
open PySem PySem.Spec PyProof.Rows
def ixN (n : Nat) (i : Int) : Option Nat := if 0 ≤ i then (if i < n then some i.toNat else none) else if -(n : Int) ≤ i then some (i + n).toNat else none
def atI {α : Type} (xs : List α) (i : Int) : Option α := (ixN xs.length i).bind fun j => xs[j]?
theorem ixN_seq {n : Nat} {i : Int} {j : Nat} (h : ixN n i = some j) : seqIndex? i n = some j ∧ j < n ∧ -(n : Int) ≤ i ∧ i < n := by
  unfold ixN at h
  by_cases h0 : 0 ≤ i
  · rw [if_pos h0] at h
    by_cases h1 : i < n
    · rw [if_pos h1] at h
      have e : i.toNat = j := Option.some.inj h
      exact ⟨by rw [seqIndex_of h0 h1, e], by omega, by omega, h1⟩
    · rw [if_neg h1] at h; cases h
  · rw [if_neg h0] at h
    by_cases h1 : -(n : Int) ≤ i
    · rw [if_pos h1] at h
      have e : (i + n).toNat = j := Option.some.inj h
      exact ⟨by rw [seqIndex_neg (by omega) h1, e], by omega, h1, by omega⟩
    · rw [if_neg h1] at h; cases h
theorem atI_get {α : Type} {xs : List α} {i : Int} {v : α} (h : atI xs i = some v) : ∃ j, seqIndex? i xs.length = some j ∧ xs[j]? = some v ∧ j < xs.length ∧ -(xs.length : Int) ≤ i ∧ i < xs.length := by
  unfold atI at h
  cases e : ixN xs.length i with
  | none => rw [e] at h; cases h
  | some j =>
    rw [e] at h
    obtain ⟨h1, h2, h3, h4⟩ := ixN_seq e
    exact ⟨j, h1, h, h2, h3, h4⟩
theorem atI_nat {α : Type} {xs : List α} {j : Nat} {v : α} (h : xs[j]? = some v) : atI xs (j : Int) = some v := by
  have hj : j < xs.length := (List.getElem?_eq_some_iff.mp h).1
  have e : ixN xs.length (j : Int) = some j := by
    unfold ixN
    rw [if_pos (by omega), if_pos (by omega)]; simp
  unfold atI; rw [e]; exact h
theorem atI_last {α : Type} (xs : List α) (v : α) : atI (xs ++ [v]) (-1) = some v := by
  have hl : (xs ++ [v]).length = xs.length + 1 := by simp
  have e : ixN (xs ++ [v]).length (-1) = some xs.length := by
    unfold ixN
    rw [hl, if_neg (by decide), if_pos (by omega)]
    congr 1
    omega
  unfold atI
  rw [e]
  show (xs ++ [v])[xs.length]? = some v
  simp
def PlainIx (b : Expr) : Prop := ∀ o i, subscripted b false o i = operate [o, i] (getItem o i)
def IxR (X : Cx) (r : R2) : Prop :=
  ∀ (value slice : Expr) (pins : List (Addr × Obj)) (s : Shared) (σ : St) (H : Hp) (x y : V) (v u : Value) (Q : VK), Inv X pins σ H s → RelV x v → RelV y u → r x y H Q →
    subscripted slice false v u = operate [v, u] (getItem v u) → wpAny (model X.prog X.w) X.A (subscriptTail value slice v u) (EP X pins σ Q) X.xe s
def MtR (X : Cx) (id : String) (r : V → List V → Hp → VK → Prop) : Prop :=
  ∀ (pins : List (Addr × Obj)) (s : Shared) (σ : St) (H : Hp) (x : V) (xs : List V) (v : Value) (us : List Value) (Q : VK), Inv X pins σ H s → RelV x v → Vals xs us → r x xs H Q →
    wpAny (model X.prog X.w) X.A (call (.builtin id) (v :: us)) (EP X pins σ Q) X.xe s
section
variable {X : Cx} {a b : Expr} {ta tb : TE} {pos : Pos}
theorem IxR.or {r r' : R2} (h : IxR X r) (h' : IxR X r') : IxR X (fun x y H Q => r x y H Q ∨ r' x y H Q) := by
  intro value slice pins s σ H x y v u Q I rx ry q hs
  rcases q with q | q
  · exact h value slice pins s σ H x y v u Q I rx ry q hs
  · exact h' value slice pins s σ H x y v u Q I rx ry q hs
theorem MtR.or {id : String} {r r' : V → List V → Hp → VK → Prop} (h : MtR X id r) (h' : MtR X id r') : MtR X id (fun x xs H Q => r x xs H Q ∨ r' x xs H Q) := by
  intro pins s σ H x xs v us Q I rx rs q
  rcases q with q | q
  · exact h pins s σ H x xs v us Q I rx rs q
  · exact h' pins s σ H x xs v us Q I rx rs q
theorem pe_ix {r : R2} (hr : IxR X r) (ha : PE X a ta) (hb : PE X b tb) (hs : PlainIx b) : PE X (.Subscript a b pos) (tOp r ta tb) := by
  intro pins s σ H Q I h
  exact Subscript_ (binT ha hb I h fun v u s2 x y H2 I2 rx ry q => hr a b pins s2 σ H2 x y v u Q I2 rx ry q (hs _ _))
def rIxL (K : PySem.W.Frag) : R2 := fun x y H Q => ∃ p xs i v, x = .ref p ∧ y = .int i ∧ SqL K H p xs ∧ atI xs i = some v ∧ Q v H
def rIxT (K : PySem.W.Frag) : R2 := fun x y H Q => ∃ p xs i v, x = .ref p ∧ y = .int i ∧ SqT K H p xs ∧ atI xs i = some v ∧ Q v H
def rIxS : R2 := fun x y H Q => ∃ z i c, x = .str z ∧ y = .int i ∧ z.length ≤ sizeLine ∧ atI z.cps.toList i = some c ∧ Q (.str ⟨#[c]⟩) H
theorem ix_list : IxR X (rIxL X.K) := by
  intro value slice pins s σ H x y v u Q I rx ry h hs
  obtain ⟨p, xs, i, z, rfl, rfl, hq, he, q⟩ := h
  cases rx
  obtain ⟨t, rfl⟩ := ry
  obtain ⟨its, r, pl, hz⟩ := I.list hq
  obtain ⟨j, h1, h2, h3, h4, h5⟩ := atI_get he
  obtain ⟨w, ew, rw'⟩ := r.get h2
  have hl := r.length
  have hn := line63
  have fin : EP X pins σ Q w s := ⟨z, H, I, rw', q⟩
  by_cases h0 : 0 ≤ i
  · have hj : i.toNat = j := by
      rw [seqIndex_of h0 h5] at h1
      exact Option.some.inj h1
    exact item_listR pl.isList h0 (by omega) (by rw [hj]; simpa using ew) fin hs
  · have hj : (i + (its.toArray.size : Int)).toNat = j := by
      rw [seqIndex_neg (by omega) h4] at h1
      rw [List.size_toArray, ← hl]
      exact Option.some.inj h1
    exact subscriptTail_builtinR (x := w) pl.isList.typeIs slot_list_getitem.lookup
      (wpAny_getItem_list_neg (Q := fun r s' => r = w ∧ EP X pins σ Q r s') pl.isList (by omega) (by rw [List.size_toArray] <;> omega) (by omega) (by rw [hj]; simpa using ew) ⟨rfl, fin⟩) hs
theorem ix_tup : IxR X (rIxT X.K) := by
  intro value slice pins s σ H x y v u Q I rx ry h hs
  obtain ⟨p, xs, i, z, rfl, rfl, hq, he, q⟩ := h
  cases rx
  obtain ⟨t, rfl⟩ := ry
  obtain ⟨its, r, pl, hz⟩ := I.tuple hq
  obtain ⟨j, h1, h2, h3, h4, h5⟩ := atI_get he
  obtain ⟨w, ew, rw'⟩ := r.get h2
  have hl := r.length
  have hn := line63
  have fin : EP X pins σ Q w s := ⟨z, H, I, rw', q⟩
  exact subscriptTail_builtinR (x := w) pl.typeIs slot_tuple_getitem.lookup
    (getItem_tuple (j := j) (Q := fun r s' => r = w ∧ EP X pins σ Q r s') pl (by omega) (by omega) (by rw [List.size_toArray, ← hl]; exact h1) (by simpa using ew) ⟨rfl, fin⟩) hs
theorem ix_str : IxR X rIxS := by
  intro value slice pins s σ H x y v u Q I rx ry h hs
  obtain ⟨z, i, c, rfl, rfl, hz, he, q⟩ := h
  obtain ⟨t, rfl⟩ := rx
  obtain ⟨t', rfl⟩ := ry
  obtain ⟨j, h1, h2, h3, h4, h5⟩ := atI_get he
  have hl : z.cps.toList.length = z.length := by simp [Str.length]
  rw [hl] at h1 h4 h5
  have hn := line63
  exact tail_any (typeIs_str s z t) slot_str_getitem.lookup (getItem_str (c := c) (by
    have e1 : decide (i < -(2 ^ 63 : Int)) = false := decide_eq_false (by omega)
    have e2 : decide (i ≥ 2 ^ 63) = false := decide_eq_false (by omega)
    rw [e1, e2, Bool.or_false]) (by rw [h1]; simpa using h2) ⟨.str ⟨#[c]⟩, H, I.tok _, ⟨_, rfl⟩, q⟩) hs
def rIx (K : PySem.W.Frag) : R2 := fun x y H Q => rIxL K x y H Q ∨ rIxT K x y H Q ∨ rIxS x y H Q
theorem ix_seq : IxR X (rIx X.K) := ix_list.or (ix_tup.or ix_str)
theorem mapSeq_set (its : List Value) (n j : Nat) (u : Value) : Obj.mapSeq (·.setIfInBounds j u) { cls := .type "list", data := .seq its.toArray n } = { cls := .type "list", data := .seq (its.set j u).toArray n } := by
  simp [Obj.mapSeq]
theorem Inv.lst {pins : List (Addr × Obj)} {σ : St} {H : Hp} {s : Shared} {p : Addr} {xs : List V} (I : Inv X pins σ H s) (h : H p = some (.lst xs)) :
    ∃ (its : List Value) (n : Nat), Vals xs its ∧ s.heap.get? p = some { cls := .type "list", data := .seq its.toArray n } ∧ xs.length ≤ sizeLine := by
  obtain ⟨z, its, n, r, e⟩ := I.hok p _ h
  exact ⟨its, n, r, e, z⟩
theorem Inv.lstUpd {pins : List (Addr × Obj)} {σ : St} {H : Hp} {s : Shared} {p : Addr} {xs ys : List V} {its its' : List Value} {n n' : Nat} {f : Obj → Obj} (I : Inv X pins σ H s) (h : H p = some (.lst xs))
    (ho : s.heap.get? p = some { cls := .type "list", data := .seq its.toArray n }) (hf : f { cls := .type "list", data := .seq its.toArray n } = { cls := .type "list", data := .seq its'.toArray n' }) (r : Vals ys its') (hz : ys.length ≤ sizeLine) (t : Nat) :
    Inv X pins σ (upd H p (.lst ys)) { s with heap := s.heap.update p f, toks := t } := by
  have e : (s.heap.update p f).get? p = some { cls := .type "list", data := .seq its'.toArray n' } := by
    rw [Heap.get?_update_self f ho (by rw [hf] <;> rfl), hf]
  refine I.write (x := p) (e := p) (by rw [h]; trivial) (.inl rfl) (fun b u hb q => (Heap.get?_update_other _ _ (Ne.symm hb)).trans q) ⟨_, e⟩ ?_
  exact ⟨hz, its', n', r, e⟩
def rSetL : V → V → V → Hp → (Hp → Prop) → Prop := fun o i v H Q => ∃ p xs k j, o = .ref p ∧ i = .int k ∧ H p = some (.lst xs) ∧ ixN xs.length k = some j ∧ Q (upd H p (.lst (xs.set j v)))
theorem set_list : PSet X rSetL := by
  intro pins s σ H o i v ov iv u Q I ro ri rv h
  obtain ⟨p, xs, k, j, rfl, rfl, hp, hj, q⟩ := h
  cases ro
  obtain ⟨t, rfl⟩ := ri
  obtain ⟨its, n, r, ho, hz⟩ := I.lst hp
  obtain ⟨h1, h2, h3, h4⟩ := ixN_seq hj
  have hl := r.length
  have hn := line63
  have I' : Inv X pins σ (upd H p (.lst (xs.set j v))) { s with heap := s.heap.update p (Obj.mapSeq (·.setIfInBounds j u)) } :=
    I.lstUpd hp ho (mapSeq_set its n j u) (r.set rv j) (by rw [List.length_set]; exact hz) s.toks
  by_cases h0 : 0 ≤ k
  · have hk : k.toNat = j := by
      rw [seqIndex_of h0 h4] at h1
      exact Option.some.inj h1
    exact PySem.W.ki_setAt ho h0 (by omega) (by rw [List.size_toArray, ← hl]; exact h4) (by rw [hk]; exact ⟨_, I', q⟩)
  · have hk : (k + (its.toArray.size : Int)).toNat = j := by
      rw [seqIndex_neg (by omega) h3] at h1
      rw [List.size_toArray, ← hl]
      exact Option.some.inj h1
    exact PySem.W.ki_setBack ho (by omega) (by rw [List.size_toArray, ← hl]; exact h3) (by omega) (by rw [hk]; exact ⟨_, I', q⟩)
theorem slice_bounds (lo hi : Option Int) (n : Nat) : (sliceBounds lo hi none n).1 = ((HT.sIx n 0 lo : Nat) : Int) ∧ (sliceBounds lo hi none n).2.1 = ((HT.sIx n n hi : Nat) : Int) ∧ (sliceBounds lo hi none n).2.2 = 1 := by
  refine ⟨?_, ?_, rfl⟩
  · cases lo with
    | none => simp [sliceBounds, HT.sIx]
    | some i =>
      simp only [sliceBounds, HT.sIx, Option.getD_none, show (1 : Int) > 0 by decide, if_true]
      by_cases h : i < 0
      · simp only [h, if_true] <;> omega
      · simp only [h, if_false] <;> omega
  · cases hi with
    | none => simp [sliceBounds, HT.sIx]
    | some i =>
      simp only [sliceBounds, HT.sIx, Option.getD_none, show (1 : Int) > 0 by decide, if_true]
      by_cases h : i < 0
      · simp only [h, if_true] <;> omega
      · simp only [h, if_false] <;> omega
theorem slicePick_cut (its : List Value) (lo hi : Option Int) : slicePick its.toArray lo hi none = ((its.drop (HT.sIx its.length 0 lo)).take (HT.sIx its.length its.length hi - HT.sIx its.length 0 lo)).toArray := by
  obtain ⟨h1, h2, h3⟩ := slice_bounds lo hi its.toArray.size
  unfold slicePick
  rw [h1, h2, h3]
  simp only [sliceRange_one, pick_run, List.size_toArray] <;> rfl
def rSlL (K : PySem.W.Frag) : V → Option Int → Option Int → Hp → VK → Prop := fun x lo hi H Q => ∃ a xs, x = .ref a ∧ SqL K H a xs ∧ ∀ p, H p = none → Q (.ref p) (upd H p (.lst (cutV xs lo hi)))
theorem sl_list : SlR X (rSlL X.K) := by
  intro pins s σ H x v vl vu lo hi sl Q I rx hs pl pu h
  obtain ⟨a, xs, rfl, hx, q⟩ := h
  cases rx
  obtain ⟨its, r, ht, hz⟩ := I.list hx
  have hlen := r.length
  refine ⟨"list", _, slot_list_getitem.lookup, ht.isList.typeIs, ?_⟩
  refine wpAny_getItem_list_slice ht.isList hs pl pu .none (by simp) ?_ (by rw [List.size_toArray] <;> omega)
  rw [slicePick_cut, ← hlen]
  refine ⟨.ref s.heap.objs.size, _, I.laid (t' := s.toks) (o := .lst (cutV xs lo hi)) (fun b ob q => Heap.get?_push_of_some _ q) (Nat.le_refl _) ?_, rfl, q _ (I.hok.fresh (Nat.le_refl _))⟩
  exact ⟨Nat.le_trans (cutV_length xs lo hi) hz, _, 0, (r.drop (HT.sIx xs.length 0 lo)).take (HT.sIx xs.length xs.length hi - HT.sIx xs.length 0 lo), Heap.get?_push_size _ rfl⟩
def flatV : V → Bool
  | .non => true
  | .bl _ => true
  | .int _ => true
  | .str _ => true
  | _ => false
def eqV : V → V → Bool
  | .non, .non => true
  | .bl a, .bl b => a == b
  | .bl a, .int b => (if a then 1 else 0) == b
  | .int a, .bl b => a == (if b then 1 else 0)
  | .int a, .int b => a == b
  | .str a, .str b => a == b
  | _, _ => false
theorem eqAt_V {A : Around} {s : Shared} {y x : V} {u v : Value} (ry : RelV y u) (rx : RelV x v) (fy : flatV y = true) (fx : flatV x = true) : SeqAt.EqAt A s u v (eqV y x) := by
  cases y with
  | non =>
    cases ry
    cases x with
    | non => cases rx; exact SeqAt.EqAt.same _
    | bl b => cases rx; exact SeqAt.EqAt.none_bool b
    | int b => obtain ⟨t, rfl⟩ := rx; exact SeqAt.EqAt.none_int b t
    | str b => obtain ⟨t, rfl⟩ := rx; exact SeqAt.EqAt.none_str b t
    | _ => exact absurd (show false = true from fx) Bool.false_ne_true
  | bl a =>
    cases ry
    cases x with
    | non => cases rx; exact SeqAt.EqAt.bool_none a
    | bl b => cases rx; exact SeqAt.EqAt.bool_bool a b
    | int b => obtain ⟨t, rfl⟩ := rx; exact SeqAt.EqAt.bool_int a b t
    | str b => obtain ⟨t, rfl⟩ := rx; exact SeqAt.EqAt.bool_str a b t
    | _ => exact absurd (show false = true from fx) Bool.false_ne_true
  | int a =>
    obtain ⟨t', rfl⟩ := ry
    cases x with
    | non => cases rx; exact SeqAt.EqAt.int_none a t'
    | bl b => cases rx; exact SeqAt.EqAt.int_bool a t' b
    | int b => obtain ⟨t, rfl⟩ := rx; exact SeqAt.EqAt.int_int a t' b t
    | str b => obtain ⟨t, rfl⟩ := rx; exact SeqAt.EqAt.int_str a t' b t
    | _ => exact absurd (show false = true from fx) Bool.false_ne_true
  | str a =>
    obtain ⟨t', rfl⟩ := ry
    cases x with
    | non => cases rx; exact SeqAt.EqAt.str_none a t'
    | bl b => cases rx; exact SeqAt.EqAt.str_bool a t' b
    | int b => obtain ⟨t, rfl⟩ := rx; exact SeqAt.EqAt.str_int a t' b t
    | str b => obtain ⟨t, rfl⟩ := rx; exact SeqAt.EqAt.str_str a t' b t
    | _ => exact absurd (show false = true from fx) Bool.false_ne_true
  | _ => exact absurd (show false = true from fy) Bool.false_ne_true
def eqU (x : V) (u : Value) : Bool := match u with
  | .none => eqV .non x
  | .bool b => eqV (.bl b) x
  | .int i _ => eqV (.int i) x
  | .str z _ => eqV (.str z) x
  | _ => false
theorem eqU_of {x y : V} {u : Value} (r : RelV y u) (f : flatV y = true) : eqU x u = eqV y x := by
  cases y with
  | non => cases r; rfl
  | bl b => cases r; rfl
  | int i => obtain ⟨t, rfl⟩ := r; rfl
  | str z => obtain ⟨t, rfl⟩ := r; rfl
  | _ => exact absurd (show false = true from f) Bool.false_ne_true
theorem any_eqU {x : V} : ∀ {xs : List V} {us : List Value}, Vals xs us → xs.all flatV = true → us.any (eqU x) = xs.any fun y => eqV y x
  | _, _, .nil, _ => rfl
  | y :: xs, u :: us, .cons r t, f => by
    rw [List.all_cons, Bool.and_eq_true] at f
    rw [List.any_cons, List.any_cons, eqU_of r f.1, any_eqU t f.2]
theorem mem_eqAt {A : Around} {s : Shared} {x : V} {v : Value} (rx : RelV x v) (fx : flatV x = true) : ∀ {xs : List V} {us : List Value}, Vals xs us → xs.all flatV = true → ∀ u ∈ us, SeqAt.EqAt A s u v (eqU x u)
  | _, _, .nil, _ => fun u hu => by cases hu
  | y :: xs, u :: us, .cons r t, f => fun u' hu => by
    rw [List.all_cons, Bool.and_eq_true] at f
    rcases List.mem_cons.mp hu with rfl | hu
    · rw [eqU_of r f.1]; exact eqAt_V r rx f.1 fx
    · exact mem_eqAt rx fx t f.2 u' hu
def inV (x : V) (xs : List V) : Bool := xs.any fun y => eqV y x
def rIn (K : PySem.W.Frag) (neg : Bool) : R2 := fun x y H Q => ∃ p xs, y = .ref p ∧ (SqL K H p xs ∨ SqT K H p xs) ∧ flatV x = true ∧ xs.all flatV = true ∧ Q (.bl (if neg then !inV x xs else inV x xs)) H
theorem op_in_seq : OpR X (compareOp .In) (rIn X.K false) := by
  intro pins s σ H x y v u Q I rx ry h
  obtain ⟨p, xs, rfl, hq, fx, fs, q⟩ := h
  cases ry
  rcases hq with hq | hq
  · obtain ⟨its, r, pl, hz⟩ := I.list hq
    refine SeqAt.in_listAt (eqU x) pl.isList (fun w hw => mem_eqAt rx fx r fs w (by simpa using hw)) ⟨.bl _, H, I, rfl, ?_⟩
    rw [show its.toArray.any (eqU x) = its.any (eqU x) by simp, any_eqU r fs]
    exact q
  · obtain ⟨its, r, pl, hz⟩ := I.tuple hq
    refine SeqAt.in_tupleAt (eqU x) pl (fun w hw => mem_eqAt rx fx r fs w (by simpa using hw)) ⟨.bl _, H, I, rfl, ?_⟩
    rw [show its.toArray.any (eqU x) = its.any (eqU x) by simp, any_eqU r fs]
    exact q
theorem op_notIn_seq : OpR X (compareOp .NotIn) (rIn X.K true) := by
  intro pins s σ H x y v u Q I rx ry h
  obtain ⟨p, xs, rfl, hq, fx, fs, q⟩ := h
  cases ry
  rcases hq with hq | hq
  · obtain ⟨its, r, pl, hz⟩ := I.list hq
    refine SeqAt.notIn_listAt (eqU x) pl.isList (fun w hw => mem_eqAt rx fx r fs w (by simpa using hw)) ⟨.bl _, H, I, rfl, ?_⟩
    rw [show its.toArray.any (eqU x) = its.any (eqU x) by simp, any_eqU r fs]
    exact q
  · obtain ⟨its, r, pl, hz⟩ := I.tuple hq
    refine SeqAt.notIn_tupleAt (eqU x) pl (fun w hw => mem_eqAt rx fx r fs w (by simpa using hw)) ⟨.bl _, H, I, rfl, ?_⟩
    rw [show its.toArray.any (eqU x) = its.any (eqU x) by simp, any_eqU r fs]
    exact q
theorem op_notIn_str : OpR X (compareOp .NotIn) (fun x y H Q => ∃ i j, x = .str i ∧ y = .str j ∧ Q (.bl (!(!(Builtin.Str.occurrences j i 0 j.length 1).isEmpty))) H) := by
  intro pins s σ H x y v u Q I rx ry h
  obtain ⟨i, j, rfl, rfl, q⟩ := h
  obtain ⟨t, rfl⟩ := rx
  obtain ⟨t', rfl⟩ := ry
  exact notIn_str ⟨.bl _, H, I, rfl, q⟩
theorem call_len_seq : CallR X (.builtin "len") (fun xs H Q => ∃ p ys, xs = [.ref p] ∧ (SqL X.K H p ys ∨ SqT X.K H p ys) ∧ Q (.int ys.length) H) := by
  intro pins s σ H xs us Q I r h
  obtain ⟨p, ys, rfl, hq, q⟩ := h
  obtain ⟨u, rfl, rx⟩ := vals1 r
  cases rx
  have hn := line63
  rcases hq with hq | hq
  · obtain ⟨its, r', pl, hz⟩ := I.list hq
    have hlen := r'.length
    exact Calls.call_len_list pl.isList (by simp only [List.size_toArray] <;> omega) ⟨.int ys.length, H, I.tok _, ⟨s.toks + 1, by rw [List.size_toArray, hlen]⟩, q⟩
  · obtain ⟨its, r', pl, hz⟩ := I.tuple hq
    have hlen := r'.length
    exact len_tuple pl (by simp only [List.size_toArray] <;> omega) ⟨.int ys.length, H, I.tok _, ⟨s.toks + 1, by rw [List.size_toArray, hlen]⟩, q⟩
theorem call_len_str : CallR X (.builtin "len") (fun xs H Q => ∃ z, xs = [.str z] ∧ z.length ≤ sizeLine ∧ Q (.int z.length) H) := by
  intro pins s σ H xs us Q I r h
  obtain ⟨z, rfl, hz, q⟩ := h
  obtain ⟨u, rfl, t, rfl⟩ := vals1 r
  have hn := line63
  exact len_str (by omega) ⟨.int z.length, H, I.tok _, ⟨_, rfl⟩, q⟩
theorem CallR.or {f : Value} {r r' : List V → Hp → VK → Prop} (h : CallR X f r) (h' : CallR X f r') : CallR X f (fun xs H Q => r xs H Q ∨ r' xs H Q) := by
  intro pins s σ H xs us Q I rs q
  rcases q with q | q
  · exact h pins s σ H xs us Q I rs q
  · exact h' pins s σ H xs us Q I rs q
theorem call_list_of : CallR X (.type "list") (fun xs H Q => ∃ p ys, xs = [.ref p] ∧ (SqL X.K H p ys ∨ SqT X.K H p ys) ∧ ∀ l, H l = none → Q (.ref l) (upd H l (.lst ys))) := by
  intro pins s σ H xs us Q I r h
  obtain ⟨p, ys, rfl, hq, q⟩ := h
  obtain ⟨u, rfl, rx⟩ := vals1 r
  cases rx
  have fin : ∀ (its : List Value), Vals ys its → ys.length ≤ sizeLine → ∀ (h' : Heap) (c' : Nat), (∀ b o', s.heap.get? b = some o' → h'.get? b = some o') →
      h'.get? s.heap.objs.size = some { cls := .type "list", dict := none, data := .seq its.toArray c', slots := #[] } → EP X pins σ Q (.ref s.heap.objs.size) { s with heap := h' } := fun its r' hz h' c' kp e =>
    ⟨.ref s.heap.objs.size, _, I.laid (t' := s.toks) kp (Nat.le_refl _) (show ObjOk X.prog X.w _ h' _ (.lst ys) from ⟨hz, its, c', r', e⟩), rfl, q _ (I.hok.fresh (Nat.le_refl _))⟩
  rcases hq with hq | hq
  · obtain ⟨its, r', pl, hz⟩ := I.list hq
    have hlen := r'.length
    obtain ⟨o, ho, hc, n, hd⟩ := pl.isList
    exact call_list_seq p (.inl rfl) ho hc hd (fun h' c' kp e => fin its r' hz h' c' kp e) (by simp only [List.size_toArray] <;> omega)
  · obtain ⟨its, r', pl, hz⟩ := I.tuple hq
    have hlen := r'.length
    obtain ⟨o, ho, hc, n, hd⟩ := pl
    exact call_list_seq p (.inr rfl) ho hc hd (fun h' c' kp e => fin its r' hz h' c' kp e) (by simp only [List.size_toArray] <;> omega)
theorem call_tuple_of : CallR X (.type "tuple") (fun xs H Q => ∃ p ys, xs = [.ref p] ∧ ((SqL X.K H p ys ∧ ∀ l, H l = none → Q (.ref l) (upd H l (.tup ys))) ∨ (SqT X.K H p ys ∧ Q (.ref p) H))) := by
  intro pins s σ H xs us Q I r h
  obtain ⟨p, ys, rfl, h⟩ := h
  obtain ⟨u, rfl, rx⟩ := vals1 r
  cases rx
  rcases h with ⟨hq, q⟩ | ⟨hq, q⟩
  · obtain ⟨its, r', pl, hz⟩ := I.list hq
    have hlen := r'.length
    refine call_tuple_list pl.isList (fun h' kp => ?_) (by simp only [List.size_toArray] <;> omega)
    have I1 : Inv X pins σ H { s with heap := h' } := I.kept (t' := s.toks) kp
    have I2 : Inv X pins σ (upd H h'.objs.size (.tup ys)) { s with heap := h'.push { cls := .type "tuple", data := .seq its.toArray } } :=
      I1.laid (t' := s.toks) (fun b o e => Heap.get?_push_of_some _ e) (Nat.le_refl _) (show ObjOk X.prog X.w _ _ _ (.tup ys) from ⟨hz, its, r', IsTup.new _ _⟩)
    exact ⟨.ref h'.objs.size, _, I2, rfl, q _ (I1.hok.fresh (Nat.le_refl _))⟩
  · obtain ⟨its, r', pl, hz⟩ := I.tuple hq
    exact call_tuple_same pl ⟨.ref p, H, I, rfl, q⟩
def tyV (K : PySem.W.Frag) (T : String) (x : V) (H : Hp) : Prop := match x with
  | .str _ => T = "str"
  | .int _ => T = "int"
  | .ref p => (T = "list" ∧ ∃ xs, SqL K H p xs) ∨ (T = "tuple" ∧ ∃ o, K.lookup p = some o ∧ o.cls = .type "tuple" ∧ o.dict = none) ∨
      (T = "dict" ∧ ((∃ kvs, H p = some (.dK kvs)) ∨ ∃ kvs, H p = some (.dT kvs))) ∨ (T = "set" ∧ ∃ S n, H p = some (.set S n))
  | _ => False
theorem tyV_is {pins : List (Addr × Obj)} {σ : St} {H : Hp} {s : Shared} {T : String} {x : V} {v : Value} (I : Inv X pins σ H s) (r : RelV x v) (ty : tyV X.K T x H) :
    s.TypeIs v T ∧ ∀ a, v = .ref a → ∃ ob, s.heap.get? a = some ob ∧ ob.dict = none := by
  cases x with
  | str z =>
    obtain ⟨t, rfl⟩ := r
    cases (show T = "str" from ty)
    exact ⟨typeIs_str s z t, fun _ e => nomatch e⟩
  | int i =>
    obtain ⟨t, rfl⟩ := r
    cases (show T = "int" from ty)
    exact ⟨typeIs_int s i t, fun _ e => nomatch e⟩
  | ref p =>
    cases r
    rcases ty with ⟨rfl, xs, hq⟩ | ⟨rfl, o, hk, hc, hd⟩ | ⟨rfl, hk⟩ | ⟨rfl, S, n, hk⟩
    · obtain ⟨its, _, pl, _⟩ := I.list hq
      refine ⟨pl.isList.typeIs, fun a e => ?_⟩
      cases e
      obtain ⟨o, n, e, c, hd, _⟩ := pl
      exact ⟨o, e, hd⟩
    · refine ⟨⟨o, I.kIn p o hk, hc⟩, fun a e => ?_⟩
      cases e
      exact ⟨o, I.kIn _ o hk, hd⟩
    · have z : ∃ o, s.heap.get? p = some o ∧ o.ExactDict := by
        rcases hk with ⟨kvs, hk⟩ | ⟨kvs, hk⟩
        · obtain ⟨_, _, _, _, o, _, _, e, ex, _⟩ := I.hok p _ hk
          exact ⟨o, e, ex⟩
        · obtain ⟨_, _, _, _, o, _, _, e, ex, _⟩ := I.hok p _ hk
          exact ⟨o, e, ex⟩
      obtain ⟨o, e, ex⟩ := z
      refine ⟨⟨o, e, ex.1⟩, fun a e2 => ?_⟩
      cases e2
      exact ⟨o, e, ex.2.1⟩
    · obtain ⟨o, _, _, _, e, ex, _⟩ := I.hok p _ hk
      refine ⟨⟨o, e, ex.1⟩, fun a e2 => ?_⟩
      cases e2
      exact ⟨o, e, ex.2.1⟩
  | _ => exact False.elim ty
def tBM0 (K : PySem.W.Frag) (T : String) (r : V → List V → Hp → VK → Prop) (to : TE) : TE := fun σ H Q => to σ H fun x H1 => tyV K T x H1 ∧ r x [] H1 Q
def tBM (K : PySem.W.Frag) (T : String) (r : V → List V → Hp → VK → Prop) (to : TE) (t : TA) : TE := fun σ H Q => to σ H fun x H1 => tyV K T x H1 ∧ t σ H1 fun xs H2 => r x xs H2 Q
variable {o e : Expr} {es : List Expr} {to : TE} {t : TA} {name : Str} {apos cpos : Pos} {T id : String} {r : V → List V → Hp → VK → Prop}
theorem pe_bm0 (pa : PlainAttrs T) (slot : Slot T name id) (hty : typeOf (.builtin id) = pure (.type "method_descriptor")) (hm : MtR X id r) (ho : PE X o to)
    (hbase : attributeBase o name X.env (eval o X.env) = eval o X.env := by rfl) (hline : (apos.endLine == cpos.line) = true := by rfl) : PE X (.Call (.Attribute o name apos) [] [] cpos) (tBM0 X.K T r to) := by
  intro pins s σ H Q I h
  refine wpAny_Call_method0_late hbase hline (thn (ho pins s σ H _ I h) fun v s1 ⟨x, H1, I1, r1, ty, q1⟩ => ?_)
  obtain ⟨h1, h2⟩ := tyV_is I1 r1 ty
  exact ⟨T, id, pa, slot, hty, h1, h2, Calls.callWith_builtin rfl (PySem.evalArgs_none (hm pins s1 σ H1 x [] v [] Q I1 r1 .nil q1))⟩
theorem pe_bm (pa : PlainAttrs T) (slot : Slot T name id) (hty : typeOf (.builtin id) = pure (.type "method_descriptor")) (hm : MtR X id r) (ho : PE X o to) (ha : PA X (e :: es) t)
    (hbase : attributeBase o name X.env (eval o X.env) = eval o X.env := by rfl)
    (hfew : ((backTo cpos (starEach (e :: es) X.env)).all (fun x => !x.1) && (backToKw cpos (keywordEach [] X.env)).all (fun x => x.1.isSome)
      && decide ((e :: es).length + ([] : List Keyword).length + (if ([] : List Keyword).isEmpty then 0 else 1) < 30)) = true := by rfl)
    (hline : (apos.endLine == cpos.line) = true := by rfl) (hs : starEach (e :: es) X.env = (false, eval e X.env) :: starEach es X.env := by rfl) (hplain : (backTo cpos (starEach es X.env)).any (·.1) = false := by rfl) :
    PE X (.Call (.Attribute o name apos) (e :: es) [] cpos) (tBM X.K T r to t) := by
  intro pins s σ H Q I h
  refine wpAny_Call_method_late hbase hfew hline rfl (thn (ho pins s σ H _ I h) fun v s1 ⟨x, H1, I1, r1, ty, q1⟩ => ?_)
  obtain ⟨h1, h2⟩ := tyV_is I1 r1 ty
  refine ⟨T, id, pa, slot, hty, h1, h2, ?_⟩
  have hA := ha cpos pins s1 σ H1 _ I1 q1
  rw [hs] at hA ⊢
  refine Calls.callWith_builtin (by show (false || (backTo cpos (starEach es X.env)).any (·.1)) = false; rw [hplain] <;> rfl) (Calls.evalArgs_plain ?_)
  exact thn hA fun us s2 ⟨vs, H2, I2, r2, q2⟩ => hm pins s2 σ H2 x vs v us Q I2 r1 r2 q2
/- xs.append(e), list.index on a module's tuple .. are MtR facts of 06m -/
end
end L2
namespace L2
open PySem PySem.Spec PyProof.Rows
def MtM (X : Cx) (id : String) (r : V → List V → Hp → VK → Prop) : Prop :=
  ∀ (pins : List (Addr × Obj)) (s : Shared) (σ : St) (H : Hp) (x : V) (xs : List V) (v : Value) (us : List Value) (Q : VK), Inv X pins σ H s → RelV x v → Vals xs us → r x xs H Q →
    wpAny (model X.prog X.w) X.A (call (.builtin id) (v :: us)) (EP X pins σ Q) X.xe s
theorem Vals.one : ∀ {x : V} {us : List Value}, Vals [x] us → ∃ u, us = [u] ∧ RelV x u
  | _, _, .cons r .nil => ⟨_, rfl, r⟩
theorem Vals.two : ∀ {x y : V} {us : List Value}, Vals [x, y] us → ∃ u v, us = [u, v] ∧ RelV x u ∧ RelV y v
  | _, _, _, .cons r (.cons q .nil) => ⟨_, _, rfl, r, q⟩
theorem Vals.zero : ∀ {us : List Value}, Vals [] us → us = []
  | _, .nil => rfl
theorem Vals.dropLast {xs : List V} {us : List Value} (h : Vals xs us) : Vals xs.dropLast us.dropLast := by
  induction h with
  | nil => exact .nil
  | cons r t ih =>
    cases t with
    | nil => exact .nil
    | cons q t' => exact .cons r ih
theorem Vals.eraseIdx : ∀ {xs : List V} {us : List Value} (i : Nat), Vals xs us → Vals (xs.eraseIdx i) (us.eraseIdx i)
  | _, _, _, .nil => .nil
  | _, _, 0, .cons _ t => t
  | _, _, i + 1, .cons r t => .cons r (Vals.eraseIdx i t)
theorem Vals.reverse {xs : List V} {us : List Value} (h : Vals xs us) : Vals xs.reverse us.reverse := by
  induction h with
  | nil => exact .nil
  | cons r t ih => rw [List.reverse_cons, List.reverse_cons]; exact Vals.append ih (.cons r .nil)
theorem Vals.rep {xs : List V} {us : List Value} (h : Vals xs us) : ∀ k : Nat, Vals (List.replicate k xs).flatten (List.replicate k us).flatten
  | 0 => .nil
  | k + 1 => by
    rw [List.replicate_succ, List.replicate_succ, List.flatten_cons, List.flatten_cons]
    exact Vals.append h (Vals.rep h k)
theorem erase_last {α : Type} (l : List α) : l.eraseIdx (l.length - 1) = l.dropLast := by
  induction l with
  | nil => rfl
  | cons a r ih =>
    cases r with
    | nil => rfl
    | cons b r =>
      have e : (a :: b :: r).length - 1 = ((b :: r).length - 1) + 1 := by
        have h1 : (a :: b :: r).length = r.length + 2 := rfl
        have h2 : (b :: r).length = r.length + 1 := rfl
        omega
      rw [e, List.eraseIdx_cons_succ, ih]
      all_goals rfl
theorem len_erase {α : Type} : ∀ (l : List α) (i : Nat), (l.eraseIdx i).length ≤ l.length
  | [], _ => Nat.le_refl _
  | _ :: _, 0 => Nat.le_succ _
  | _ :: r, i + 1 => Nat.succ_le_succ (len_erase r i)
theorem foldl_rep (its : List Value) : ∀ (k : Nat) (acc : List Value),
    List.foldl (fun x1 x2 => x1 ++ x2) acc.toArray (List.replicate k its.toArray) = (acc ++ (List.replicate k its).flatten).toArray
  | 0, acc => by simp
  | k + 1, acc => by
    have e : acc.toArray ++ its.toArray = (acc ++ its).toArray := by simp
    have e2 : (acc ++ its) ++ (List.replicate k its).flatten = acc ++ (List.replicate (k + 1) its).flatten := by
      rw [List.replicate_succ, List.flatten_cons, List.append_assoc]
    rw [← e2, ← foldl_rep its k (acc ++ its), ← e, List.replicate_succ, List.foldl_cons]
section
variable {X : Cx} {pins : List (Addr × Obj)} {σ : St} {H : Hp} {s : Shared} {l b : Addr} {xs ys zs : List V}
theorem Inv.lset {its its' : List Value} {n : Nat} {f : Array Value → Array Value} {t' : Nat} (I : Inv X pins σ H s) (hH : H l = some (.lst xs))
    (e : s.heap.get? l = some { cls := .type "list", data := .seq its.toArray n }) (hf : f its.toArray = its'.toArray) (hv : Vals ys its') (hz : ys.length ≤ sizeLine) :
    Inv X pins σ (upd H l (.lst ys)) { s with heap := s.heap.update l (Obj.mapSeq f), toks := t' } := by
  have q := PySem.IsL.update e f
  rw [hf] at q
  refine I.write (x := l) (e := l) (by rw [hH]; exact trivial) (.inl rfl) (fun b' u hb hu => (Heap.get?_update_other s.heap (Obj.mapSeq f) (Ne.symm hb)).trans hu) ⟨_, q⟩ ?_
  exact ⟨hz, its', _, hv, q⟩
theorem Inv.lnew {its : List Value} {t' : Nat} (I : Inv X pins σ H s) (hv : Vals ys its) (hz : ys.length ≤ sizeLine) :
    Inv X pins σ (upd H s.heap.objs.size (.lst ys)) { s with heap := s.heap.push { cls := .type "list", data := .seq its.toArray }, toks := t' } :=
  I.laid (fun _ _ q => Heap.get?_push_of_some _ q) (Nat.le_refl _) ⟨hz, its, 0, hv, Heap.get?_push_size _ rfl⟩
theorem Inv.fresh (I : Inv X pins σ H s) : H s.heap.objs.size = none := I.hok.fresh (Nat.le_refl _)
theorem Inv.lstM (I : Inv X pins σ H s) (hH : H l = some (.lst xs)) : xs.length ≤ sizeLine ∧ ∃ (its : List Value) (n : Nat), Vals xs its ∧ xs.length = its.length ∧ s.heap.get? l = some { cls := .type "list", data := .seq its.toArray n } := by
  obtain ⟨z, its, n, r, e⟩ := I.hok l _ hH
  exact ⟨z, its, n, r, r.length, e⟩
theorem notLongL {n : Nat} (h : n ≤ sizeLine) : Builtin.List.listTooLong n = false := by
  unfold Builtin.List.listTooLong
  exact decide_eq_false (by omega)
end
section
variable {X : Cx}
def rAppend : V → List V → Hp → VK → Prop := fun x vs H Q => ∃ l xs y, x = .ref l ∧ vs = [y] ∧ H l = some (.lst xs) ∧ xs.length < sizeLine ∧ Q .non (upd H l (.lst (xs ++ [y])))
theorem mt_append : MtM X "list.append" rAppend := by
  intro pins s σ H x vs v us Q I rx rv h
  obtain ⟨l, xs, y, rfl, rfl, hH, hz, q⟩ := h
  cases rx
  obtain ⟨u, rfl, ru⟩ := rv.one
  obtain ⟨z, its, n, r, hl, e⟩ := I.lstM hH
  refine call_meets F.slot_list_append ⟨_, e, rfl⟩ F.entry_list_append (F.args_list_append_2 _ _) (PySem.list_append l its.toArray n u (by rw [List.size_toArray]; omega)) ⟨e, ?_⟩
  refine ⟨.non, _, I.lset (its' := its ++ [u]) hH e (by simp) (r.append (.cons ru .nil)) ?_, rfl, q⟩
  rw [List.length_append, List.length_singleton]
  omega
def rExtend : V → List V → Hp → VK → Prop := fun x vs H Q => ∃ l b xs zs, x = .ref l ∧ vs = [.ref b] ∧ H l = some (.lst xs) ∧ H b = some (.lst zs) ∧ xs.length + zs.length ≤ sizeLine ∧ Q .non (upd H l (.lst (xs ++ zs)))
theorem mt_extend : MtM X "list.extend" rExtend := by
  intro pins s σ H x vs v us Q I rx rv h
  obtain ⟨l, b, xs, zs, rfl, rfl, hH, hB, hz, q⟩ := h
  cases rx
  obtain ⟨u, rfl, ru⟩ := rv.one
  cases ru
  obtain ⟨z, its, n, r, hl, e⟩ := I.lstM hH
  obtain ⟨z2, its2, n2, r2, hl2, e2⟩ := I.lstM hB
  have hsz : its.toArray.size + its2.toArray.size ≤ sizeLine := by rw [List.size_toArray, List.size_toArray]; omega
  have hlong : ¬ (!its.toArray.isEmpty && Builtin.List.listTooLong (its.toArray.size + its2.toArray.size)) = true := by
    rw [notLongL hsz, Bool.and_false]
    exact Bool.false_ne_true
  refine call_meets F.slot_list_extend ⟨_, e, rfl⟩ F.entry_list_extend (F.args_list_extend_2 _ _)
    (AutoSeq1.list_extend_list_list_0 l its.toArray n b its2.toArray n2 hlong (by rw [List.size_toArray]; omega) (by omega)) ⟨e, e2, ?_⟩
  refine ⟨.non, _, I.lset (its' := its ++ its2) hH e (by simp) (r.append r2) ?_, rfl, q⟩
  rw [List.length_append]
  omega
def rPop : V → List V → Hp → VK → Prop := fun x vs H Q => ∃ l xs y, x = .ref l ∧ vs = [] ∧ H l = some (.lst xs) ∧ xs[xs.length - 1]? = some y ∧ Q y (upd H l (.lst xs.dropLast))
theorem mt_pop : MtM X "list.pop" rPop := by
  intro pins s σ H x vs v us Q I rx rv h
  obtain ⟨l, xs, y, rfl, rfl, hH, hy, q⟩ := h
  cases rx
  have hus := rv.zero
  subst hus
  obtain ⟨z, its, n, r, hl, e⟩ := I.lstM hH
  obtain ⟨u, hu, ru⟩ := r.get hy
  have hy' : its.toArray[its.toArray.size - 1]? = some u := by
    show its.toArray[its.length - 1]? = some u
    rw [← Array.getElem?_toList, ← hl]
    exact hu
  refine call_meets F.slot_list_pop ⟨_, e, rfl⟩ F.entry_list_pop (F.args_list_pop_1 _) (MeetsSeq.list_pop_last l its.toArray n u hy' (by rw [List.size_toArray]; omega)) ⟨e, ?_⟩
  refine ⟨y, _, I.lset (its' := its.dropLast) hH e ?_ r.dropLast ?_, ru, q⟩
  · show its.toArray.eraseIdxIfInBounds (its.toArray.size - 1) = its.dropLast.toArray
    rw [List.size_toArray, List.eraseIdxIfInBounds_toArray, erase_last]
  · rw [List.length_dropLast]
    omega
def rPopAt : V → List V → Hp → VK → Prop := fun x vs H Q => ∃ l xs i k y, x = .ref l ∧ vs = [.int i] ∧ H l = some (.lst xs) ∧ -(2 ^ 63) ≤ i ∧ i < 2 ^ 63 ∧ seqIndex? i xs.length = some k ∧ xs[k]? = some y ∧ Q y (upd H l (.lst (xs.eraseIdx k)))
theorem mt_popAt : MtM X "list.pop" rPopAt := by
  intro pins s σ H x vs v us Q I rx rv h
  obtain ⟨l, xs, i, k, y, rfl, rfl, hH, h1, h2, hk, hy, q⟩ := h
  cases rx
  obtain ⟨u, rfl, ru⟩ := rv.one
  obtain ⟨t, rfl⟩ := ru
  obtain ⟨z, its, n, r, hl, e⟩ := I.lstM hH
  obtain ⟨w, hw, rw'⟩ := r.get hy
  refine call_meets F.slot_list_pop ⟨_, e, rfl⟩ F.entry_list_pop (F.args_list_pop_2 _ _)
    (MeetsSeq.list_pop_at l its.toArray n i t k w (fitsIndex_both h1 h2) (by rw [List.size_toArray, ← hl]; exact hk) (by rw [← Array.getElem?_toList]; exact hw) (by rw [List.size_toArray]; omega)) ⟨e, ?_⟩
  refine ⟨y, _, I.lset (its' := its.eraseIdx k) hH e ?_ (r.eraseIdx k) ?_, rw', q⟩
  · show its.toArray.eraseIdxIfInBounds k = (its.eraseIdx k).toArray
    rw [List.eraseIdxIfInBounds_toArray]
  · have := len_erase xs k
    omega
def rReverse : V → List V → Hp → VK → Prop := fun x vs H Q => ∃ l xs, x = .ref l ∧ vs = [] ∧ H l = some (.lst xs) ∧ Q .non (upd H l (.lst xs.reverse))
theorem mt_reverse : MtM X "list.reverse" rReverse := by
  intro pins s σ H x vs v us Q I rx rv h
  obtain ⟨l, xs, rfl, rfl, hH, q⟩ := h
  cases rx
  have hus := rv.zero
  subst hus
  obtain ⟨z, its, n, r, hl, e⟩ := I.lstM hH
  refine call_meets F.slot_list_reverse ⟨_, e, rfl⟩ F.entry_list_reverse (F.args_list_reverse_1 _) (AutoSeq1.list_reverse_list_0 l its.toArray n (by rw [List.size_toArray]; omega)) ⟨e, ?_⟩
  refine ⟨.non, _, I.lset (its' := its.reverse) hH e (by simp) r.reverse ?_, rfl, q⟩
  rw [List.length_reverse]
  omega
def rClear : V → List V → Hp → VK → Prop := fun x vs H Q => ∃ l xs, x = .ref l ∧ vs = [] ∧ H l = some (.lst xs) ∧ Q .non (upd H l (.lst []))
theorem mt_clear : MtM X "list.clear" rClear := by
  intro pins s σ H x vs v us Q I rx rv h
  obtain ⟨l, xs, rfl, rfl, hH, q⟩ := h
  cases rx
  have hus := rv.zero
  subst hus
  obtain ⟨z, its, n, r, hl, e⟩ := I.lstM hH
  refine call_meets F.slot_list_clear ⟨_, e, rfl⟩ F.entry_list_clear (F.args_list_clear_1 _) (AutoSeq1.list_clear_list_0 l its.toArray n (by rw [List.size_toArray]; omega)) ⟨e, ?_⟩
  exact ⟨.non, _, I.lset (its' := []) (ys := []) hH e rfl .nil (Nat.zero_le _), rfl, q⟩
def rCat : R2 := fun x y H Q => ∃ l b xs zs, x = .ref l ∧ y = .ref b ∧ H l = some (.lst xs) ∧ H b = some (.lst zs) ∧ xs.length + zs.length ≤ sizeLine ∧ ∀ p, H p = none → Q (.ref p) (upd H p (.lst (xs ++ zs)))
theorem op_cat : OpR X (binaryOp .Add) rCat := by
  intro pins s σ H x y v u Q I rx ry h
  obtain ⟨l, b, xs, zs, rfl, rfl, hH, hB, hz, q⟩ := h
  cases rx
  cases ry
  obtain ⟨z, its, n, r, hl, e⟩ := I.lstM hH
  obtain ⟨z2, its2, n2, r2, hl2, e2⟩ := I.lstM hB
  refine PySem.P.add_list e e2 ?_ (by rw [List.size_toArray, List.size_toArray]; omega)
  have ea : its.toArray ++ its2.toArray = (its ++ its2).toArray := by simp
  rw [ea]
  exact ⟨.ref _, _, I.lnew (t' := s.toks) (r.append r2) (by rw [List.length_append]; omega), rfl, q _ I.fresh⟩
def rRep : R2 := fun x y H Q => ∃ l k xs, x = .ref l ∧ y = .int k ∧ H l = some (.lst xs) ∧ -(2 ^ 63) ≤ k ∧ k < 2 ^ 63 ∧ xs.length * k.toNat ≤ sizeLine ∧
  ∀ p, H p = none → Q (.ref p) (upd H p (.lst (List.replicate k.toNat xs).flatten))
theorem len_rep {α : Type} (xs : List α) (k : Nat) : (List.replicate k xs).flatten.length = k * xs.length := by
  induction k with
  | zero => simp
  | succ k ih => rw [List.replicate_succ, List.flatten_cons, List.length_append, ih, Nat.succ_mul, Nat.add_comm]
theorem op_rep : OpR X (binaryOp .Mult) rRep := by
  intro pins s σ H x y v u Q I rx ry h
  obtain ⟨l, k, xs, rfl, rfl, hH, h1, h2, hz, q⟩ := h
  cases rx
  obtain ⟨t, rfl⟩ := ry
  obtain ⟨z, its, n, r, hl, e⟩ := I.lstM hH
  have hlen : its.toArray.size * k.toNat ≤ sizeLine := by rw [List.size_toArray, ← hl]; exact hz
  have hcap : ¬ its.toArray.size * k.toNat > (2 ^ 63 - 1) / 8 := by
    have : (sizeLine : Nat) ≤ (2 ^ 63 - 1) / 8 := by decide
    omega
  have hfit : ¬ (!Builtin.List.listFitsIndex k) = true := by
    rw [fitsIndex_both h1 h2]
    exact Bool.false_ne_true
  have hlong : ¬ Builtin.List.listTooLong (its.toArray.size * k.toNat) = true := by
    rw [notLongL hlen]
    exact Bool.false_ne_true
  have hnew : List.foldl (fun x1 x2 => x1 ++ x2) #[] (List.replicate (if its.toArray.isEmpty = true then 0 else k.toNat) its.toArray) = (List.replicate k.toNat its).flatten.toArray := by
    have f0 : ∀ m : Nat, List.foldl (fun x1 x2 => x1 ++ x2) #[] (List.replicate m its.toArray) = (List.replicate m its).flatten.toArray := fun m => by
      have := foldl_rep its m []
      rw [List.nil_append] at this
      exact this
    rw [f0]
    cases its with
    | nil => simp
    | cons a r' => rw [if_neg (by simp)]
  refine wpAny_binaryOp_repeat_ref (T := "list") (U := "int") (by decide) ⟨_, e, rfl⟩ (fun s' => typeIs_int s' k t) noFill_list_mul F.fills_int_mul F.slot_int_rmul repeat_list F.slot_int_index.lookup
    (call_meets F.slot_int_rmul (typeIs_int s k t) F.entry_int_rmul (F.args_int_rmul_2 _ _) (int___rmul___int_list k t l its.toArray n)
      ⟨e, rfl, ⟨_, e, rfl⟩, call_meets F.slot_list_mul ⟨_, e, rfl⟩ F.entry_list_mul (F.args_list_mul_2 _ _) (AutoListH.list___mul___list_int_3 l its.toArray n k t hfit hcap hlong) ⟨e, ?_⟩⟩)
  rw [hnew]
  exact ⟨.ref _, _, I.lnew (t' := s.toks) (r.rep k.toNat) (by rw [len_rep, Nat.mul_comm]; exact hz), rfl, q _ I.fresh⟩
theorem del_list {pins : List (Addr × Obj)} {s : Shared} {σ : St} {H : Hp} {l : Addr} {xs : List V} {i : Int} {t : Tok} {k : Nat} {Q : Unit → Shared → Prop} (I : Inv X pins σ H s) (hH : H l = some (.lst xs))
    (h1 : -(2 ^ 63) ≤ i) (h2 : i < 2 ^ 63) (hk : seqIndex? i xs.length = some k) (h : ∀ s', Inv X pins σ (upd H l (.lst (xs.eraseIdx k))) s' → Q () s') :
    wpAny (model X.prog X.w) X.A (delItem (.ref l) (.int i t)) Q X.xe s := by
  obtain ⟨z, its, n, r, hl, e⟩ := I.lstM hH
  refine PySem.P.delItem_list (k := k) e (fitsIndex_both h1 h2) (by rw [List.size_toArray, ← hl]; exact hk) (h _ ?_) (by rw [List.size_toArray]; omega)
  refine I.lset (its' := its.eraseIdx k) (t' := s.toks) hH e ?_ (r.eraseIdx k) ?_
  · show its.toArray.eraseIdxIfInBounds k = (its.eraseIdx k).toArray
    rw [List.eraseIdxIfInBounds_toArray]
  · have := len_erase xs k
    omega
end
section
variable {prog : Program} {w : World} {A : Around} {E : Value → Shared → Prop} {s : Shared}
theorem splice_eq (its its2 : List Value) (a c : Nat) : its.toArray.extract 0 a ++ its2.toArray ++ its.toArray.extract c its.toArray.size = (its.take a ++ its2 ++ its.drop c).toArray := by
  apply Array.toList_inj.mp
  first
    | (simp
       exact List.take_of_length_le (by simp))
    | simp [List.take_of_length_le]
    | simp
theorem bounds_run {a c n : Nat} (hac : a ≤ c) (hc : c ≤ n) : sliceBounds (some (a : Int)) (some (c : Int)) none n = ((a : Int), (c : Int), 1) := by
  simp only [sliceBounds, Option.getD_none]
  have h1 : ¬ ((a : Int) < 0) := by omega
  have h2 : ¬ ((c : Int) < 0) := by omega
  simp only [h1, h2, if_false, show (1 : Int) > 0 by decide, if_true]
  congr 1
  · omega
  · congr 1; omega
set_option maxRecDepth 100000 in
theorem setItem_slice {l b sl : Addr} {items new : Array Value} {n n2 : Nat} {vl vu : Value} {a c : Nat} {Q : Unit → Shared → Prop}
    (e : s.heap.get? l = some { cls := .type "list", data := .seq items n }) (e2 : s.heap.get? b = some { cls := .type "list", data := .seq new n2 }) (hne : l ≠ b)
    (hs : s.heap.IsSliceOf sl vl vu .none) (pl : IsPart vl (some (a : Int))) (pu : IsPart vu (some (c : Int))) (hac : a ≤ c) (hc : c ≤ items.size)
    (hsz : items.size + new.size ≤ sizeLine) (h : Q () { s with heap := s.heap.update l (Obj.mapSeq fun xs => xs.extract 0 a ++ new ++ xs.extract c xs.size) }) :
    wpAny (model prog w) A (setItem (.ref l) (.ref sl) (.ref b)) Q E s := by
  have hl : s.heap.IsList l items := PySem.IsL.isList e
  have hb : s.heap.IsList b new := PySem.IsL.isList e2
  obtain ⟨os, hos, hcs, hds⟩ := id hs
  have hTs : s.TypeIs (.ref sl) "slice" := ⟨os, hos, hcs⟩
  have hstep : ¬ ((rawPart none == rawInt 0) = true) := Bool.false_ne_true
  have hsame : Builtin.List.listSameRef (.ref l) (.ref b) = false := by
    unfold Builtin.List.listSameRef
    exact beq_eq_false_iff_ne.mpr hne
  have hmax : (max (a : Int) (c : Int)).toNat = c := by omega
  have hz' : ((fun xs : Array Value => xs.extract 0 a ++ new ++ xs.extract c xs.size) items).size ≤ sizeLine + 1 := by
    simp only [Array.size_append, Array.size_extract]
    omega
  unfold setItem
  try with_reducible refine wpAny_holding ?_
  first | refine wpAny_bind (wpAny_pure ?_) | skip
  refine wpAny_bind (wpAny_sequenceKey hl.typeIs (by decide) ?_)
  refine wpAny_bind (wpAny_callSpecial?_slot (name := Str.ofString "__setitem__") hl.typeIs slot_list_setitem
    (wpAny_call_entry slot_list_setitem hl.typeIs entry_list_setitem ?_ (args_list_setitem _ _ _)))
  show wpAny _ _ (Builtin.List.listSubscript? (.ref sl) >>= _) _ _ s
  refine wpAny_bind ?_
  unfold Builtin.List.listSubscript?
  refine wpAny_bind (wpAny_specialOf hTs slice_no_index ?_)
  simp only [Option.isNone_none, if_true]
  refine wpAny_pure ?_
  show wpAny _ _ (typeOf (.ref sl) >>= _) _ _ s
  refine wpAny_bind (wpAny_typeOf hTs ?_)
  first
    | rw [if_neg (by decide)]
    | refine PySem.W.KFB.if_not (by decide) ?_
  rw [listSliceParts_eq]
  refine wpAny_bind (wpAny_bind (wpAny_field hos hds (x := .none) rfl (wpAny_bind (wpAny_listPart .none ?_))))
  rw [if_neg hstep]
  refine wpAny_bind (wpAny_field hos hds (x := vl) rfl (wpAny_bind (wpAny_listPart pl ?_)))
  refine wpAny_bind (wpAny_field hos hds (x := vu) rfl (wpAny_bind (wpAny_listPart pu (wpAny_pure ?_))))
  first
    | simp only [hsame, Bool.false_eq_true, if_false]
    | refine PySem.W.KFB.if_not hsame ?_
    | (dsimp only
       rw [if_neg (by rw [hsame]; exact Bool.false_ne_true)])
  refine wpAny_bind (m := Builtin.List.listAllItems (.ref b) "must assign iterable to extended slice") ?_
  unfold Builtin.List.listAllItems
  refine wpAny_bind (wpAny_typeOf hb.typeIs ?_)
  first
    | refine PySem.W.KFB.if_so (by decide) ?_
    | rw [if_pos (by decide)]
    | simp only [beq_self_eq_true, Bool.true_or, if_true]
  unfold Builtin.List.listItems
  refine wpAny_bind (wpAny_seqItems e2 rfl (wpAny_pure ?_))
  refine wpAny_bind (wpAny_bind (wpAny_seqItems e rfl (wpAny_pure ?_)))
  refine wpAny_bind (wpAny_of_eq ((sliceIndices_raw (some (a : Int)) (some (c : Int)) none items.size (by simp)).trans (congrArg (pure : Int × Int × Int → Sem (Int × Int × Int)) (bounds_run hac hc))) ?_)
  show wpAny _ _ (if ((1 : Int) == 1) = true then _ else _) _ _ s
  rw [if_pos (by decide)]
  refine wpAny_bind (wpAny_rule ?_)
  first
    | simp only [notLongL hsz, Bool.false_eq_true, if_false]
    | refine PySem.W.KFB.if_not (notLongL hsz) ?_
  first | refine wpAny_bind (wpAny_pure ?_) | skip
  show wpAny _ _ (updateSeq l (fun xs => xs.extract 0 ((a : Int)).toNat ++ new ++ xs.extract (max (a : Int) (c : Int)).toNat xs.size) >>= _) _ _ s
  rw [hmax, Int.toNat_natCast]
  refine wpAny_bind (wpAny_updateSeq (hz := Nat.le_trans (Nat.le_add_right _ _) hsz) (_hz' := hz') e rfl ?_)
  refine wpAny_bind (wpAny_letGo ?_)
  first
    | exact wpAny_bind (wpAny_pure (wpAny_pure ⟨.none, rfl, wpAny_pure h⟩))
    | exact wpAny_pure ⟨.none, rfl, wpAny_pure h⟩
end
section
variable {X : Cx}
theorem set_slice {pins : List (Addr × Obj)} {s : Shared} {σ : St} {H : Hp} {l b sl : Addr} {xs ys : List V} {a c : Int} {vl vu : Value} {Q : Unit → Shared → Prop} (I : Inv X pins σ H s)
    (hH : H l = some (.lst xs)) (hB : H b = some (.lst ys)) (hne : l ≠ b) (hs : s.heap.IsSliceOf sl vl vu .none) (ra : RelV (.int a) vl) (rc : RelV (.int c) vu) (h0 : 0 ≤ a) (hac : a ≤ c) (hc : c ≤ xs.length)
    (hz : xs.length + ys.length ≤ sizeLine) (h : ∀ s', Inv X pins σ (upd H l (.lst (xs.take a.toNat ++ ys ++ xs.drop c.toNat))) s' → Q () s') :
    wpAny (model X.prog X.w) X.A (setItem (.ref l) (.ref sl) (.ref b)) Q X.xe s := by
  obtain ⟨ta, rfl⟩ := ra
  obtain ⟨tc, rfl⟩ := rc
  obtain ⟨z, its, n, r, hl, e⟩ := I.lstM hH
  obtain ⟨z2, its2, n2, r2, hl2, e2⟩ := I.lstM hB
  obtain ⟨a', rfl⟩ := Int.eq_ofNat_of_zero_le h0
  obtain ⟨c', rfl⟩ := Int.eq_ofNat_of_zero_le (Int.le_trans h0 hac)
  simp only [Int.toNat_natCast] at h
  refine setItem_slice (a := a') (c := c') e e2 hne hs (.int _ _) (.int _ _) (by omega) (by rw [List.size_toArray]; omega) (by rw [List.size_toArray, List.size_toArray]; omega) (h _ ?_)
  refine I.lset (its' := its.take a' ++ its2 ++ its.drop c') (t' := s.toks) hH e ?_ (Vals.append (Vals.append (r.take _) r2) (r.drop _)) ?_
  · exact splice_eq its its2 a' c'
  · rw [List.length_append, List.length_append, List.length_take, List.length_drop]
    omega
end
end L2
namespace L2
open PySem PySem.Spec PyProof.Rows
section
variable {κ : Type} [DecidableEq κ]
def valV (kvs : List (κ × V)) (k : κ) : Option V := (kvs.find? fun kv => decide (kv.1 = k)).map (·.2)
def putK (kvs : List (κ × V)) (k : κ) (v : V) : List (κ × V) :=
  if (kvs.any fun kv => decide (kv.1 = k)) = true then kvs.map (fun kv => if kv.1 = k then (kv.1, v) else kv) else kvs ++ [(k, v)]
def dropK (kvs : List (κ × V)) (k : κ) : List (κ × V) := kvs.filter fun kv => decide (kv.1 ≠ k)
theorem valV_nil {k : κ} : valV ([] : List (κ × V)) k = none := rfl
theorem valV_pos {p : κ × V} {r : List (κ × V)} {k : κ} (e : p.1 = k) : valV (p :: r) k = some p.2 := by simp [valV, List.find?_cons, e]
theorem valV_neg {p : κ × V} {r : List (κ × V)} {k : κ} (e : ¬ p.1 = k) : valV (p :: r) k = valV r k := by simp [valV, List.find?_cons, e]
theorem valV_any (k : κ) : ∀ kvs : List (κ × V), (kvs.any fun kv => decide (kv.1 = k)) = (valV kvs k).isSome
  | [] => rfl
  | p :: r => by
    rw [List.any_cons]
    by_cases e : p.1 = k
    · simp only [valV_pos e, decide_eq_true e, Bool.true_or, Option.isSome_some]
    · rw [valV_neg e, decide_eq_false e, Bool.false_or]; exact valV_any k r
theorem valV_map (k j : κ) (y : V) : ∀ kvs : List (κ × V), valV (kvs.map fun kv => if kv.1 = k then (kv.1, y) else kv) j = (valV kvs j).map fun x => if j = k then y else x
  | [] => rfl
  | p :: r => by
    have ih := valV_map k j y r
    rw [List.map_cons]
    by_cases h : p.1 = k
    · rw [if_pos h]
      by_cases e : p.1 = j
      · rw [valV_pos (p := (p.1, y)) e, valV_pos e, Option.map_some, if_pos (e.symm.trans h)]
      · rw [valV_neg (p := (p.1, y)) e, valV_neg e, ih]
    · rw [if_neg h]
      by_cases e : p.1 = j
      · rw [valV_pos (p := p) e, valV_pos e, Option.map_some, if_neg (fun z => h (e.trans z))]
      · rw [valV_neg (p := p) e, valV_neg e, ih]
theorem valV_snoc (k j : κ) (y : V) : ∀ kvs : List (κ × V), valV kvs k = none → valV (kvs ++ [(k, y)]) j = if j = k then some y else valV kvs j
  | [], _ => by
    by_cases e : k = j
    · rw [if_pos e.symm]; exact valV_pos (p := (k, y)) e
    · rw [if_neg (fun z => e z.symm)]; exact valV_neg (p := (k, y)) e
  | p :: r, hn => by
    rw [List.cons_append]
    have hk : ¬ p.1 = k := fun z => by rw [valV_pos z] at hn; cases hn
    rw [valV_neg hk] at hn
    have ih := valV_snoc k j y r hn
    by_cases e : p.1 = j
    · rw [valV_pos e, valV_pos e, if_neg (fun z => hk (e.trans z))]
    · rw [valV_neg e, valV_neg e, ih]
theorem valV_put (kvs : List (κ × V)) (k j : κ) (y : V) : valV (putK kvs k y) j = if j = k then some y else valV kvs j := by
  unfold putK
  by_cases a : (kvs.any fun kv => decide (kv.1 = k)) = true
  · rw [if_pos a, valV_map]
    rw [valV_any] at a
    by_cases e : j = k
    · obtain ⟨x, hx⟩ := Option.isSome_iff_exists.mp a
      rw [if_pos e, e, hx, Option.map_some, if_pos rfl]
    · rw [if_neg e]
      cases valV kvs j with
      | none => rfl
      | some x => rw [Option.map_some, if_neg e]
  · rw [if_neg a]
    refine valV_snoc k j y kvs ?_
    rw [valV_any] at a
    cases q : valV kvs k with
    | none => rfl
    | some x => rw [q] at a; exact (a rfl).elim
theorem length_putK (kvs : List (κ × V)) (k : κ) (v : V) : (putK kvs k v).length ≤ kvs.length + 1 := by
  unfold putK
  split
  · rw [List.length_map]; omega
  · rw [List.length_append, List.length_cons, List.length_nil]; omega
theorem putK_new {kvs : List (κ × V)} {k : κ} (v : V) (h : valV kvs k = none) : putK kvs k v = kvs ++ [(k, v)] := by
  unfold putK
  rw [valV_any, h]
  exact if_neg (by decide)
theorem RelO.isSome_eq {o : Option V} {u : Option Value} (r : RelO o u) : o.isSome = u.isSome := by
  cases o with
  | none => cases u with
    | none => rfl
    | some _ => exact (show False from r).elim
  | some _ => cases u with
    | none => exact (show False from r).elim
    | some _ => rfl
theorem RelO.getD {o : Option V} {u : Option Value} {d : V} {d' : Value} (r : RelO o u) (rd : RelV d d') : RelV (o.getD d) (u.getD d') := by
  cases o with
  | none => cases u with
    | none => exact rd
    | some _ => exact (show False from r).elim
  | some _ => cases u with
    | none => exact (show False from r).elim
    | some _ => exact r
theorem KV.val {kvs : List (κ × V)} {vs : List (κ × Value)} (r : KV kvs vs) (k : κ) : RelO (valV kvs k) (valueAt vs k) := by
  unfold KV at r
  induction r with
  | nil => exact True.intro
  | @cons p q ps qs h t ih =>
    obtain ⟨h1, h2⟩ := h
    by_cases e : p.1 = k
    · have e' : q.1 = k := h1.symm.trans e
      have b : valueAt (q :: qs) k = some q.2 := by simp [valueAt, List.find?_cons, e']
      rw [valV_pos e, b]; exact h2
    · have e' : ¬ q.1 = k := fun z => e (h1.trans z)
      have b : valueAt (q :: qs) k = valueAt qs k := by simp [valueAt, List.find?_cons, e']
      rw [valV_neg e, b]; exact ih
theorem KV.any {kvs : List (κ × V)} {vs : List (κ × Value)} (r : KV kvs vs) (k : κ) : (kvs.any fun kv => decide (kv.1 = k)) = vs.any fun kv => decide (kv.1 = k) := by
  unfold KV at r
  induction r with
  | nil => rfl
  | cons h t ih => rw [List.any_cons, List.any_cons, ih, h.1]
theorem KV.repl {kvs : List (κ × V)} {vs : List (κ × Value)} (r : KV kvs vs) (k : κ) {y : V} {u : Value} (ry : RelV y u) :
    KV (kvs.map fun kv => if kv.1 = k then (kv.1, y) else kv) (vs.map fun kv => if kv.1 = k then (kv.1, u) else kv) := by
  unfold KV at r ⊢
  induction r with
  | nil => exact .nil
  | @cons p q ps qs h t ih =>
    rw [List.map_cons, List.map_cons]
    refine .cons ?_ ih
    obtain ⟨h1, h2⟩ := h
    by_cases e : p.1 = k
    · rw [if_pos e, if_pos (h1.symm.trans e)]; exact ⟨h1, ry⟩
    · rw [if_neg e, if_neg (fun z => e (h1.trans z))]; exact ⟨h1, h2⟩
theorem KV.put {kvs : List (κ × V)} {vs : List (κ × Value)} (r : KV kvs vs) (k : κ) {y : V} {u : Value} (ry : RelV y u) : KV (putK kvs k y) (stored vs k u) := by
  unfold putK stored
  rw [r.any k]
  by_cases e : (vs.any fun kv => decide (kv.1 = k)) = true
  · rw [if_pos e, if_pos e]; exact r.repl k ry
  · rw [if_neg e, if_neg e]; exact Paired.snoc r ⟨rfl, ry⟩
theorem KV.drop {kvs : List (κ × V)} {vs : List (κ × Value)} (r : KV kvs vs) (k : κ) : KV (dropK kvs k) (without vs k) := by
  unfold KV at r ⊢
  unfold dropK without
  induction r with
  | nil => exact .nil
  | @cons p q ps qs h t ih =>
    obtain ⟨h1, h2⟩ := h
    rw [List.filter_cons, List.filter_cons]
    by_cases e : p.1 = k
    · have a : ¬ decide (p.1 ≠ k) = true := by simp [e]
      have b : ¬ decide (q.1 ≠ k) = true := by simp [h1.symm.trans e]
      rw [if_neg a, if_neg b]; exact ih
    · have e' : ¬ q.1 = k := fun z => e (h1.trans z)
      have a : decide (p.1 ≠ k) = true := by simp [e]
      have b : decide (q.1 ≠ k) = true := by simp [e']
      rw [if_pos a, if_pos b]; exact .cons ⟨h1, h2⟩ ih
theorem KV.keys {kvs : List (κ × V)} {vs : List (κ × Value)} (r : KV kvs vs) : kvs.map (·.1) = vs.map (·.1) := by
  unfold KV at r
  induction r with
  | nil => rfl
  | cons h t ih => rw [List.map_cons, List.map_cons, ih, h.1]
theorem KV.length {kvs : List (κ × V)} {vs : List (κ × Value)} (r : KV kvs vs) : kvs.length = vs.length := Paired.length r
theorem dropK_le (kvs : List (κ × V)) (k : κ) : (dropK kvs k).length ≤ kvs.length := List.length_filter_le _ _
end
theorem kV_is {P : Program} {w : World} {k : Key} {u : Value} (r : RelV (kV k) u) : (mixKind P w).is k u = true := by
  cases k with
  | inl i => obtain ⟨t, e⟩ := (show ∃ t, u = Value.int i t from r); subst e; exact mixKind_int P w i t
  | inr x => obtain ⟨t, e⟩ := (show ∃ t, u = Value.str x t from r); subst e; exact mixKind_str P w x t
theorem kV_inj {a b : Key} (e : kV a = kV b) : a = b := by
  cases a with
  | inl i => cases b with
    | inl j => have e' : V.int i = V.int j := e; injection e' with e'; rw [e']
    | inr y => exact nomatch (show V.int i = V.str y from e)
  | inr x => cases b with
    | inl j => exact nomatch (show V.str x = V.int j from e)
    | inr y => have e' : V.str x = V.str y := e; injection e' with e'; rw [e']
theorem kVs_inj : ∀ {a b : List Key}, a.map kV = b.map kV → a = b
  | [], [], _ => rfl
  | [], _ :: _, e => by simp at e
  | _ :: _, [], e => by simp at e
  | x :: xs, y :: ys, e => by
    rw [List.map_cons, List.map_cons] at e
    injection e with e1 e2
    rw [kV_inj e1, kVs_inj e2]
theorem items_are {P : Program} {w : World} : ∀ {ks : List Key} {us : List Value}, Vals (ks.map kV) us → ItemsAre (mixKind P w) ks us
  | [], _, r => by rw [List.map_nil] at r; cases r; exact .nil
  | k :: ks, _, r => by
    rw [List.map_cons] at r
    cases r with
    | cons h t => exact .cons (kV_is h) (items_are t)
abbrev KT (H : Hp) : List (List Key × V) → List (List Key × Addr × Value) → Prop := Paired fun p q => p.1 = q.1 ∧ H q.2.1 = some (.tup (p.1.map kV)) ∧ RelV p.2 q.2.2
theorem KT.val {H : Hp} {kvs : List (List Key × V)} {xs : List (List Key × Addr × Value)} (r : KT H kvs xs) (k : List Key) : RelO (valV kvs k) ((atKey xs k).map (·.2)) := by
  induction r with
  | nil => exact True.intro
  | @cons p q ps qs h t ih =>
    obtain ⟨h1, _, h2⟩ := h
    by_cases e : p.1 = k
    · have e' : q.1 = k := h1.symm.trans e
      have b : atKey (q :: qs) k = some q.2 := by simp [atKey, List.find?_cons, e']
      rw [valV_pos e, b]; exact h2
    · have e' : ¬ q.1 = k := fun z => e (h1.trans z)
      have b : atKey (q :: qs) k = atKey qs k := by simp [atKey, List.find?_cons, e']
      rw [valV_neg e, b]; exact ih
theorem KT.repl {H : Hp} {kvs : List (List Key × V)} {xs : List (List Key × Addr × Value)} (r : KT H kvs xs) (k : List Key) {y : V} {u : Value} (ry : RelV y u) :
    KT H (kvs.map fun kv => if kv.1 = k then (kv.1, y) else kv) (xs.map (putAt k u)) := by
  induction r with
  | nil => exact .nil
  | @cons p q ps qs h t ih =>
    rw [List.map_cons, List.map_cons]
    refine .cons ?_ ih
    obtain ⟨h1, h2, h3⟩ := h
    unfold putAt
    by_cases e : p.1 = k
    · rw [if_pos e, if_pos (h1.symm.trans e)]; exact ⟨h1, h2, ry⟩
    · rw [if_neg e, if_neg (fun z => e (h1.trans z))]; exact ⟨h1, h2, h3⟩
theorem KT.put {H : Hp} {kvs : List (List Key × V)} {xs : List (List Key × Addr × Value)} (r : KT H kvs xs) (k : List Key) {b : Addr} {y : V} {u : Value} (hb : H b = some (.tup (k.map kV))) (ry : RelV y u) :
    KT H (putK kvs k y) (storedH xs k b u) := by
  have e : (kvs.any fun kv => decide (kv.1 = k)) = (atKey xs k).isSome := by
    rw [valV_any, (r.val k).isSome_eq, Option.isSome_map]
  unfold putK storedH
  rw [e]
  by_cases q : (atKey xs k).isSome = true
  · rw [if_pos q, if_pos q]; exact r.repl k ry
  · rw [if_neg q, if_neg q]; exact Paired.snoc r ⟨rfl, hb, ry⟩
theorem KT.keeps {H H' : Hp} {kvs : List (List Key × V)} {xs : List (List Key × Addr × Value)} (r : KT H kvs xs) (ht : ∀ b ys, H b = some (.tup ys) → H' b = some (.tup ys)) : KT H' kvs xs :=
  Paired.mapP r fun _ _ z => ⟨z.1, ht _ _ z.2.1, z.2.2⟩
section
variable {P : Program} {w : World} {H : Hp} {h : Heap} {a : Addr}
theorem rd_of {u : HO} (ok : HOk P w H h) (e : Rd H a u) : ObjOk P w H h a u := e.ok ok
theorem dk_rd {kvs : List (Key × V)} (ok : HOk P w H h) (e : Rd H a (.dK kvs)) : kvs.length ≤ sizeLine ∧ (a == sysModules) = false ∧ ∃ vs, KV kvs vs ∧ h.DictOf (mixKind P w) a vs :=
  show ObjOk P w H h a (.dK kvs) from rd_of ok e
theorem dk_of {kvs : List (Key × V)} (ok : HOk P w H h) (e : H a = some (.dK kvs)) : kvs.length ≤ sizeLine ∧ (a == sysModules) = false ∧ ∃ vs, KV kvs vs ∧ h.DictOf (mixKind P w) a vs := dk_rd ok (.inl e)
theorem key_of {ks : List Key} (ok : HOk P w H h) (e : H a = some (.tup (ks.map kV))) : (tupleKind (mixKind P w)).is h ks a := by
  obtain ⟨_, its, r, o, h1, h2, n, h3⟩ := (show ObjOk P w H h a (.tup (ks.map kV)) from ok a _ e)
  exact ⟨o, its.toArray, n, h1, h2, h3, by simpa using items_are r⟩
theorem dt_rd {kvs : List (List Key × V)} (ok : HOk P w H h) (e : Rd H a (.dT kvs)) : kvs.length ≤ sizeLine ∧ (a == sysModules) = false ∧
    ∃ xs, KT H kvs xs ∧ h.DictOfH (tupleKind (mixKind P w)) a xs := by
  obtain ⟨z, y, xs, r, o, es, ep, h1, h2, h3, h4, h5⟩ := (show ObjOk P w H h a (.dT kvs) from rd_of ok e)
  refine ⟨z, y, xs, r, o, es, ep, h1, h2, h3, h4, fun x hx => ?_, h5⟩
  have all : ∀ {l : List (List Key × V)} {m : List (List Key × Addr × Value)}, KT H l m → ∀ x ∈ m, (tupleKind (mixKind P w)).is h x.1 x.2.1 := by
    intro l m q
    induction q with
    | nil => intro x hx; exact nomatch hx
    | @cons p q ps qs hq t ih =>
      intro x hx
      rcases List.mem_cons.mp hx with e | hx
      · subst e
        exact key_of ok (by rw [← hq.1]; exact hq.2.1)
      · exact ih x hx
  exact all r x hx
theorem dt_of {kvs : List (List Key × V)} (ok : HOk P w H h) (e : H a = some (.dT kvs)) : kvs.length ≤ sizeLine ∧ (a == sysModules) = false ∧
    ∃ xs, KT H kvs xs ∧ h.DictOfH (tupleKind (mixKind P w)) a xs := dt_rd ok (.inl e)
end
def DGet (H : Hp) (a : Addr) (y : V) (r : Option V) : Prop :=
  (∃ kvs k, Rd H a (.dK kvs) ∧ y = kV k ∧ r = valV kvs k) ∨ ∃ kvs k b, Rd H a (.dT kvs) ∧ y = .ref b ∧ H b = some (.tup (k.map kV)) ∧ r = valV kvs k
def DPut (H : Hp) (a : Addr) (y v : V) (H' : Hp) : Prop :=
  (∃ kvs k, H a = some (.dK kvs) ∧ y = kV k ∧ kvs.length < sizeLine ∧ H' = upd H a (.dK (putK kvs k v))) ∨
  ∃ kvs k b, H a = some (.dT kvs) ∧ y = .ref b ∧ H b = some (.tup (k.map kV)) ∧ kvs.length < sizeLine ∧ H' = upd H a (.dT (putK kvs k v))
theorem DGet.k {H : Hp} {a : Addr} {kvs : List (Key × V)} {k : Key} (e : H a = some (.dK kvs)) : DGet H a (kV k) (valV kvs k) := .inl ⟨kvs, k, .inl e, rfl, rfl⟩
theorem DGet.t {H : Hp} {a b : Addr} {kvs : List (List Key × V)} {k : List Key} (e : H a = some (.dT kvs)) (eb : H b = some (.tup (k.map kV))) : DGet H a (.ref b) (valV kvs k) := .inr ⟨kvs, k, b, .inl e, rfl, eb, rfl⟩
theorem DPut.k {H : Hp} {a : Addr} {kvs : List (Key × V)} {k : Key} {v : V} (e : H a = some (.dK kvs)) (hl : kvs.length < sizeLine) : DPut H a (kV k) v (upd H a (.dK (putK kvs k v))) := .inl ⟨kvs, k, e, rfl, hl, rfl⟩
theorem DPut.t {H : Hp} {a b : Addr} {kvs : List (List Key × V)} {k : List Key} {v : V} (e : H a = some (.dT kvs)) (eb : H b = some (.tup (k.map kV))) (hl : kvs.length < sizeLine) :
    DPut H a (.ref b) v (upd H a (.dT (putK kvs k v))) := .inr ⟨kvs, k, b, e, rfl, eb, hl, rfl⟩
section
variable {X : Cx} {pins : List (Addr × Obj)} {σ : St} {H : Hp} {s : Shared} {a : Addr} {y v : V} {u r : Value} {o : Option V} {A : Around} {E : Value → Shared → Prop}
theorem Inv.big (I : Inv X pins σ H s) : sysModules < s.heap.objs.size := by
  have h : mainGlobals < s.heap.objs.size := (I.mod.glob.keeps I.bk).lt
  exact Nat.lt_trans (by decide) h
theorem d_getItem {Q : Value → Shared → Prop} (hu : A.units + 1 < cLine) (I : Inv X pins σ H s) (g : DGet H a y (some v)) (ry : RelV y u) (h : ∀ w' s', Inv X pins σ H s' → RelV v w' → Q w' s') :
    wpAny (model X.prog X.w) A (getItem (.ref a) u) Q E s := by
  rcases g with ⟨kvs, k, e, ey, l⟩ | ⟨kvs, k, b, e, ey, eb, l⟩
  · subst ey
    obtain ⟨z, hd, vs, rel, dd⟩ := dk_rd I.hok e
    obtain ⟨w', hw, rw'⟩ := RelO.some_of (v := v) (o := valueAt vs k) (by rw [l]; exact rel.val k)
    exact wpAny_getItem_of (kV_is ry) dd.mapOf hw (h w' _ (I.tok _) rw')
  · subst ey
    cases (show u = Value.ref b from ry)
    obtain ⟨z, hd, xs, rel, dd⟩ := dt_rd I.hok e
    obtain ⟨w', hw, rw'⟩ := RelO.some_of (v := v) (o := (atKey xs k).map (·.2)) (by rw [l]; exact rel.val k)
    obtain ⟨p, hp, hp2⟩ := Option.map_eq_some_iff.mp hw
    refine wpAny_getItem_heap (tupleKind_room_in1 hu) (key_of I.hok eb) dd hp ?_
    rw [hp2]
    exact h w' _ (I.tok _) rw'
theorem d_in {Q : Value → Shared → Prop} (hu : A.units + 1 < cLine) (I : Inv X pins σ H s) (g : DGet H a y o) (ry : RelV y u) (h : ∀ s', Inv X pins σ H s' → Q (.bool o.isSome) s') :
    wpAny (model X.prog X.w) A (compareOp .In u (.ref a)) Q E s := by
  rcases g with ⟨kvs, k, e, ey, l⟩ | ⟨kvs, k, b, e, ey, eb, l⟩
  · subst ey
    obtain ⟨z, hd, vs, rel, dd⟩ := dk_rd I.hok e
    refine wpAny_in_of (kV_is ry) hd dd.mapOf ?_
    rw [← (rel.val k).isSome_eq, ← l]
    exact h _ (I.tok _)
  · subst ey
    cases (show u = Value.ref b from ry)
    obtain ⟨z, hd, xs, rel, dd⟩ := dt_rd I.hok e
    refine wpAny_in_heap (tupleKind_room_in1 hu) (key_of I.hok eb) hd dd ?_
    have q := (rel.val k).isSome_eq
    rw [Option.isSome_map] at q
    rw [← q, ← l]
    exact h _ (I.tok _)
theorem d_notIn {Q : Value → Shared → Prop} (hu : A.units + 1 < cLine) (I : Inv X pins σ H s) (g : DGet H a y o) (ry : RelV y u) (h : ∀ s', Inv X pins σ H s' → Q (.bool (!o.isSome)) s') :
    wpAny (model X.prog X.w) A (compareOp .NotIn u (.ref a)) Q E s := by
  rcases g with ⟨kvs, k, e, ey, l⟩ | ⟨kvs, k, b, e, ey, eb, l⟩
  · subst ey
    obtain ⟨z, hd, vs, rel, dd⟩ := dk_rd I.hok e
    refine wpAny_notIn_of (kV_is ry) hd dd.mapOf ?_
    rw [← (rel.val k).isSome_eq, ← l]
    exact h _ (I.tok _)
  · subst ey
    cases (show u = Value.ref b from ry)
    obtain ⟨z, hd, xs, rel, dd⟩ := dt_rd I.hok e
    refine wpAny_notIn_heap (tupleKind_room_in1 hu) (key_of I.hok eb) hd dd ?_
    have q := (rel.val k).isSome_eq
    rw [Option.isSome_map] at q
    rw [← q, ← l]
    exact h _ (I.tok _)
theorem d_write {h' : Heap} {t' : Nat} {ob : HO} (I : Inv X pins σ H s) (mu : Mut (H a)) (hs : Heap.SameBut a s.heap h') (he : ∃ q, h'.get? a = some q) (new : ObjOk X.prog X.w (upd H a ob) h' a ob) :
    Inv X pins σ (upd H a ob) { s with heap := h', toks := t' } :=
  I.write (x := a) (e := a) mu (.inl rfl) (fun b q hb z => (hs.2 b hb).trans z) he new
theorem dk_new {P : Program} {w : World} {H' : Hp} {h' : Heap} {kvs : List (Key × V)} {vs : List (Key × Value)} (z : kvs.length ≤ sizeLine) (hd : (a == sysModules) = false) (rel : KV kvs vs) (dd : h'.DictOf (mixKind P w) a vs) :
    ObjOk P w H' h' a (.dK kvs) := ⟨z, hd, vs, rel, dd⟩
theorem d_setItem {H' : Hp} {Q : Unit → Shared → Prop} (hu : A.units + 1 < cLine) (I : Inv X pins σ H s) (g : DPut H a y v H') (ry : RelV y u) (rv : RelV v r) (h : ∀ s', Inv X pins σ H' s' → Q () s') :
    wpAny (model X.prog X.w) A (setItem (.ref a) u r) Q E s := by
  rcases g with ⟨kvs, k, e, ey, l, eH⟩ | ⟨kvs, k, b, e, ey, eb, l, eH⟩
  · subst ey eH
    obtain ⟨z, hd, vs, rel, dd⟩ := dk_of I.hok e
    have hz : vs.length ≤ sizeLine := by rw [← rel.length]; exact z
    have hl : (putK kvs k v).length ≤ sizeLine := by have := length_putK kvs k v; omega
    refine wpAny_setItem_pairs (hsz := hz) (kV_is ry) dd fun h' dd' hs => h _ ?_
    have he : ∃ q, h'.get? a = some q := let ⟨q, _, _, hq, _⟩ := dd'; ⟨q, hq⟩
    exact d_write I (by rw [e]; exact True.intro) hs he (dk_new hl hd (rel.put k rv) dd')
  · subst ey eH
    cases (show u = Value.ref b from ry)
    obtain ⟨z, hd, xs, rel, dd⟩ := dt_of I.hok e
    have hz : xs.length ≤ sizeLine := by rw [← Paired.length rel]; exact z
    have hl : (putK kvs k v).length ≤ sizeLine := by have := length_putK kvs k v; omega
    refine wpAny_setItem_heap (hsz := hz) (tupleKind_room_in1 hu) (key_of I.hok eb) dd fun h' dd' hs => h _ ?_
    obtain ⟨q, es, ep, hq, h2, h3, h4, _, h5⟩ := dd'
    refine d_write I (by rw [e]; exact True.intro) hs ⟨q, hq⟩ ⟨hl, hd, _, (rel.put k eb rv).keeps fun c ys ec => ?_, q, es, ep, hq, h2, h3, h4, h5⟩
    rw [upd_ne (ne_of ec e (fun z => nomatch z))]
    exact ec
end
section
variable {X : Cx} {pins : List (Addr × Obj)} {σ : St} {H : Hp} {s : Shared} {a : Addr} {kvs : List (Key × V)} {k : Key} {u : Value} {A : Around} {E : Value → Shared → Prop}
theorem d_delItem {Q : Unit → Shared → Prop} (I : Inv X pins σ H s) (e : H a = some (.dK kvs)) (ry : RelV (kV k) u) (l : (valV kvs k).isSome = true) (h : ∀ s', Inv X pins σ (upd H a (.dK (dropK kvs k))) s' → Q () s') :
    wpAny (model X.prog X.w) A (delItem (.ref a) u) Q E s := by
  obtain ⟨z, hd, vs, rel, dd⟩ := dk_of I.hok e
  refine wpAny_delItem_slot dd.typeIs (by decide) PySem.F.slot_dict_delitem
    (call_meetsIn PySem.F.slot_dict_delitem dd.typeIs PySem.F.entry_dict_delitem (PySem.F.args_dict_delitem_2 _ _) (meets_dict_delitem_pairs (mixKind X.prog X.w) a (kV_is ry)) ⟨vs, dd, by rw [← rel.length]; exact z, by rw [← (rel.val k).isSome_eq]; exact l, fun h' dd' hs => h _ ?_⟩)
  have he : ∃ q, h'.get? a = some q := let ⟨q, _, _, hq, _⟩ := dd'; ⟨q, hq⟩
  exact d_write I (by rw [e]; exact True.intro) hs he (dk_new (Nat.le_trans (dropK_le kvs k) z) hd (rel.drop k) dd')
theorem d_pop {v : V} {more : List Value} {Q : Value → Shared → Prop} (I : Inv X pins σ H s) (e : H a = some (.dK kvs)) (ry : RelV (kV k) u) (l : valV kvs k = some v) (hm : more = [] ∨ ∃ x, more = [x])
    (h : ∀ w' s', Inv X pins σ (upd H a (.dK (dropK kvs k))) s' → RelV v w' → Q w' s') : wpAny (model X.prog X.w) A (call (.builtin "dict.pop") (.ref a :: u :: more)) Q E s := by
  obtain ⟨z, hd, vs, rel, dd⟩ := dk_of I.hok e
  obtain ⟨w', hw, rw'⟩ := RelO.some_of (v := v) (o := valueAt vs k) (by rw [← l]; exact rel.val k)
  have hp : (keyPart u).isSome = true := by
    cases k with
    | inl i => obtain ⟨t, q⟩ := (show ∃ t, u = Value.int i t from ry); subst q; rfl
    | inr x => obtain ⟨t, q⟩ := (show ∃ t, u = Value.str x t from ry); subst q; rfl
  have ha : argsOk "dict.pop" ⟨.ref a :: u :: more, []⟩ := by
    rcases hm with q | ⟨x, q⟩
    · subst q; exact PySem.F.args_dict_pop_2 _ _
    · subst q; exact PySem.F.args_dict_pop_3 _ _ _
  refine call_meetsIn PySem.F.slot_dict_pop dd.typeIs PySem.F.entry_dict_pop ha (meets_dict_pop_there (mixKind X.prog X.w) a (kV_is ry) more hm hp)
    ⟨vs, w', dd, by rw [← rel.length]; exact z, hw, fun h' dd' hs => h w' _ ?_ rw'⟩
  have he : ∃ q, h'.get? a = some q := let ⟨q, _, _, hq, _⟩ := dd'; ⟨q, hq⟩
  exact d_write I (by rw [e]; exact True.intro) hs he (dk_new (Nat.le_trans (dropK_le kvs k) z) hd (rel.drop k) dd')
theorem d_popD {r : Value} {Q : Value → Shared → Prop} (I : Inv X pins σ H s) (e : H a = some (.dK kvs)) (ry : RelV (kV k) u) (l : valV kvs k = none) (h : ∀ s', Inv X pins σ H s' → Q r s') :
    wpAny (model X.prog X.w) A (call (.builtin "dict.pop") [.ref a, u, r]) Q E s := by
  obtain ⟨z, hd, vs, rel, dd⟩ := dk_of I.hok e
  have hn : valueAt vs k = none := RelO.none_of (by rw [← l]; exact rel.val k)
  have hp : (keyPart u).isSome = true := by
    cases k with
    | inl i => obtain ⟨t, q⟩ := (show ∃ t, u = Value.int i t from ry); subst q; rfl
    | inr x => obtain ⟨t, q⟩ := (show ∃ t, u = Value.str x t from ry); subst q; rfl
  exact call_meetsIn PySem.F.slot_dict_pop dd.typeIs PySem.F.entry_dict_pop (PySem.F.args_dict_pop_3 _ _ _) (meets_dict_pop_default (mixKind X.prog X.w) a (kV_is ry) hd hp r) ⟨vs, dd, hn, h _ (I.tok _)⟩
theorem d_clear {Q : Value → Shared → Prop} (I : Inv X pins σ H s) (e : H a = some (.dK kvs)) (h : ∀ s', Inv X pins σ (upd H a (.dK [])) s' → Q .none s') : wpAny (model X.prog X.w) A (call (.builtin "dict.clear") [.ref a]) Q E s := by
  obtain ⟨z, hd, vs, rel, dd⟩ := dk_of I.hok e
  refine call_meetsIn PySem.F.slot_dict_clear dd.typeIs PySem.F.entry_dict_clear (PySem.F.args_dict_clear_1 _) (meets_dict_clear (mixKind X.prog X.w) a) ⟨vs, dd, by rw [← rel.length]; exact z, fun h' dd' hs => h _ ?_⟩
  have he : ∃ q, h'.get? a = some q := let ⟨q, _, _, hq, _⟩ := dd'; ⟨q, hq⟩
  exact d_write (t' := s.toks) I (by rw [e]; exact True.intro) hs he (dk_new (Nat.zero_le _) hd .nil dd')
theorem d_len {Q : Value → Shared → Prop} (I : Inv X pins σ H s) (e : Rd H a (.dK kvs)) (h : ∀ t s', Inv X pins σ H s' → Q (.int kvs.length t) s') : wpAny (model X.prog X.w) A (call (.builtin "len") [.ref a]) Q E s := by
  obtain ⟨z, hd, vs, rel, dd⟩ := dk_rd I.hok e
  refine call_len_dict hd dd (by rw [← rel.length]; rw [sizeLine_eq] at z; omega) ?_
  rw [← rel.length]
  exact h _ _ (I.tok _)
theorem d_truth {Q : Bool → Shared → Prop} (I : Inv X pins σ H s) (e : Rd H a (.dK kvs)) (h : ∀ s', Inv X pins σ H s' → Q (!kvs.isEmpty) s') : wpAny (model X.prog X.w) A (truthy (.ref a)) Q E s := by
  obtain ⟨z, hd, vs, rel, dd⟩ := dk_rd I.hok e
  refine wpAny_truthy_dict hd dd (by rw [← rel.length]; rw [sizeLine_eq] at z; omega) ?_
  have q : kvs.isEmpty = vs.isEmpty := by cases rel <;> rfl
  rw [← q]
  exact h _ (I.tok _)
end
def NoSl (i : Expr) : Prop := ∀ ov iv, subscripted i false ov iv = operate [ov, iv] (getItem ov iv)
theorem subD_of {prog : Program} {w : World} {A : Around} {E : Value → Shared → Prop} {s : Shared} {env : Env} {value slice : Expr} {pos : Pos} {T id : String} {Q : Value → Shared → Prop}
    (hl : typeLookup (.type T) "__getitem__" = pure (some (.builtin id))) (hs : NoSl slice)
    (h : wpAny (model prog w) A (eval value env) (fun o s₁ => wpAny (model prog w) A (eval slice env) (fun i s₂ => s₂.TypeIs o T ∧ wpAny (model prog w) A (getItem o i) Q E s₂) E s₁) E s) :
    wpAny (model prog w) A (eval (.Subscript value slice pos) env) Q E s := by
  refine Subscript_ (wpAny_mono h (fun o s₁ h₁ => wpAny_mono h₁ (fun i s₂ h₂ => ?_) fun _ _ x => x) fun _ _ x => x)
  obtain ⟨hT, h₂⟩ := h₂
  unfold subscriptTail
  refine wpAny_bind ?_
  rw [getitemInPython_of_ne hT.not_modules]
  refine wpAny_bind (wpAny_specialOf hT hl ?_)
  have fin : wpAny (model prog w) A (subscripted slice false o i) (fun r s₃ => wpAny (model prog w) A (letTemporaryGo value o r >>= fun _ => pure r) Q E s₃) E s₂ := by
    rw [hs o i]
    exact wpAny_operating (wpAny_mono h₂ (fun r s₃ h₃ => wpAny_bind (wpAny_letTemporaryGo (wpAny_pure h₃))) fun _ _ x => x)
  first
    | exact wpAny_pure (wpAny_bind fin)
    | exact wpAny_bind (wpAny_pure (wpAny_bind fin))
    | exact wpAny_bind fin
theorem dict_typeIs {X : Cx} {pins : List (Addr × Obj)} {σ : St} {H : Hp} {s : Shared} {a : Addr} {y : V} {o : Option V} (I : Inv X pins σ H s) (g : DGet H a y o) : s.TypeIs (.ref a) "dict" := by
  rcases g with ⟨kvs, k, e, _, _⟩ | ⟨kvs, k, b, e, _, _, _⟩
  · obtain ⟨_, _, vs, _, dd⟩ := dk_rd I.hok e
    exact dd.typeIs
  · obtain ⟨_, _, xs, _, dd⟩ := dt_rd I.hok e
    exact dd.typeIs
theorem dict_noDict {X : Cx} {pins : List (Addr × Obj)} {σ : St} {H : Hp} {s : Shared} {a : Addr} {y : V} {o : Option V} (I : Inv X pins σ H s) (g : DGet H a y o) :
    ∀ b, Value.ref a = .ref b → ∃ ob, s.heap.get? b = some ob ∧ ob.dict = none := fun b q => by
  cases q
  rcases g with ⟨kvs, k, e, _, _⟩ | ⟨kvs, k, b, e, _, _, _⟩
  · obtain ⟨_, _, vs, _, ob, _, _, h1, h2, _⟩ := dk_rd I.hok e
    exact ⟨ob, h1, h2.2.1⟩
  · obtain ⟨_, _, xs, _, ob, _, _, h1, h2, _⟩ := dt_rd I.hok e
    exact ⟨ob, h1, h2.2.1⟩
def tDGet (td ty : TE) : TE := fun σ H Q => td σ H fun x H1 => ty σ H1 fun y H2 => ∃ a v, x = .ref a ∧ DGet H2 a y (some v) ∧ Q v H2
def tDIn (ty td : TE) : TE := fun σ H Q => ty σ H fun y H1 => td σ H1 fun x H2 => ∃ a o, x = .ref a ∧ DGet H2 a y o ∧ Q (.bl o.isSome) H2
def tDNotIn (ty td : TE) : TE := fun σ H Q => ty σ H fun y H1 => td σ H1 fun x H2 => ∃ a o, x = .ref a ∧ DGet H2 a y o ∧ Q (.bl (!o.isSome)) H2
def sDPut (td ty tv : TE) : TS := fun D σ H => tv σ H fun v H1 => td σ H1 fun x H2 => ty σ H2 fun y H3 => ∃ a H4, x = .ref a ∧ DPut H3 a y v H4 ∧ D.nx σ H4
def sDAug (td ty tv : TE) (rd : V → V → Hp → VK → Prop) : TS := fun D σ H => td σ H fun x H1 => ty σ H1 fun y H2 => ∃ a v, x = .ref a ∧ DGet H2 a y (some v) ∧
  tv σ H2 fun y2 H3 => rd v y2 H3 fun z H4 => ∃ H5, DPut H4 a y z H5 ∧ D.nx σ H5
def sDDel (td ty : TE) : TS := fun D σ H => td σ H fun x H1 => ty σ H1 fun y H2 => ∃ a kvs k, x = .ref a ∧ H2 a = some (.dK kvs) ∧ y = kV k ∧ (valV kvs k).isSome = true ∧ D.nx σ (upd H2 a (.dK (dropK kvs k)))
section
variable {X : Cx} {o i e value : Expr} {pos pos' tpos : Pos} {td ty tv : TE}
theorem pe_dget (hu : X.A.units + 1 < cLine) (ho : PE X o td) (hi : PE X i ty) (hs : NoSl i) : PE X (.Subscript o i pos) (tDGet td ty) := by
  intro pins s σ H Q I h
  refine subD_of PySem.F.slot_dict_getitem.lookup hs (thn (ho pins s σ H _ I h) fun u s1 ⟨x, H1, I1, rx, q1⟩ => thn (hi pins s1 σ H1 _ I1 q1) fun iv s2 ⟨y, H2, I2, ry, a, v, ex, g, q2⟩ => ?_)
  subst ex
  obtain rfl : u = Value.ref a := rx
  exact ⟨dict_typeIs I2 g, d_getItem hu I2 g ry fun w' s3 I3 rw' => ⟨v, H2, I3, rw', q2⟩⟩
theorem pc_din (hu : X.A.units + 1 < cLine) (hi : PE X i ty) (ho : PE X o td) : PC X .In i o (tDIn ty td) := by
  intro pins s σ H Q I h
  refine thn (hi pins s σ H _ I h) fun iv s1 ⟨y, H1, I1, ry, q1⟩ => thn (ho pins s1 σ H1 _ I1 q1) fun u s2 ⟨x, H2, I2, rx, a, ov, ex, g, q2⟩ => ?_
  subst ex
  obtain rfl : u = Value.ref a := rx
  exact d_in hu I2 g ry fun s3 I3 => ⟨.bl ov.isSome, H2, I3, rfl, q2⟩
theorem pc_dnotin (hu : X.A.units + 1 < cLine) (hi : PE X i ty) (ho : PE X o td) : PC X .NotIn i o (tDNotIn ty td) := by
  intro pins s σ H Q I h
  refine thn (hi pins s σ H _ I h) fun iv s1 ⟨y, H1, I1, ry, q1⟩ => thn (ho pins s1 σ H1 _ I1 q1) fun u s2 ⟨x, H2, I2, rx, a, ov, ex, g, q2⟩ => ?_
  subst ex
  obtain rfl : u = Value.ref a := rx
  exact d_notIn hu I2 g ry fun s3 I3 => ⟨.bl (!ov.isSome), H2, I3, rfl, q2⟩
theorem ps_dput (hu : X.A.units + 1 < cLine) (ho : PE X o td) (hi : PE X i ty) (hv : PE X value tv) (hs : swapsWith value (some (.Subscript o i pos')) pos.line X.env = pure false) :
    PS X (.Assign [.Subscript o i pos'] value pos) (sDPut td ty tv) := by
  intro pins s σ H D I h
  refine wpAny_Assign_Subscript (thn (hv pins s σ H _ I h) fun r s1 ⟨v, H1, I1, rv, q1⟩ => thn (ho pins s1 σ H1 _ I1 q1) fun u s2 ⟨x, H2, I2, rx, q2⟩ => thn (hi pins s2 σ H2 _ I2 q2) fun iv s3 ⟨y, H3, I3, ry, a, H4, ex, g, q3⟩ => ?_) hs
  subst ex
  obtain rfl : u = Value.ref a := rx
  exact d_setItem hu I3 g ry rv fun s4 I4 => ⟨σ, H4, I4, q3⟩
theorem ps_daug {op : Operator} {rd : V → V → Hp → VK → Prop} (hu : X.A.units + 1 < cLine) (ho : PE X o td) (hi : PE X i ty) (hv : PE X value tv) (hop : InOp X op rd)
    (ha : ∀ ov iv new, augStore i ov iv new = (do holding [new, ov, iv] (setItem ov iv new); release [new, ov, iv] []; pure .next)) : PS X (.AugAssign (.Subscript o i tpos) op value pos) (sDAug td ty tv rd) := by
  intro pins s σ H D I h
  refine wpAny_AugAssign_SubscriptAny (thn (ho pins s σ H _ I h) fun u s1 ⟨x, H1, I1, rx, q1⟩ => thn (hi pins s1 σ H1 _ I1 q1) fun iv s2 ⟨y, H2, I2, ry, a, v, ex, g, q2⟩ => ?_) ha
  subst ex
  obtain rfl : u = Value.ref a := rx
  refine d_getItem hu I2 g ry fun w' s3 I3 rw' => thn (hv pins s3 σ H2 _ I3 q2) fun w2 s4 ⟨y2, H3, I4, ry2, q3⟩ => thn (hop pins s4 σ H3 v y2 w' w2 _ I4 rw' ry2 q3) fun w3 s5 ⟨z, H4, I5, rz, H5, g5, q4⟩ => ?_
  exact d_setItem hu I5 g5 ry rz fun s6 I6 => ⟨σ, H5, I6, q4⟩
theorem ps_ddel (ho : PE X o td) (hi : PE X i ty) : PS X (.Delete [.Subscript o i tpos] pos) (sDDel td ty) := by
  intro pins s σ H D I h
  refine wpAny_Delete (wpAny_deleteEach_cons (wpAny_delete_Subscript (thn (ho pins s σ H _ I h) fun u s1 ⟨x, H1, I1, rx, q1⟩ => thn (hi pins s1 σ H1 _ I1 q1) fun iv s2 ⟨y, H2, I2, ry, a, kvs, k, ex, e, ey, l, q2⟩ => ?_)))
  subst ex ey
  obtain rfl : u = Value.ref a := rx
  exact d_delItem I2 e ry l fun s3 I3 => wpAny_deleteEach_nil ⟨σ, _, I3, q2⟩
end
theorem dk_empty {P : Program} {w : World} {H : Hp} (h : Heap) (hb : sysModules < h.objs.size) : ObjOk P w H (h.push { cls := .type "dict", data := .dict #[] }) h.objs.size (.dK []) :=
  ⟨Nat.zero_le _, beq_eq_false_iff_ne.mpr (Ne.symm (Nat.ne_of_lt hb)), [], .nil, Heap.DictOf.new h⟩
theorem dt_empty {P : Program} {w : World} {H : Hp} (h : Heap) (hb : sysModules < h.objs.size) : ObjOk P w H (h.push { cls := .type "dict", data := .dict #[] }) h.objs.size (.dT []) :=
  ⟨Nat.zero_le _, beq_eq_false_iff_ne.mpr (Ne.symm (Nat.ne_of_lt hb)), [], .nil, _, #[], 0, Heap.get?_push_size _ rfl, ⟨rfl, rfl, rfl⟩, rfl, rfl, List.nodup_nil⟩
def tDNewK : TE := fun _ H Q => ∀ p, H p = none → Q (.ref p) (upd H p (.dK []))
def tDNewT : TE := fun _ H Q => ∀ p, H p = none → Q (.ref p) (upd H p (.dT []))
section
variable {X : Cx} {pos : Pos}
theorem pe_dnewK : PE X (.Dict [] [] pos) tDNewK := fun pins s σ H Q I h =>
  wpAny_Dict_empty ⟨.ref s.heap.objs.size, _, I.laid (a := s.heap.objs.size) (o := .dK []) (t' := s.toks) (fun _ _ q => Heap.get?_push_of_some _ q) (Nat.le_refl _) (dk_empty s.heap I.big), rfl, h _ (I.hok.fresh (Nat.le_refl _))⟩
theorem pe_dnewT : PE X (.Dict [] [] pos) tDNewT := fun pins s σ H Q I h =>
  wpAny_Dict_empty ⟨.ref s.heap.objs.size, _, I.laid (a := s.heap.objs.size) (o := .dT []) (t' := s.toks) (fun _ _ q => Heap.get?_push_of_some _ q) (Nat.le_refl _) (dt_empty s.heap I.big), rfl, h _ (I.hok.fresh (Nat.le_refl _))⟩
end
def tPairs : List (TE × TE) → St → Hp → (List (V × V) → Hp → Prop) → Prop
  | [], _, H, Q => Q [] H
  | (tk, tv) :: r, σ, H, Q => tk σ H fun x H1 => tv σ H1 fun y H2 => tPairs r σ H2 fun ps H3 => Q ((x, y) :: ps) H3
abbrev VV : List (V × V) → List (Value × Value) → Prop := Paired fun p q => RelV p.1 q.1 ∧ RelV p.2 q.2
def PPs (X : Cx) (pos : Pos) (keys : List (Option Expr)) (values : List Expr) (trs : List (TE × TE)) : Prop :=
  ∀ (pins : List (Addr × Obj)) (s : Shared) (σ : St) (H : Hp) (Q : List (V × V) → Hp → Prop), Inv X pins σ H s → tPairs trs σ H Q →
    wpAny (model X.prog X.w) X.A (evalPairs (pairTrees keys values X.env pos)) (fun vs s' => ∃ ps H', Inv X pins σ H' s' ∧ VV ps vs ∧ Q ps H') X.xe s
theorem pps_nil {X : Cx} {pos : Pos} : PPs X pos [] [] [] := fun pins s σ H Q I h => pairTrees_nil_walk ⟨[], H, I, .nil, h⟩
theorem pps_cons {X : Cx} {pos : Pos} {k v : Expr} {ks : List (Option Expr)} {vs : List Expr} {tk tv : TE} {trs : List (TE × TE)} (hk : PE X k tk) (hv : PE X v tv) (hr : PPs X pos ks vs trs) :
    PPs X pos (some k :: ks) (v :: vs) ((tk, tv) :: trs) := fun pins s σ H Q I h =>
  pairTrees_cons_walk (thn (hk pins s σ H _ I h) fun u s1 ⟨x, H1, I1, rx, q1⟩ => thn (hv pins s1 σ H1 _ I1 q1) fun w2 s2 ⟨y, H2, I2, ry, q2⟩ =>
    thn (hr pins s2 σ H2 _ I2 q2) fun ws s3 ⟨ps, H3, I3, rel, q3⟩ => ⟨(x, y) :: ps, H3, I3, .cons ⟨rx, ry⟩ rel, q3⟩)
def mergeK (kvs more : List (Key × V)) : List (Key × V) := more.foldl (fun acc kv => putK acc kv.1 kv.2) kvs
theorem KV.merge : ∀ {more : List (Key × V)} {rs : List (Key × Value)} {kvs : List (Key × V)} {vs : List (Key × Value)}, KV more rs → KV kvs vs → KV (mergeK kvs more) (merged vs rs) := by
  intro more rs kvs vs r
  unfold KV at r
  induction r generalizing kvs vs with
  | nil => intro q; exact q
  | @cons p q ps qs h t ih =>
    intro r0
    have e : KV (putK kvs p.1 p.2) (stored vs q.1 q.2) := by
      have := r0.put p.1 h.2
      rw [← h.1]; exact this
    exact ih e
theorem length_mergeK : ∀ (more kvs : List (Key × V)), (mergeK kvs more).length ≤ kvs.length + more.length
  | [], kvs => by show kvs.length ≤ kvs.length + 0; omega
  | p :: r, kvs => by
    have h1 := length_mergeK r (putK kvs p.1 p.2)
    have h2 := length_putK kvs p.1 p.2
    show (mergeK (putK kvs p.1 p.2) r).length ≤ _
    rw [List.length_cons]; omega
theorem carries_of {P : Program} {w : World} : ∀ {kvs : List (Key × V)} {ws : List (Value × Value)}, VV (kvs.map fun kv => (kV kv.1, kv.2)) ws → ∃ rs, Carries (mixKind P w) ws rs ∧ KV kvs rs
  | [], _, r => by rw [List.map_nil] at r; cases r; exact ⟨[], True.intro, .nil⟩
  | p :: kvs, _, r => by
    rw [List.map_cons] at r
    cases r with
    | @cons a b as bs h t =>
      obtain ⟨rs, c, q⟩ := carries_of (P := P) (w := w) t
      obtain ⟨b1, b2⟩ := b
      exact ⟨(p.1, b2) :: rs, ⟨kV_is h.1, rfl, c⟩, .cons ⟨rfl, h.2⟩ q⟩
def tDisp (trs : List (TE × TE)) : TE := fun σ H Q => ∀ p, H p = none → tPairs trs σ (upd H p (.dK [])) fun ps H2 => H2 p = some (.dK []) ∧ ∃ kvs : List (Key × V), ps = kvs.map (fun kv => (kV kv.1, kv.2)) ∧ kvs.length ≤ 15 ∧ Q (.ref p) (upd H2 p (.dK (mergeK [] kvs)))
theorem pe_disp {X : Cx} {pos : Pos} {keys : List (Option Expr)} {values : List Expr} {trs : List (TE × TE)} (h : PPs X pos keys values trs) (hall : keys.all (·.isSome) = true) (hl : keys.length = values.length) (h0 : keys ≠ [])
    (h15 : keys.length ≤ 15) : PE X (.Dict keys values pos) (tDisp trs) := by
  intro pins s σ H Q I q
  have hn := I.hok.fresh (Nat.le_refl s.heap.objs.size)
  have I1 := I.laid (a := s.heap.objs.size) (o := .dK []) (h' := s.heap.push { cls := .type "dict", data := .dict #[] }) (t' := s.toks) (fun _ _ q => Heap.get?_push_of_some _ q) (Nat.le_refl _) (dk_empty s.heap I.big)
  refine wpAny_Dict_walk (knd := mixKind X.prog X.w) hall hl h0 h15 (thn (h pins _ σ _ _ I1 (q _ hn)) fun ws s2 ⟨ps, H2, I2, rel, e, kvs, ep, lk, q2⟩ => ?_)
  subst ep
  obtain ⟨rs, c, rk⟩ := carries_of (P := X.prog) (w := X.w) rel
  obtain ⟨z, hd, vs0, r0, dd⟩ := dk_of I2.hok e
  cases r0
  refine ⟨rs, c, dd, fun h' dd' hs => ⟨.ref s.heap.objs.size, _, ?_, rfl, q2⟩⟩
  have hz : (mergeK [] kvs).length ≤ sizeLine := by
    have h1 := length_mergeK kvs []
    rw [List.length_nil] at h1
    rw [sizeLine_eq]; omega
  have he : ∃ q, h'.get? s.heap.objs.size = some q := let ⟨q, _, _, hq, _⟩ := dd'; ⟨q, hq⟩
  exact d_write I2 (by rw [e]; exact True.intro) hs he (dk_new hz hd (rk.merge .nil) dd')
structure M1 (X : Cx) (o : Expr) (m : Str) (apos : Pos) (e : Expr) (cpos : Pos) : Prop where
  base : attributeBase o m X.env (eval o X.env) = eval o X.env
  few : ((backTo cpos (starEach [e] X.env)).all (fun x => !x.1) && (backToKw cpos (keywordEach [] X.env)).all (fun x => x.1.isSome)
    && decide (([e] : List Expr).length + ([] : List Keyword).length + (if ([] : List Keyword).isEmpty then 0 else 1) < 30)) = true
  line : (apos.endLine == cpos.line) = true
  trees : backTo cpos (starEach [e] X.env) = [(false, eval e X.env)]
structure M2 (X : Cx) (o : Expr) (m : Str) (apos : Pos) (e f : Expr) (cpos : Pos) : Prop where
  base : attributeBase o m X.env (eval o X.env) = eval o X.env
  few : ((backTo cpos (starEach [e, f] X.env)).all (fun x => !x.1) && (backToKw cpos (keywordEach [] X.env)).all (fun x => x.1.isSome)
    && decide (([e, f] : List Expr).length + ([] : List Keyword).length + (if ([] : List Keyword).isEmpty then 0 else 1) < 30)) = true
  line : (apos.endLine == cpos.line) = true
  trees : backTo cpos (starEach [e, f] X.env) = [(false, eval e X.env), (false, eval f X.env)]
def IsD (H : Hp) (a : Addr) : Prop := (∃ kvs, Rd H a (.dK kvs)) ∨ ∃ kvs, Rd H a (.dT kvs)
theorem isD_at {X : Cx} {pins : List (Addr × Obj)} {σ : St} {H : Hp} {s : Shared} {a : Addr} (I : Inv X pins σ H s) (d : IsD H a) :
    s.TypeIs (.ref a) "dict" ∧ (∀ b, Value.ref a = .ref b → ∃ ob, s.heap.get? b = some ob ∧ ob.dict = none) ∧ (a == sysModules) = false := by
  rcases d with ⟨kvs, e⟩ | ⟨kvs, e⟩
  · obtain ⟨_, hd, vs, _, dd⟩ := dk_rd I.hok e
    refine ⟨dd.typeIs, fun b q => ?_, hd⟩
    cases q
    obtain ⟨ob, _, _, h1, h2, _⟩ := dd
    exact ⟨ob, h1, h2.2.1⟩
  · obtain ⟨_, hd, xs, _, dd⟩ := dt_rd I.hok e
    refine ⟨dd.typeIs, fun b q => ?_, hd⟩
    cases q
    obtain ⟨ob, _, _, h1, h2, _⟩ := dd
    exact ⟨ob, h1, h2.2.1⟩
section
variable {X : Cx} {pins : List (Addr × Obj)} {σ : St} {H : Hp} {s : Shared} {a : Addr} {y d : V} {u r : Value} {o : Option V} {A : Around} {E : Value → Shared → Prop}
theorem d_get1 {Q : Value → Shared → Prop} (hu : A.units + 1 < cLine) (I : Inv X pins σ H s) (g : DGet H a y o) (ry : RelV y u) (h : ∀ w' s', Inv X pins σ H s' → RelV (o.getD .non) w' → Q w' s') :
    wpAny (model X.prog X.w) A (call (.builtin "dict.get") [.ref a, u]) Q E s := by
  rcases g with ⟨kvs, k, e, ey, l⟩ | ⟨kvs, k, b, e, ey, eb, l⟩
  · subst ey
    obtain ⟨z, hd, vs, rel, dd⟩ := dk_rd I.hok e
    refine call_meetsIn PySem.F.slot_dict_get dd.typeIs PySem.F.entry_dict_get (PySem.F.args_dict_get_2 _ _) (meets_dict_get (mixKind X.prog X.w) a (kV_is ry) hd) ⟨_, dd.mapOf, h _ _ (I.tok _) ?_⟩
    rw [l]
    exact (rel.val k).getD rfl
  · subst ey
    cases (show u = Value.ref b from ry)
    obtain ⟨z, hd, xs, rel, dd⟩ := dt_rd I.hok e
    refine call_meetsIn PySem.F.slot_dict_get dd.typeIs PySem.F.entry_dict_get (PySem.F.args_dict_get_2 _ _) (meetsH_dict_get (tupleKind (mixKind X.prog X.w)) a b hd) ⟨tupleKind_room_in1 hu, k, xs, key_of I.hok eb, dd, h _ _ (I.tok _) ?_⟩
    rw [l]
    exact (rel.val k).getD rfl
theorem d_get2 {Q : Value → Shared → Prop} (hu : A.units + 1 < cLine) (I : Inv X pins σ H s) (g : DGet H a y o) (ry : RelV y u) (rd : RelV d r) (h : ∀ w' s', Inv X pins σ H s' → RelV (o.getD d) w' → Q w' s') :
    wpAny (model X.prog X.w) A (call (.builtin "dict.get") [.ref a, u, r]) Q E s := by
  rcases g with ⟨kvs, k, e, ey, l⟩ | ⟨kvs, k, b, e, ey, eb, l⟩
  · subst ey
    obtain ⟨z, hd, vs, rel, dd⟩ := dk_rd I.hok e
    refine call_meetsIn PySem.F.slot_dict_get dd.typeIs PySem.F.entry_dict_get (PySem.F.args_dict_get_3 _ _ _) (meets_dict_get_default (mixKind X.prog X.w) a (kV_is ry) hd r) ⟨_, dd.mapOf, h _ _ (I.tok _) ?_⟩
    rw [l]
    exact (rel.val k).getD rd
  · subst ey
    cases (show u = Value.ref b from ry)
    obtain ⟨z, hd, xs, rel, dd⟩ := dt_rd I.hok e
    refine call_meetsIn PySem.F.slot_dict_get dd.typeIs PySem.F.entry_dict_get (PySem.F.args_dict_get_3 _ _ _) (meetsH_dict_get_default (tupleKind (mixKind X.prog X.w)) a b hd r) ⟨tupleKind_room_in1 hu, k, xs, key_of I.hok eb, dd, h _ _ (I.tok _) ?_⟩
    rw [l]
    exact (rel.val k).getD rd
end
def tDGet1 (td ty : TE) : TE := fun σ H Q => td σ H fun x H1 => ∃ a, x = .ref a ∧ IsD H1 a ∧ ty σ H1 fun y H2 => ∃ o, DGet H2 a y o ∧ Q (o.getD .non) H2
def tDGet2 (td ty tx : TE) : TE := fun σ H Q => td σ H fun x H1 => ∃ a, x = .ref a ∧ IsD H1 a ∧ ty σ H1 fun y H2 => tx σ H2 fun z H3 => ∃ o, DGet H3 a y o ∧ Q (o.getD z) H3
def tDPop1 (td ty : TE) : TE := fun σ H Q => td σ H fun x H1 => ∃ a, x = .ref a ∧ IsD H1 a ∧ ty σ H1 fun y H2 => ∃ kvs k v, H2 a = some (.dK kvs) ∧ y = kV k ∧ valV kvs k = some v ∧ Q v (upd H2 a (.dK (dropK kvs k)))
def tDPop2 (td ty tx : TE) : TE := fun σ H Q => td σ H fun x H1 => ∃ a, x = .ref a ∧ IsD H1 a ∧ ty σ H1 fun y H2 => tx σ H2 fun z H3 => ∃ kvs k, H3 a = some (.dK kvs) ∧ y = kV k ∧
  (∀ v, valV kvs k = some v → Q v (upd H3 a (.dK (dropK kvs k)))) ∧ (valV kvs k = none → Q z H3)
section
variable {X : Cx} {o e f : Expr} {apos cpos : Pos} {td ty tx : TE}
theorem pe_dget1 (hu : X.A.units + 1 < cLine) (ho : PE X o td) (he : PE X e ty) (m : M1 X o "get" apos e cpos) : PE X (.Call (.Attribute o "get" apos) [e] [] cpos) (tDGet1 td ty) := by
  intro pins s σ H Q I h
  refine wpAny_Call_method m.base m.few m.line PySem.F.plainAttrs_dict PySem.F.slot_dict_get PySem.F.type_dict_get (thn (ho pins s σ H _ I h) fun u s1 ⟨x, H1, I1, rx, a, ex, d, q1⟩ => ?_)
  subst ex
  obtain rfl : u = Value.ref a := rx
  obtain ⟨t1, t2, _⟩ := isD_at I1 d
  refine ⟨t1, t2, ?_⟩
  rw [m.trees]
  refine Calls.callWith_builtin rfl (Calls.evalArgs_plain (Calls.spliced_cons (thn (he pins s1 σ H1 _ I1 q1) fun iv s2 ⟨y, H2, I2, ry, ov, g, q2⟩ => Calls.spliced_nil ?_)))
  exact d_get1 hu I2 g ry fun w' s3 I3 rw' => ⟨_, H2, I3, rw', q2⟩
theorem pe_dget2 (hu : X.A.units + 1 < cLine) (ho : PE X o td) (he : PE X e ty) (hf : PE X f tx) (m : M2 X o "get" apos e f cpos) : PE X (.Call (.Attribute o "get" apos) [e, f] [] cpos) (tDGet2 td ty tx) := by
  intro pins s σ H Q I h
  refine wpAny_Call_method m.base m.few m.line PySem.F.plainAttrs_dict PySem.F.slot_dict_get PySem.F.type_dict_get (thn (ho pins s σ H _ I h) fun u s1 ⟨x, H1, I1, rx, a, ex, d, q1⟩ => ?_)
  subst ex
  obtain rfl : u = Value.ref a := rx
  obtain ⟨t1, t2, _⟩ := isD_at I1 d
  refine ⟨t1, t2, ?_⟩
  rw [m.trees]
  refine Calls.callWith_builtin rfl (Calls.evalArgs_plain (Calls.spliced_cons (thn (he pins s1 σ H1 _ I1 q1) fun iv s2 ⟨y, H2, I2, ry, q2⟩ =>
    Calls.spliced_cons (thn (hf pins s2 σ H2 _ I2 q2) fun fv s3 ⟨z, H3, I3, rz, ov, g, q3⟩ => Calls.spliced_nil ?_))))
  exact d_get2 hu I3 g ry rz fun w' s4 I4 rw' => ⟨_, H3, I4, rw', q3⟩
theorem pe_dpop1 (ho : PE X o td) (he : PE X e ty) (m : M1 X o "pop" apos e cpos) : PE X (.Call (.Attribute o "pop" apos) [e] [] cpos) (tDPop1 td ty) := by
  intro pins s σ H Q I h
  refine wpAny_Call_method m.base m.few m.line PySem.F.plainAttrs_dict PySem.F.slot_dict_pop PySem.F.type_dict_pop (thn (ho pins s σ H _ I h) fun u s1 ⟨x, H1, I1, rx, a, ex, d, q1⟩ => ?_)
  subst ex
  obtain rfl : u = Value.ref a := rx
  obtain ⟨t1, t2, _⟩ := isD_at I1 d
  refine ⟨t1, t2, ?_⟩
  rw [m.trees]
  refine Calls.callWith_builtin rfl (Calls.evalArgs_plain (Calls.spliced_cons (thn (he pins s1 σ H1 _ I1 q1) fun iv s2 ⟨y, H2, I2, ry, kvs, k, v, ea, ey, l, q2⟩ => Calls.spliced_nil ?_)))
  subst ey
  exact d_pop I2 ea ry l (.inl rfl) fun w' s3 I3 rw' => ⟨v, _, I3, rw', q2⟩
theorem pe_dpop2 (ho : PE X o td) (he : PE X e ty) (hf : PE X f tx) (m : M2 X o "pop" apos e f cpos) : PE X (.Call (.Attribute o "pop" apos) [e, f] [] cpos) (tDPop2 td ty tx) := by
  intro pins s σ H Q I h
  refine wpAny_Call_method m.base m.few m.line PySem.F.plainAttrs_dict PySem.F.slot_dict_pop PySem.F.type_dict_pop (thn (ho pins s σ H _ I h) fun u s1 ⟨x, H1, I1, rx, a, ex, d, q1⟩ => ?_)
  subst ex
  obtain rfl : u = Value.ref a := rx
  obtain ⟨t1, t2, _⟩ := isD_at I1 d
  refine ⟨t1, t2, ?_⟩
  rw [m.trees]
  refine Calls.callWith_builtin rfl (Calls.evalArgs_plain (Calls.spliced_cons (thn (he pins s1 σ H1 _ I1 q1) fun iv s2 ⟨y, H2, I2, ry, q2⟩ =>
    Calls.spliced_cons (thn (hf pins s2 σ H2 _ I2 q2) fun fv s3 ⟨z, H3, I3, rz, kvs, k, ea, ey, q3, q4⟩ => Calls.spliced_nil ?_))))
  subst ey
  cases l : valV kvs k with
  | some v => exact d_pop I3 ea ry l (.inr ⟨fv, rfl⟩) fun w' s4 I4 rw' => ⟨v, _, I4, rw', q3 v l⟩
  | none => exact d_popD I3 ea ry l fun s4 I4 => ⟨z, H3, I4, rz, q4 l⟩
end
section
variable {X : Cx} {pins : List (Addr × Obj)} {σ : St} {H : Hp} {s : Shared} {a : Addr} {kvs : List (Key × V)} {A : Around} {E : Value → Shared → Prop}
theorem d_copyOf {Q : Value → Shared → Prop} (I : Inv X pins σ H s) (e : Rd H a (.dK kvs)) (h : ∀ p s', H p = none → Inv X pins σ (upd H p (.dK kvs)) s' → Q (.ref p) s') : wpAny (model X.prog X.w) A (call (.type "dict") [.ref a]) Q E s := by
  obtain ⟨z, hd, vs, rel, dd⟩ := dk_rd I.hok e
  refine kt_call_dict hd dd (by rw [← rel.length]; exact z) fun h' dd' hs => ?_
  refine h _ _ (I.hok.fresh (Nat.le_refl _)) (I.laid (a := s.heap.objs.size) (o := .dK kvs) (t' := s.toks) (fun b q hq => ?_) (Nat.le_refl _) (dk_new z (beq_eq_false_iff_ne.mpr (Ne.symm (Nat.ne_of_lt I.big))) rel dd'))
  exact (hs.2 b (Nat.ne_of_lt (Heap.lt_size hq))).trans (Heap.get?_push_of_some _ hq)
end
section
variable {X : Cx} {pins : List (Addr × Obj)} {σ : St} {H : Hp} {s : Shared} {a : Addr} {y : V} {u : Value} {A : Around} {E : Value → Shared → Prop}
theorem d_missing {Q : Value → Shared → Prop} (hu : A.units + 1 < cLine) (hh : A.handled = none) (I : Inv X pins σ H s) (g : DGet H a y none) (ry : RelV y u)
    (h : ∀ h' e t', Heap.NewExc s.heap h' e "KeyError" → E (.ref e) { s with heap := h', toks := t' }) : wpAny (model X.prog X.w) A (getItem (.ref a) u) Q E s := by
  rcases g with ⟨kvs, k, e, ey, l⟩ | ⟨kvs, k, b, e, ey, eb, l⟩
  · subst ey
    obtain ⟨z, hd, vs, rel, dd⟩ := dk_rd I.hok e
    have hn : valueAt vs k = none := RelO.none_of (by rw [l]; exact rel.val k)
    exact wpAny_getItem_missing_of (kV_is ry) hd hh dd.mapOf hn fun h' ex ne => h h' ex _ ne
  · subst ey
    cases (show u = Value.ref b from ry)
    obtain ⟨z, hd, xs, rel, dd⟩ := dt_rd I.hok e
    have hn : (atKey xs k).map (·.2) = none := RelO.none_of (by rw [l]; exact rel.val k)
    exact wpAny_getItem_missing_heap (tupleKind_room_in1 hu) (key_of I.hok eb) hd hh dd (Option.map_eq_none_iff.mp hn) fun h' ex ne => h h' ex _ ne
end
end L2
namespace Att
open PySem PySem.W PySem.Calls PyProof.Rows
theorem ints_of_wellAll {P : Params} {h : Heap} : ∀ (ns : List Int) (vs : List Value), WellAll P h vs (ns.map WData.int) → IntsAre vs ns := by
  intro ns
  induction ns with
  | nil =>
    intro vs w
    rw [List.map_nil] at w
    cases w
    exact .nil
  | cons n ns ih =>
    intro vs w
    rw [List.map_cons] at w
    cases w with
    | cons a b =>
      cases a
      exact .cons _ _ (ih _ b)
theorem script_of {l : OpenLaw} {n : Nat} (hn : l.most = some n) {P : Params} {h : Heap} {args : List WData} {vals : List Value}
    (hpre : l.row.toRowW.claim.pre args = true) (hwl : WellAll P h vals args) :
    ∃ a vs ns, vals = [Value.ref a] ∧ args = [WData.list (ns.map WData.int)] ∧ h.get? a = some { cls := .type "list", data := .seq vs.toArray } ∧ IntsAre vs ns ∧ ns.length ≤ n := by
  have hsh : WShape.hasAll [] args [.list .int] = true := (pre_splitW hpre).1
  have hc : l.pre.holds [] { args := args } = true := (pre_splitW hpre).2
  obtain ⟨d, r, rfl, h1, h2⟩ := hasAllW_cons hsh
  obtain rfl := hasAllW_nil h2
  obtain ⟨xs, rfl, h3⟩ := hasW_list h1
  obtain ⟨ns, rfl⟩ := items_int h3
  have hlen : ns.length ≤ n := by
    unfold OpenLaw.pre at hc
    have h4 : (WTm.not (.lt (.lit (.int (n : Int))) (.len (.arg 0)))).holds [] { args := [.list (ns.map .int)] } = true := by
      have h4 := (holds_andW hc).1
      rw [hn] at h4
      exact h4
    have h5 := condW_of h4 (w_not (w_lt w_lit (w_len_list (w_arg rfl))))
    rw [List.length_map] at h5
    refine Nat.le_of_not_lt fun q => ?_
    have q' : (n : Int) < ((ns.length : Nat) : Int) := by omega
    first
      | (rw [decide_eq_true q'] at h5; exact absurd h5 (by decide))
      | (simp at h5; omega)
  cases hwl with
  | cons w1 w2 =>
    cases w2
    cases w1 with
    | list ho hall => exact ⟨_, _, ns, rfl, rfl, ho, ints_of_wellAll ns _ hall, hlen⟩
theorem post_true (l : OpenLaw) (args : List WData) : l.row.toRowW.claim.post args (.bool true) args = true :=
  postW_of (r := l.row.toRowW) (X := (true == true))
    (show WShape.has [] (.bool true) .bool = true by first | rfl | decide | simp [WShape.has, WShape.arms, WShape.armsAll])
    (show (WTm.eq .res (.lit (.bool true))).value [] { args := args, res := some (.bool true), after := args } = some (.bool (true == true)) from w_eq_bool (w_res rfl) w_lit) rfl
theorem attach {l : OpenLaw} {n : Nat} {q : Program} {loose : List Str} {XP : (Str → Option Value) → Heap → Prop} {YP : World → Heap → Prop} {d : DefRec} {x : Str}
    (hn : l.most = some n) (hdf : d.params.defaults = [])
    (hbind : ∀ pm cd doc v : Value, bindArgs (docDef d.name d.params d.body d.scope pm cd doc) ⟨[v], []⟩ = pure [(x, v)])
    (hx : d.scope.names.lookup x = some .local ∨ d.scope.names.lookup x = some .cell)
    (hk : d.scope.kind = .function) (hco : d.scope.isCoroutine = false) (hgen : d.scope.isGenerator = false)
    (body : ∀ (w : World) (s₀ s₁ s : Shared) (mg mb : Str → Option Value) (fa : Addr) (o : Obj) (pm cd doc : Value) (a : Addr) (vs : List Value) (ns : List Int),
      Ground q loose [] XP w s₀ mg mb s₁.heap → YP w s₁.heap →
      s₁.heap.get? fa = some o → o.data = .func (docDef d.name d.params d.body d.scope pm cd doc) → s₁.heap.CodeRec cd d.name → mg d.name = some (.ref fa) →
      s₁.heap.get? a = some { cls := .type "list", data := .seq vs.toArray } → IntsAre vs ns → ns.length ≤ n →
      s.gens = #[] → s.os = s₁.os →
      Fr s₁.heap s₁.heap.objs.size s.heap (bindL (envOfC d.name d.scope s₁.heap.objs.size fa cd).kindOf [(x, .ref a)] fun _ => none) →
      Cl s₁.heap.objs.size (cellsFrom (s₁.heap.objs.size + 1) d.scope.names []) s.heap (bindC (envOfC d.name d.scope s₁.heap.objs.size fa cd).kindOf [(x, .ref a)] fun _ => none) →
      wpAny (model l.prog w) (callerA.deeper (envOfC d.name d.scope s₁.heap.objs.size fa cd)) (execs d.body (envOfC d.name d.scope s₁.heap.objs.size fa cd))
        (fun f s' => f = .ret (.bool true) ∧ OldK s₁.heap s'.heap ∧ s'.os = s₁.os ∧ AllBare s'.gens) (fun _ _ => False) s) :
    WalkO q loose XP YP l.row.toRowW d [] (fun f vs => PySem.call f vs) := by
  intro w s₀ s₁ mg mb G Y fa o pm cd doc dV kV ho hd hcd hD hmg hg args vals as hpre hlay hrd hwl hlo
  obtain rfl : dV = .none := Dflts.none hD hdf
  obtain rfl : kV = .none := Dflts.noKw hD
  obtain ⟨a, vs, ns, rfl, rfl, hobj, hints, hlen⟩ := script_of hn hpre hwl
  refine enter_call ?_
  refine call_cells_ret (o := o) (by rw [depth_caller]; decide) ho (fd_plain hd) G.T.nolimit hcd (hbind pm cd doc (.ref a)) (fun y hy => ?_) (fun h₁ tk F X => ?_) hco hgen hk
  · obtain rfl : y = (x, Value.ref a) := List.mem_singleton.mp hy
    rcases hx with e | e
    · exact .inl e
    · exact .inr ⟨e, cellsFrom_some _ _ _ (.inl e)⟩
  · refine wpAny_mono (body w s₀ s₁ { s₁ with heap := h₁, toks := tk } mg mb fa o pm cd doc a vs ns G Y ho (fd_plain hd) hcd hmg hobj hints hlen hg rfl F X) (fun f s' hq => ?_) (fun _ _ hq => hq)
    obtain ⟨rfl, h2, h3, h4⟩ := hq
    exact ⟨.inl ⟨.bool true, .bool true, [], rfl, fun _ => rfl, .bool true, post_true l _, fun _ => ⟨List.Pairwise.nil, fun _ hm => (nomatch hm)⟩⟩, h2, h3, h4⟩
theorem attach_call {l : OpenLaw} {n : Nat} {q : Program} {loose : List Str} {XP : (Str → Option Value) → Heap → Prop} {YP : World → Heap → Prop} {d : DefRec}
    (hn : l.most = some n) (hdf : d.params.defaults = [])
    (call : ∀ (w : World) (s₀ s₁ : Shared) (mg mb : Str → Option Value) (fa : Addr) (o : Obj) (pm cd doc : Value) (a : Addr) (vs : List Value) (ns : List Int),
      Ground q loose [] XP w s₀ mg mb s₁.heap → YP w s₁.heap →
      s₁.heap.get? fa = some o → o.data = .func (docDef d.name d.params d.body d.scope pm cd doc) → s₁.heap.CodeRec cd d.name → mg d.name = some (.ref fa) →
      s₁.heap.get? a = some { cls := .type "list", data := .seq vs.toArray } → IntsAre vs ns → ns.length ≤ n → s₁.gens = #[] →
      codeAny (model l.prog w) callerA (.call (.ref fa) ⟨[.ref a], []⟩) (fun r s' => r = .ok (.ret (.bool true)) ∧ OldK s₁.heap s'.heap ∧ s'.os = s₁.os ∧ AllBare s'.gens) s₁) :
    WalkO q loose XP YP l.row.toRowW d [] (fun f vs => PySem.call f vs) := by
  intro w s₀ s₁ mg mb G Y fa o pm cd doc dV kV ho hd hcd hD hmg hg args vals as hpre hlay hrd hwl hlo
  obtain rfl : dV = .none := Dflts.none hD hdf
  obtain rfl : kV = .none := Dflts.noKw hD
  obtain ⟨a, vs, ns, rfl, rfl, hobj, hints, hlen⟩ := script_of hn hpre hwl
  refine enter_call (codeAny_mono (call w s₀ s₁ mg mb fa o pm cd doc a vs ns G Y ho (fd_plain hd) hcd hmg hobj hints hlen hg) fun r s' hq => ?_)
  obtain ⟨rfl, h2, h3, h4⟩ := hq
  exact ⟨.inl ⟨.bool true, .bool true, [], rfl, fun _ => rfl, .bool true, post_true l _, fun _ => ⟨List.Pairwise.nil, fun _ hm => (nomatch hm)⟩⟩, h2, h3, h4⟩
theorem attachN {l : OpenLaw} {n : Nat} {q : Program} {loose : List Str} {XP : (Str → Option Value) → Heap → Prop} {YP : World → Heap → Prop} {d : DefRec} {x : Str}
    (hn : l.most = some n) (hdf : d.params.defaults = [])
    (hbind : ∀ pm cd doc v : Value, bindArgs (docDef d.name d.params d.body d.scope pm cd doc) ⟨[v], []⟩ = pure [(x, v)])
    (hx : d.scope.names.lookup x = some .local ∨ d.scope.names.lookup x = some .cell)
    (hk : d.scope.kind = .function) (hco : d.scope.isCoroutine = false) (hgen : d.scope.isGenerator = false)
    (body : ∀ (w : World) (s₀ s₁ s : Shared) (mg mb : Str → Option Value) (fa : Addr) (o : Obj) (pm cd doc : Value) (a : Addr) (vs : List Value) (ns : List Int),
      Ground q loose [] XP w s₀ mg mb s₁.heap → YP w s₁.heap →
      s₁.heap.get? fa = some o → o.data = .func (docDef d.name d.params d.body d.scope pm cd doc) → s₁.heap.CodeRec cd d.name → mg d.name = some (.ref fa) →
      s₁.heap.get? a = some { cls := .type "list", data := .seq vs.toArray } → IntsAre vs ns → ns.length ≤ n →
      s.gens = #[] → s.os = s₁.os →
      Fr s₁.heap s₁.heap.objs.size s.heap (bindL (envOfC d.name d.scope s₁.heap.objs.size fa cd).kindOf [(x, .ref a)] fun _ => none) →
      Cl s₁.heap.objs.size (cellsFrom (s₁.heap.objs.size + 1) d.scope.names []) s.heap (bindC (envOfC d.name d.scope s₁.heap.objs.size fa cd).kindOf [(x, .ref a)] fun _ => none) →
      wpAny (model l.prog w) (callerA.deeper (envOfC d.name d.scope s₁.heap.objs.size fa cd)) (execs d.body (envOfC d.name d.scope s₁.heap.objs.size fa cd))
        (fun f s' => f = .ret (.bool true) ∧ (∀ b o, s₁.heap.get? b = some o → s'.heap.get? b = some o) ∧ s'.os = s₁.os ∧ s'.gens = #[]) (fun _ _ => False) s) :
    WalkN q loose XP YP l.row.toRowW d [] (fun f vs => PySem.call f vs) := by
  intro w s₀ s₁ mg mb G Y fa o pm cd doc dV kV ho hd hcd hD hmg hg args vals as hpre hlay hrd hwl hlo
  obtain rfl : dV = .none := Dflts.none hD hdf
  obtain rfl : kV = .none := Dflts.noKw hD
  obtain ⟨a, vs, ns, rfl, rfl, hobj, hints, hlen⟩ := script_of hn hpre hwl
  refine enter_callW ?_
  refine call_cells_ret (o := o) (by rw [depth_caller]; decide) ho (fd_plain hd) G.T.nolimit hcd (hbind pm cd doc (.ref a)) (fun y hy => ?_) (fun h₁ tk F X => ?_) hco hgen hk
  · obtain rfl : y = (x, Value.ref a) := List.mem_singleton.mp hy
    rcases hx with e | e
    · exact .inl e
    · exact .inr ⟨e, cellsFrom_some _ _ _ (.inl e)⟩
  · refine wpAny_mono (body w s₀ s₁ { s₁ with heap := h₁, toks := tk } mg mb fa o pm cd doc a vs ns G Y ho (fd_plain hd) hcd hmg hobj hints hlen hg rfl F X) (fun f s' hq => ?_) (fun _ _ hq => hq)
    obtain ⟨rfl, h2, h3, h4⟩ := hq
    exact ⟨.inl ⟨.bool true, .bool true, [], rfl, fun _ => rfl, .bool true, post_true l _, fun _ => ⟨List.Pairwise.nil, fun _ hm => (nomatch hm)⟩⟩, h2, h3, h4⟩
section
variable {prog : Program} {w : World} {A : Around} {E : Value → Shared → Prop} {s : Shared} {K : Frag}
theorem call_fn {R : Result → Shared → Prop} {name qual : Str} {params : Arguments} {body : List Stmt} {scope : Scope} {dV kV doc pm cdv ct oc : Value} {an od : Option Addr} {osl : Array (Option Value)} {f : Addr} {args : Args} {binds : List (Str × Value)}
    (X : K.In s.heap) (hlim : s.heap.NoLimit) (ho : K.lookup f = some ⟨oc, od, .func (fnOf name qual params body scope dV kV doc pm an cdv ct), osl⟩) (hcd : codeIn K cdv qual = true) (hroom : A.depth < recursionLimit)
    (hbind : BindsTo s (fnOf name qual params body scope dV kV doc pm an cdv ct) args binds)
    (hkind : (binds.all fun y => scope.names.lookup y.1 == some .local || scope.names.lookup y.1 == some .cell) = true)
    (h : ∀ s₁, InCallC s s.heap.objs.size (bindL (envOfC qual scope s.heap.objs.size f cdv).kindOf binds fun _ => none) (cellsFrom (s.heap.objs.size + 1) scope.names [])
        (bindC (envOfC qual scope s.heap.objs.size f cdv).kindOf binds fun _ => none) s₁ →
      wpAny (model prog w) (A.deeper (envOfC qual scope s.heap.objs.size f cdv)) (execs body (envOfC qual scope s.heap.objs.size f cdv))
        (fun fl s' => R (.ok (.ret (match fl with | .ret v => v | _ => .none))) s')
        (fun e s' => wpAny (model prog w) (A.deeper (envOfC qual scope s.heap.objs.size f cdv)) (leaving (envOfC qual scope s.heap.objs.size f cdv) e) (fun _ s'' => R (.error e) s'') (fun e' s'' => R (.error e') s'') s') s₁)
    (hco : scope.isCoroutine = false) (hgen : scope.isGenerator = false) (hk : scope.kind = .function) : codeAny (model prog w) A (.call (.ref f) args) R s := by
  refine codeAny_call_function hroom (X _ _ ho) rfl hco hgen rfl (codeRec_of X hcd) (hbind _ _ _ _ ?_)
  refine wpAny_newFunctionEnv_cells hk (kindsX hkind _) fun env he s₁ x => ?_
  subst he
  exact ⟨hlim.keeps x.toInCall.keep, codeAny_func (h s₁ x)⟩
theorem make_obj {R : Result → Shared → Prop} {C fI : Addr} {rest : List Value} {kw : List (Str × Value)}
    (X : K.In s.heap) (hm : makesIn K C = true) (hi : findIn K (.ref C) "__init__" = some (some (.ref fI))) (hf : isFn K (.ref fI) = true)
    (h : codeAny (model prog w) (A.under (.builtin "type.__call__" ⟨.ref C :: rest, kw⟩)) (.call (.ref fI) ⟨.ref (s.heap.objs.size + 1) :: rest, kw⟩) (InitBack (s.heap.objs.size + 1) R)
      { s with heap := (s.heap.push emptyDict).push (instObj C s.heap.objs.size) }) : codeAny (model prog w) A (.call (.ref C) ⟨rest, kw⟩) R s := by
  obtain ⟨hh, g, d, t, os⟩ := s
  exact make_core (makes_of X hm) (looks_findIn X hi) (fun self => bind_fn X self (beq_iff_eq.mp hf)) (.inl rfl) h
theorem get_field {x C : Addr} {ox : Obj} {es : List DictEntry} {n : Nat} {name : Str} {expr : Bool} {v : Value} {Q : Value → Shared → Prop}
    (X : K.In s.heap) (I : PySem.W.InstAt s.heap x ox C (some (dictOf es n))) (hg : plainGet K C name = true) (hh : hasDictIn K C = true) (ha : findIn K (.ref C) name = some none)
    (hl : getL name es = some (some v)) (hv : handedIn v = true) (h : Q v { s with toks := s.toks + 1 }) : wpAny (model prog w) A (getAttr (.ref x) name expr) Q E s :=
  get_value X I (plainGet_of hg).1 (findObj_own hh ha rfl hl) hv h
theorem get_method {x C f : Addr} {ox : Obj} {es : List DictEntry} {n : Nat} {name : Str} {pl : Sem Bool} {Q : Value × List Value → Shared → Prop}
    (X : K.In s.heap) (I : PySem.W.InstAt s.heap x ox C (some (dictOf es n))) (hg : plainGet K C name = true) (hf : findIn K (.ref C) name = some (some (.ref f))) (ht : isFn K (.ref f) = true)
    (hl : getL name es = some none) (h : Q (.ref f, [.ref x]) s) : wpAny (model prog w) A (getMethod (.ref x) name pl) Q E s :=
  method_fn X I (plainGet_of hg).1 (plainGet_of hg).2 hf (beq_iff_eq.mp ht) (by show (lookIn name (dictOf es n)).map _ = _; rw [lookIn_dict, hl]; rfl) h
def noObjs (h : Heap) : Heap := { h with objs := #[] }
theorem noObjs_get (h : Heap) (b : Addr) : (noObjs h).get? b = none := by
  cases e : (noObjs h).get? b with
  | none => rfl
  | some o => exact absurd (Heap.lt_size e) (Nat.not_lt_zero _)
def ledger (h : Heap) (L d : Addr) : List (Addr × Obj) := (List.range h.objs.size).filterMap fun a => if a = L ∨ a = d then none else (h.get? a).map fun o => (a, o)
theorem mem_ledger {h : Heap} {L d a : Addr} {o : Obj} : (a, o) ∈ ledger h L d ↔ a ≠ L ∧ a ≠ d ∧ h.get? a = some o := by
  unfold ledger
  rw [List.mem_filterMap]
  constructor
  · rintro ⟨b, _, e⟩
    split at e
    · cases e
    · rename_i hb
      obtain ⟨o', ho, e'⟩ := Option.map_eq_some_iff.mp e
      cases e'
      exact ⟨fun q => hb (.inl q), fun q => hb (.inr q), ho⟩
  · rintro ⟨n1, n2, ho⟩
    refine ⟨a, List.mem_range.mpr (Heap.lt_size ho), ?_⟩
    rw [if_neg (show ¬ (a = L ∨ a = d) from fun q => q.elim n1 n2), ho] <;> rfl
theorem news_ledger {h : Heap} {L d : Addr} {od : Obj} (hne : d ≠ L) (ho : h.get? d = some od) : News (noObjs h) L h ([] ++ (d, od) :: ledger h L d) := by
  rintro ⟨a, o⟩ hp
  rcases List.mem_cons.mp hp with e | hp
  · cases e
    exact ⟨ho, hne, noObjs_get _ _⟩
  · obtain ⟨n1, n2, e⟩ := mem_ledger.mp hp
    exact ⟨e, n1, noObjs_get _ _⟩
theorem fr_all {h : Heap} {L : Addr} {m : Str → Option Value} (n : h.Ns L m) : Fr (noObjs h) L h m :=
  ⟨n, fun b o e => (by rw [noObjs_get] at e; cases e), Nat.zero_le _⟩
theorem upd_ledger {h : Heap} {L d : Addr} {o o' : Obj} : Upd d o o' ((d, o) :: ledger h L d) ((d, o') :: ledger h L d) :=
  .head fun ⟨_, _⟩ hp => (mem_ledger.mp hp).2.1
theorem set_field {x C dx L : Addr} {ox : Obj} {m : Str → Option Value} {es es' : List DictEntry} {n n' : Nat} {name : Str} {v : Value} {Q : Unit → Shared → Prop}
    (X : K.In s.heap) (I : PySem.W.InstAt s.heap x ox C (some (dictOf es n))) (hd : ox.dict = some dx) (hL : s.heap.Ns L m) (hne : dx ≠ L)
    (hs : findIn K (.ref C) "__setattr__" = some (some (.builtin "object.__setattr__"))) (hp : plainOver K C = true) (ht : takerIn K C name = some none) (hh : hasDictIn K C = true) (hl : (getL name es).isSome = true)
    (e : (putL name (PyData.keyHash w.params name) (.str name (s.toks + 1)) v es, putN name es n) = (es', n')) (hz : es'.length ≤ 1000)
    (h : ∀ h' : Heap, h'.Ns L m → h'.get? dx = some (dictOf es' n') → (∀ b o, b ≠ dx → b ≠ L → s.heap.get? b = some o → h'.get? b = some o) → Q () { s with heap := h', toks := s.toks + 2 }) :
    wpAny (model prog w) A (setAttr (.ref x) name v) Q E s := by
  obtain ⟨e1, e2⟩ := Prod.mk.inj e
  have hdx : s.heap.get? dx = some (dictOf es n) := by
    have := I.dict
    rw [hd] at this
    exact this
  refine set_plain X I hs (osa_dict (s := { s with toks := s.toks + 1 }) (h₀ := noObjs s.heap) (L := L) (m := m) (od := dictOf es n) (od' := dictOf es' n') (es := es') (n := n') (pre := []) (post := ledger s.heap L dx)
    (fr_all hL) (news_ledger hne hdx) X I hd hp ht hh hl (fun _ q => nomatch q) (fun ⟨_, _⟩ q => (mem_ledger.mp q).2.1) (by rw [putName_dict, e1, e2]) rfl hz fun h' F' N' => ?_)
  exact h h' F'.ns (N'.get (List.Mem.head _)) fun b o n1 n2 ho => N'.get (List.Mem.tail _ (mem_ledger.mpr ⟨n2, n1, ho⟩))
end
end Att
namespace L2
open PySem PySem.Spec PyProof.Rows
theorem vals_ints : ∀ {vs : List Value} {ns : List Int}, IntsAre vs ns → Vals (ns.map V.int) vs
  | _, _, .nil => .nil
  | _, _, .cons n t h => .cons ⟨t, rfl⟩ (vals_ints h)
def Only (H : Hp) : Prop := ∀ b, H b = none ∨ ∃ o xs, H b = some (.frz o (.lst xs))
theorem law_call {P : Program} {w : World} {K : PySem.W.Frag} {mg mb : Str → Option Value} {CX : CXT} {k : Nat} {fa a : Addr} {fd : FuncData} {x : Str} {sp : Sp} {s₁ : Shared} {vs : List Value} {ns : List Int}
    (KX : K.In s₁.heap) (hns : s₁.heap.Ns mainGlobals mg) (hb : s₁.heap.Ns builtinsNs mb) (hbb : ∀ x : Str, x ≠ "__name__" → mb x = bootBuiltins x) (hlim : s₁.heap.NoLimit) (hg : s₁.gens = #[])
    (ha : s₁.heap.get? a = some { cls := .type "list", data := .seq vs.toArray }) (hi : IntsAre vs ns) (hl : ns.length ≤ sizeLine) (hr : Room k callerA)
    (F : ∀ base : Heap, K.In base → base.Ns mainGlobals mg → FnOk P w K mg base CX k fa fd [x] sp) (hbind : ∀ (s : Shared) (u : Value), BindsTo s fd ⟨[u], []⟩ [(x, u)])
    (hsp : ∀ H : Hp, Only H → SqL K H a (ns.map V.int) → sp [.ref a] H (fun v _ => v = .bl true) fun _ _ _ => False)
    (hCX : ∀ H e s', CX [] H s₁ (fun _ _ _ => False) e s' → False) :
    codeAny (model P w) callerA (.call (.ref fa) ⟨[.ref a], []⟩) (fun r s' => r = .ok (.ret (.bool true)) ∧ OldK s₁.heap s'.heap ∧ s'.os = s₁.os ∧ AllBare s'.gens) s₁ := by
  have rv := vals_ints hi
  have lenV := hi.length
  have core : ∀ H : Hp, Only H → SqL K H a (ns.map V.int) → HOk P w H s₁.heap → (∀ b, H b ≠ none → b = a) → (H a ≠ none → K.lookup a = none) →
      codeAny (model P w) callerA (.call (.ref fa) ⟨[.ref a], []⟩) (fun r s' => r = .ok (.ret (.bool true)) ∧ OldK s₁.heap s'.heap ∧ s'.os = s₁.os ∧ AllBare s'.gens) s₁ := by
    intro H hO hS hok hA hK
    have base_of : ∀ {b : Addr} {o : Obj}, s₁.heap.get? b = some o → H b = none → (hidT s₁.heap H).get? b = some o := fun e n => hidT_get e n
    have noA : ∀ {b : Addr} {o : Obj} {es : Array DictEntry} {ep : Nat}, s₁.heap.get? b = some o → o.data = .dict es ep → H b = none := fun {b o es ep} e d => by
      cases q : H b with
      | none => rfl
      | some u =>
        have e' : b = a := hA b (by rw [q]; simp)
        subst e'
        rw [ha] at e; cases e
        have d' : Data.seq vs.toArray _ = Data.dict es ep := d
        cases d'
    have nsK : ∀ {b : Addr} {m : Str → Option Value}, s₁.heap.Ns b m → (hidT s₁.heap H).Ns b m := fun {b m} ⟨o, es, ep, e, d, r⟩ => ⟨o, es, ep, base_of e (noA e d), d, r⟩
    have hKb : K.In (hidT s₁.heap H) := fun b o e => base_of (KX b o e) (by
      cases q : H b with
      | none => rfl
      | some u =>
        have e' : b = a := hA b (by rw [q]; simp)
        subst e'
        rw [hK (by rw [q]; simp)] at e; cases e)
    have hM : Mod K mg (hidT s₁.heap H) := ⟨hKb, nsK hns, ⟨mb, nsK hb, hbb⟩, let ⟨mc, h1, h2⟩ := hlim; ⟨mc, nsK h1, h2⟩⟩
    have e0 : Env0 P w K mg (hidT s₁.heap H) callerA [] s₁ H := ⟨rfl, hM, fun b o e => of_hidT e, Nat.le_of_eq (hidT_size _ _), trivial, fun b hb => absurd (show b ∈ ([] : List Addr) from hb) (by simp), hok, .of_eq hg⟩
    refine codeAny_mono ((F _ hKb (nsK hns)).run callerA [] s₁ H ⟨[.ref a], []⟩ [.ref a] [.ref a] _ _ hr e0 (hbind s₁ (.ref a)) (.cons rfl .nil) (hsp H hO hS)) fun r s' h => ?_
    cases r with
    | error e => exact (hCX H e s' h).elim
    | ok fl =>
      cases fl with
      | next => exact False.elim h
      | brk => exact False.elim h
      | cont => exact False.elim h
      | ret u =>
        obtain ⟨v, H', os, bare, un, hok', r', q⟩ := h
        have q' : v = .bl true := q
        subst q'
        obtain rfl : u = Value.bool true := r'
        refine ⟨rfl, OldK.of_keep fun b o e => ?_, os, bare⟩
        cases q : H b with
        | none => exact un.keep b o e q (by intro z; exact absurd (show b ∈ ([] : List Addr) from z) (by simp)) (by simp)
        | some u =>
          rcases hO b with z | ⟨ob, xs, z⟩
          · rw [q] at z; cases z
          · have z2 := un.frzs b ob _ z
            obtain ⟨e1, _⟩ := hok b _ z
            obtain ⟨e2, _⟩ := hok' b _ z2
            rw [e] at e1; cases e1
            exact e2
  cases hk : K.lookup a with
  | some o =>
    have e := KX a o hk
    rw [ha] at e
    cases e
    refine core (fun _ => none) (fun _ => .inl rfl) (.inr ⟨_, vs.toArray, _, hk, rfl, rfl, rfl, by rw [List.size_toArray, lenV]; exact hl, by simpa using rv⟩) (fun b u z => by have z' : (none : Option HO) = some u := z; cases z') (fun b z => absurd rfl z) fun z => absurd rfl z
  | none =>
    refine core (fun b => if b = a then some (.frz { cls := .type "list", data := .seq vs.toArray } (.lst (ns.map V.int))) else none) (fun b => ?_) (.inl (.inr ⟨{ cls := .type "list", data := .seq vs.toArray }, if_pos rfl⟩)) (fun b u z => ?_) (fun b z => ?_) fun _ => hk
    · by_cases hb : b = a
      · exact .inr ⟨_, _, if_pos hb⟩
      · exact .inl (if_neg hb)
    · by_cases hb : b = a
      · have z' := (if_pos hb).symm.trans z
        cases z'
        subst hb
        exact ⟨ha, by rw [List.length_map]; exact hl, vs, _, rv, ha⟩
      · have z' := (if_neg hb).symm.trans z
        cases z'
    · by_cases hb : b = a
      · exact hb
      · exact absurd (if_neg hb) z
end L2
namespace L2
open PySem PySem.Spec PyProof.Rows
abbrev KOf {K : PySem.W.Frag} {h : Heap} (_ : K.In h) : PySem.W.Frag := K
theorem walk_of {l : PySem.W.OpenLaw} {n k : Nat} {q : Program} {loose : List Str} {XP : (Str → Option Value) → Heap → Prop} {YP : World → Heap → Prop} {d : DefRec} {K : Params → PySem.W.Frag} {CX : World → CXT} {sp : World → Sp} {x : Str}
    (hn : l.most = some n) (hn2 : n ≤ sizeLine) (hdf : d.params.defaults = []) (hr : Room k callerA)
    (hY : ∀ (w : World) (h : Heap), YP w h → (K w.params).In h)
    (F : ∀ (w : World) (mg : Str → Option Value) (fa : Addr) (h : Heap), (K w.params).In h → h.Ns mainGlobals mg → mg d.name = some (.ref fa) →
      ∃ fd : FuncData, (∀ (s : Shared) (u : Value), BindsTo s fd ⟨[u], []⟩ [(x, u)]) ∧
        ∀ base : Heap, (K w.params).In base → base.Ns mainGlobals mg → FnOk l.prog w (K w.params) mg base (CX w) k fa fd [x] (sp w))
    (hsp : ∀ (w : World) (H : Hp) (a : Addr) (ns : List Int), ns.length ≤ n → Only H → SqL (K w.params) H a (ns.map V.int) → sp w [.ref a] H (fun v _ => v = .bl true) fun _ _ _ => False)
    (hCX : ∀ (w : World) (H : Hp) (s : Shared) (e : Value) (s' : Shared), CX w [] H s (fun _ _ _ => False) e s' → False) :
    PySem.W.WalkO q loose XP YP l.row.toRowW d [] (fun f vs => PySem.call f vs) := by
  refine Att.attach_call hn hdf fun w s₀ s₁ mg mb fa o pm cd doc a vs ns G Y ho hd hcd hmg hobj hints hlen hg => ?_
  have KX := hY w _ Y
  obtain ⟨fd, hb, hF⟩ := F w mg fa _ KX G.T.g hmg
  exact law_call KX G.T.g G.T.b G.T.builtins G.T.nolimit hg hobj hints (Nat.le_trans hlen hn2) hr hF hb (fun H hO hS => hsp w H a ns hlen hO hS) fun H e s' => hCX w H s₁ e s'
theorem walk_ofK {l : PySem.W.OpenLaw} {n k : Nat} {q : Program} {loose : List Str} {XP : (Str → Option Value) → Heap → Prop} {YP : World → Heap → Prop} {d : DefRec} {K : Params → PySem.W.Frag} {CX : CXT} {sp : PySem.W.Frag → Sp} {x : Str}
    (hn : l.most = some n) (hn2 : n ≤ sizeLine) (hdf : d.params.defaults = []) (hr : Room k callerA)
    (hY : ∀ (w : World) (h : Heap), YP w h → (K w.params).In h)
    (F : ∀ (w : World) (mg : Str → Option Value) (fa : Addr) (h : Heap), (K w.params).In h → h.Ns mainGlobals mg → mg d.name = some (.ref fa) →
      ∃ fd : FuncData, (∀ (s : Shared) (u : Value), BindsTo s fd ⟨[u], []⟩ [(x, u)]) ∧
        ∀ base : Heap, (K w.params).In base → base.Ns mainGlobals mg → FnOk l.prog w (K w.params) mg base CX k fa fd [x] (sp (K w.params)))
    (hsp : ∀ (K : PySem.W.Frag) (H : Hp) (a : Addr) (ns : List Int), ns.length ≤ n → Only H → SqL K H a (ns.map V.int) → sp K [.ref a] H (fun v _ => v = .bl true) fun _ _ _ => False)
    (hCX : ∀ (H : Hp) (s : Shared) (e : Value) (s' : Shared), CX [] H s (fun _ _ _ => False) e s' → False) :
    PySem.W.WalkO q loose XP YP l.row.toRowW d [] (fun f vs => PySem.call f vs) :=
  walk_of (K := K) (CX := fun _ => CX) (sp := fun w => sp (K w.params)) hn hn2 hdf hr hY F (fun w H a ns h1 h2 h3 => hsp (K w.params) H a ns h1 h2 h3) fun _ H s e s' => hCX H s e s'
end L2
/- THE LAST THEOREM (shape; LID, My.* are yours):
   My.Adr: a structure of the addresses that your layer names (classes, functions); My.Txt K t: a structure (Prop) of the equations over K;
   My.txt_mk : {K} {implicit addresses ..} (e1 : nsIn K mainGlobals "law" = some (some (.ref f))) (e2 : K.lookup f = some ⟨oc, od, .func (fnOf "law" "law" params body scope dV kV doc pm an cdv ct), sl⟩) (e3 : codeIn K cdv "law" = true) .. : ∃ t, My.Txt K t
set_option maxRecDepth 100000 in
set_option maxHeartbeats 0 in
theorem PySem.Challenge.cw_LID_holds : PySem.Challenge.rw_LID.Holds := by
  w_on; o_law; k_head; (case hw => w_witness2)
  k_fill
  refine L2.walk_of (l := PySem.Challenge.rw_LID) (n := 63) (k := 40) (x := "script") (CX := fun w => ..) (sp := fun _ => My.sp_law) rfl (by decide) rfl ⟨rfl, by decide, by decide⟩ (fun w h Y => PySem.W.kIn_of Y) ?F ?S ?C
  case F =>
    intro w mg fa h KX G hmg
    have T : ∃ t, My.Txt (L2.KOf KX) t := by
      dsimp only [L2.KOf]                          -- K must stand as «<heap const> w.params» for k_is
      refine' My.txt_mk ?e1 ?e2 ?e3 ..
      (case e1 => PySem.W.k_is)                    -- in the order: a name -> its address -> its object -> its parts
      (case e2 => PySem.W.k_is)
      ..
    obtain ⟨t, T⟩ := T
    have e0 := hmg.symm.trans (PySem.W.mg_of KX G T.law)
    cases e0                                       -- fa is the law's own address
    exact ⟨_, fun s u => .of_eq rfl, fun base kb nb => My.law_fn T kb nb⟩     -- if «.of_eq rfl» comes too early: refine' ⟨_, ?b, fun base kb nb => My.law_fn T kb nb⟩; exact fun s u => .of_eq rfl
  case S => exact fun w H a ns hl hO hS => ..
  case C => exact ..
(the tactic k_is has no namespace: write k_is) -/
namespace L2
open PySem PySem.Spec PyProof.Rows
def inClass (s : Stmt) (j : Nat) : Stmt := match s with
  | .ClassDef _ _ _ body _ _ _ _ _ _ _ => body.getD j (.Pass ⟨0, 0, 0, 0⟩)
  | _ => .Pass ⟨0, 0, 0, 0⟩
def defArgs (s : Stmt) : Arguments := match s with
  | .FunctionDef _ a _ _ _ _ _ _ _ _ => a
  | _ => { posonlyargs := [], args := [], vararg := none, kwonlyargs := [], kw_defaults := [], kwarg := none, defaults := [] }
def defBody (s : Stmt) : List Stmt := match s with
  | .FunctionDef _ _ b _ _ _ _ _ _ _ => b
  | _ => []
def defScope (s : Stmt) : Scope := match s with
  | .FunctionDef _ _ _ _ _ _ sc _ _ _ => sc
  | _ => { kind := .function, names := [], isGenerator := false, isCoroutine := false }
abbrev CX0 : CXT := fun _ _ _ _ _ _ => False
abbrev E0 : XK := fun _ _ _ => False
theorem pass0 {X : Cx} : Passes CX0 X E0 := fun _ _ _ _ _ _ _ h => h.elim
structure Fun (K : PySem.W.Frag) (x qual : Str) (st : Stmt) (f : Addr) (fd : FuncData) : Prop where
  ex : ∃ (oc : Value) (od : Option Addr) (kV doc pm : Value) (an : Option Addr) (cdv ct : Value) (osl : Array (Option Value)),
    fd = PySem.W.fnOf x qual (defArgs st) (defBody st) (defScope st) .none kV doc pm an cdv ct ∧ K.lookup f = some ⟨oc, od, .func fd, osl⟩ ∧ PySem.W.codeIn K cdv qual = true
  kp : PySem.W.keepIn K (.ref f) = true
section
variable {P : Program} {w : World} {K : PySem.W.Frag} {mg : Str → Option Value} {base : Heap}
theorem Fun.ok {x qual : Str} {st : Stmt} {f : Addr} {fd : FuncData} {N ps : List Str} {k : Nat} {sp : Sp} (F : Fun K x qual st f fd) (S : FnScope N ps (defScope st)) (len : ∀ vs H Q E, sp vs H Q E → vs.length = ps.length)
    (hbody : ∀ (cdv : Value) (A : Around) (outer : List Env) (s : Shared) (H : Hp) (vs : List V) (Q : VK) (E : XK), Room k (A.deeper (envOfC qual (defScope st) s.heap.objs.size f cdv)) → sp vs H Q E →
      ∃ t, PSs (cxOf CX0 P w K mg base N qual (defScope st) f cdv A outer s H E).nox (defBody st) t ∧ t { nx := fun _ H' => Q .non H', rt := Q } (start N vs) H) : FnOk P w K mg base CX0 (k + 1) f fd ps sp := by
  obtain ⟨oc, od, kV, doc, pm, an, cdv, ct, osl, rfl, lk, hcd⟩ := F.ex
  refine fn_of lk hcd S len fun A outer s H vs Q E hr hsp => ?_
  obtain ⟨t, h, q⟩ := hbody cdv A outer s H vs Q E hr hsp
  exact ⟨t, h.nox, q⟩
theorem Fun.binds {x qual : Str} {st : Stmt} {f : Addr} {fd : FuncData} {ps : List Str} (F : Fun K x qual st f fd)
    (h : ∀ (kV doc pm : Value) (an : Option Addr) (cdv ct : Value) (us : List Value), us.length = ps.length → bindArgs (PySem.W.fnOf x qual (defArgs st) (defBody st) (defScope st) .none kV doc pm an cdv ct) ⟨us, []⟩ = pure (ps.zip us)) : Binds K fd ps [] := by
  obtain ⟨oc, od, kV, doc, pm, an, cdv, ct, osl, rfl, lk, hcd⟩ := F.ex
  exact .all (h kV doc pm an cdv ct)
theorem fun_mk {x qual : Str} {st : Stmt} {f : Addr} {oc : Value} {od an : Option Addr} {osl : Array (Option Value)} {kV doc pm cdv ct : Value} (l : K.lookup f = some ⟨oc, od, .func (PySem.W.fnOf x qual (defArgs st) (defBody st) (defScope st) .none kV doc pm an cdv ct), osl⟩)
    (c : PySem.W.codeIn K cdv qual = true) (k : PySem.W.keepIn K (.ref f) = true) : Fun K x qual st f (PySem.W.fnOf x qual (defArgs st) (defBody st) (defScope st) .none kV doc pm an cdv ct) := ⟨⟨oc, od, kV, doc, pm, an, cdv, ct, osl, rfl, l, c⟩, k⟩
end
theorem hu_of {A : Around} {k : Nat} (hr : Room k A) : A.units + 1 < cLine := Nat.lt_of_le_of_lt (Nat.add_le_add_left (by decide : 1 ≤ 64) _) hr.units
theorem small1000 {n : Nat} (h : n ≤ 1000) : n < sizeLine := Nat.lt_of_le_of_lt h (by decide)
section
variable {X : Cx}
theorem pv (i : Nat) {x : Str} {pos : Pos} (hN : X.N[i]? = some x := by rfl) (hv : Vis X.env.scope x := by first | exact Or.inl rfl | exact Or.inr (Or.inl rfl) | exact Or.inr (Or.inr rfl)) (hd : (x == ("__debug__" : Str)) = false := by decide)
    (hcd : (x == ("__classdict__" : Str)) = false := by decide) : PE X (.Name x pos) (tVar i) := pe_var hN hv hd hcd
end
theorem iteF {A B : Prop} (h : B) : if false = true then A else B := by
  rw [if_neg Bool.false_ne_true]
  exact h
theorem iteT {A B : Prop} (h : A) : if true = true then A else B := by
  rw [if_pos rfl]
  exact h
theorem ite2 {c A B : Prop} [Decidable c] (h1 : c → A) (h2 : ¬ c → B) : if c then A else B := by
  by_cases h : c
  · rw [if_pos h]
    exact h1 h
  · rw [if_neg h]
    exact h2 h
theorem iteNS {c A B : Prop} [Decidable c] (hc : c) (h : B) : if (!decide c) = true then A else B := by
  rw [decide_eq_true hc]
  exact iteF h
def Same (H H' : Hp) : Prop := ∀ b o, H b = some o → H' b = some o
theorem Same.refl (H : Hp) : Same H H := fun _ _ h => h
theorem Same.trans {H H1 H2 : Hp} (a : Same H H1) (b : Same H1 H2) : Same H H2 := fun c o h => b c o (a c o h)
theorem Same.free {H H' : Hp} (e : Same H H') {l : Addr} (h : H' l = Option.none) : H l = Option.none := by
  cases q : H l with
  | none => rfl
  | some o =>
    rw [e l o q] at h
    cases h
theorem Same.seq {K : PySem.W.Frag} {H H' : Hp} {a : Addr} {xs : List V} (e : Same H H') (h : SqL K H a xs) : SqL K H' a xs := by
  rcases h with (h | ⟨o, h⟩) | h
  · exact .inl (.inl (e _ _ h))
  · exact .inl (.inr ⟨o, e _ _ h⟩)
  · exact .inr h
end L2
namespace L2
open PySem PySem.Spec PyProof.Rows
section
variable {X : Cx}
theorem call_lenD : CallR X (.builtin "len") (fun xs H Q => ∃ a kvs, xs = [V.ref a] ∧ H a = some (.dK kvs) ∧ Q (.int kvs.length) H) := by
  intro pins s σ H xs us Q I r h
  obtain ⟨a, kvs, rfl, ha, q⟩ := h
  obtain ⟨u, rfl, ru⟩ := vals1 r
  cases ru
  exact d_len I (.inl ha) fun t s' I' => ⟨.int kvs.length, H, I', ⟨t, rfl⟩, q⟩
end
section
variable {κ : Type} [DecidableEq κ]
theorem valV_not {kvs : List (κ × V)} {k : κ} (h : valV kvs k = none) : ¬ k ∈ kvs.map (·.1) := by
  intro m
  obtain ⟨p, hp, e⟩ := List.mem_map.mp m
  have q : (kvs.any fun kv => decide (kv.1 = k)) = true := List.any_eq_true.mpr ⟨p, hp, decide_eq_true e⟩
  rw [valV_any, h] at q
  exact absurd q (by simp)
theorem valV_in {kvs : List (κ × V)} {k : κ} {v : V} (h : valV kvs k = some v) : k ∈ kvs.map (·.1) := by
  have q : (kvs.any fun kv => decide (kv.1 = k)) = true := by
    rw [valV_any, h]
    all_goals rfl
  obtain ⟨p, hp, e⟩ := List.any_eq_true.mp q
  exact List.mem_map.mpr ⟨p, hp, of_decide_eq_true e⟩
theorem nd_snoc : ∀ {l : List κ} {k : κ}, l.Nodup → ¬ k ∈ l → (l ++ [k]).Nodup
  | [], k, _, _ => by simp
  | a :: r, k, h, hk => by
    obtain ⟨h1, h2⟩ := List.nodup_cons.mp h
    show (a :: (r ++ [k])).Nodup
    refine List.nodup_cons.mpr ⟨fun m => ?_, nd_snoc h2 fun m => hk (List.mem_cons.mpr (Or.inr m))⟩
    rcases List.mem_append.mp m with q | q
    · exact h1 q
    · exact hk (List.mem_cons.mpr (Or.inl (List.mem_singleton.mp q).symm))
theorem nd_putK {kvs : List (κ × V)} {k : κ} (v : V) (hn : (kvs.map (·.1)).Nodup) (h : valV kvs k = none) : ((putK kvs k v).map (·.1)).Nodup := by
  rw [putK_new v h, List.map_append]
  exact nd_snoc hn (valV_not h)
theorem dropK_pos {p : κ × V} {r : List (κ × V)} {k : κ} (e : p.1 = k) : dropK (p :: r) k = dropK r k := by
  unfold dropK
  rw [List.filter_cons, if_neg (by simp [e])]
theorem dropK_neg {p : κ × V} {r : List (κ × V)} {k : κ} (e : ¬ p.1 = k) : dropK (p :: r) k = p :: dropK r k := by
  unfold dropK
  rw [List.filter_cons, if_pos (by simp [e])]
theorem dropK_no : ∀ {kvs : List (κ × V)} {k : κ}, ¬ k ∈ kvs.map (·.1) → dropK kvs k = kvs
  | [], _, _ => rfl
  | p :: r, k, h => by
    have h' : ¬ k ∈ r.map (·.1) := fun m => by
      obtain ⟨q, hq, e⟩ := List.mem_map.mp m
      exact h (List.mem_map.mpr ⟨q, List.mem_cons.mpr (Or.inr hq), e⟩)
    rw [dropK_neg fun e => h (List.mem_map.mpr ⟨p, List.mem_cons.mpr (Or.inl rfl), e⟩), dropK_no h']
theorem dropK_mem {kvs : List (κ × V)} {k : κ} {p : κ × V} (h : p ∈ dropK kvs k) : p ∈ kvs := (List.mem_filter.mp h).1
theorem nd_dropK : ∀ {kvs : List (κ × V)} {k : κ}, (kvs.map (·.1)).Nodup → ((dropK kvs k).map (·.1)).Nodup
  | [], _, _ => List.nodup_nil
  | p :: r, k, h => by
    have h : (p.1 :: r.map (·.1)).Nodup := h
    obtain ⟨h1, h2⟩ := List.nodup_cons.mp h
    by_cases e : p.1 = k
    · rw [dropK_pos e]
      exact nd_dropK h2
    · rw [dropK_neg e]
      show (p.1 :: (dropK r k).map (·.1)).Nodup
      refine List.nodup_cons.mpr ⟨fun m => h1 ?_, nd_dropK h2⟩
      obtain ⟨q, hq, eq⟩ := List.mem_map.mp m
      exact List.mem_map.mpr ⟨q, dropK_mem hq, eq⟩
theorem dropK_len : ∀ {kvs : List (κ × V)} {k : κ}, (kvs.map (·.1)).Nodup → k ∈ kvs.map (·.1) → (dropK kvs k).length + 1 = kvs.length
  | [], _, _, m => by simp at m
  | p :: r, k, h, m => by
    have h : (p.1 :: r.map (·.1)).Nodup := h
    have m : k = p.1 ∨ k ∈ r.map (·.1) := List.mem_cons.mp m
    obtain ⟨h1, h2⟩ := List.nodup_cons.mp h
    by_cases e : p.1 = k
    · subst e
      rw [dropK_pos rfl, dropK_no h1]
      all_goals rfl
    · have m' : k ∈ r.map (·.1) := m.resolve_left fun z => e z.symm
      have q := dropK_len h2 m'
      rw [dropK_neg e, List.length_cons, List.length_cons]
      omega
end
end L2
set_option Elab.async false
set_option linter.all false
set_option maxRecDepth 100000
set_option maxHeartbeats 4000000
namespace L2
open PySem PySem.Spec PyProof.Rows
def ForOk (J : It) (g : TG) (tb : TS) (D : Ends) (σ : St) (H : Hp) : Prop := ∃ W : Nat → Nat → St → Hp → Prop, (∃ m, W 0 m σ H) ∧ ∀ i m σ H, W i m σ H →
  (J.stop i H ∧ D.nx σ H) ∨ (J.go i H ∧ ∃ N : St → Hp → Prop, (∀ σ' H', N σ' H' → ∃ m', m' < m ∧ W (i + 1) m' σ' H') ∧ ∀ x H', J.yld i H x H' → g x σ H' fun σ2 H2 => tb { D with nx := N, ct := N, bk := D.nx } σ2 H2)
theorem ForOk.list {K : PySem.W.Frag} {a : Addr} {xs : List V} {g : TG} {tb : TS} {D : Ends} {σ : St} {H : Hp} (Pv : Nat → St → Hp → Prop) (h0 : Pv 0 σ H) (hl : ∀ i σ H, i ≤ xs.length → Pv i σ H → SqL K H a xs)
    (hs : ∀ i x σ H, xs[i]? = some x → Pv i σ H → g x σ H fun σ2 H2 => tb { D with nx := Pv (i + 1), ct := Pv (i + 1), bk := D.nx } σ2 H2) (hd : ∀ σ H, Pv xs.length σ H → D.nx σ H) : ForOk (Itl K a) g tb D σ H :=
  for_list Pv h0 hl hs hd
theorem ForOk.tup {K : PySem.W.Frag} {a : Addr} {xs : List V} {g : TG} {tb : TS} {D : Ends} {σ : St} {H : Hp} (Pv : Nat → St → Hp → Prop) (h0 : Pv 0 σ H) (hl : ∀ i σ H, i ≤ xs.length → Pv i σ H → SqT K H a xs)
    (hs : ∀ i x σ H, xs[i]? = some x → Pv i σ H → g x σ H fun σ2 H2 => tb { D with nx := Pv (i + 1), ct := Pv (i + 1), bk := D.nx } σ2 H2) (hd : ∀ σ H, Pv xs.length σ H → D.nx σ H) : ForOk (Itt K a) g tb D σ H :=
  for_tup Pv h0 hl hs hd
theorem ForOk.range {lo : Int} {n : Nat} {g : TG} {tb : TS} {D : Ends} {σ : St} {H : Hp} (Pv : Nat → St → Hp → Prop) (h0 : Pv 0 σ H)
    (hs : ∀ i σ H, i < n → Pv i σ H → g (.int (lo + i)) σ H fun σ2 H2 => tb { D with nx := Pv (i + 1), ct := Pv (i + 1), bk := D.nx } σ2 H2) (hd : ∀ σ H, Pv n σ H → D.nx σ H) : ForOk (Itr lo n) g tb D σ H :=
  for_range Pv h0 hs hd
section
variable {X : Cx} {pins : List (Addr × Obj)} {σ : St} {H H' : Hp} {s : Shared} {h' : Heap}
theorem Inv.turnedL {t' : Nat} {ch : List Addr} (I : Inv X pins σ H s) (hf : ∀ b ∈ ch, FpOk X pins H b) (k : ∀ b o, b ∉ ch → s.heap.get? b = some o → h'.get? b = some o) : Inv X pins σ H { s with heap := h', toks := t' } := by
  have nch : ∀ b u, H b = some u → b ∉ ch := fun b u e z => by rw [(hf b z).1] at e; cases e
  refine I.step (g' := s.gens) (d' := s.drawn) (ch := ch) (fun b hb => ?_) (fun b o _ _ hc e _ => k b o hc e) (fun b o _ _ hc e _ => ⟨o.slots, k b o hc e⟩) (fun _ _ _ _ n => n)
    (fun b o hc e => ⟨o, k b o hc e⟩) (fun _ _ e => e) (fun _ _ _ e => e) (fun b ps e => ⟨#[], by rw [e]; simp⟩) (fun m hm => ?_) (fun b u e => ?_) I.bare
  · obtain ⟨f0, f1, f2, f3, f4, f5⟩ := hf b hb
    exact ⟨f3, f1, f4, f5⟩
  · obtain ⟨o, es, ep, ho, r⟩ := hm
    exact ⟨o, es, ep, k _ o (fun z => (hf _ z).2.1 rfl) ho, r⟩
  · refine (I.hok b u e).stay (fun c v hc q => k c v ?_ q) (fun _ q => q) fun _ _ q => q
    rcases hc with z | z
    · rw [z]; exact nch b u e
    · exact nch c _ z
theorem Inv.turnedNew {t' : Nat} {ch : List Addr} {a : Addr} {o : HO} (I : Inv X pins σ H s) (hf : ∀ b ∈ ch, FpOk X pins H b) (k : ∀ b o, b ∉ ch → s.heap.get? b = some o → h'.get? b = some o) (ha : s.heap.objs.size ≤ a)
    (new : ObjOk X.prog X.w (upd H a o) h' a o) : Inv X pins σ (upd H a o) { s with heap := h', toks := t' } := by
  have hn := I.hok.fresh ha
  have nch : ∀ b u, H b = some u → b ∉ ch := fun b u e z => by rw [(hf b z).1] at e; cases e
  have old : ∀ b ob, s.heap.get? b = some ob → b ≠ a := fun b ob e => Nat.ne_of_lt (Nat.lt_of_lt_of_le (Heap.lt_size e) ha)
  refine I.step (g' := s.gens) (d' := s.drawn) (ch := ch) (fun b hb => ?_) (fun b o _ _ hc e _ => k b o hc e) (fun b o _ _ hc e _ => ⟨o.slots, k b o hc e⟩) (fun b ob _ e n => by rw [upd_ne (old b ob e)]; exact n)
    (fun b o hc e => ⟨o, k b o hc e⟩) (fun b xs e => by rw [upd_ne (ne_of_none e hn)]; exact e) (fun b ob u e => by rw [upd_ne (ne_of_none e hn)]; exact e) (fun b ps e => ⟨#[], by rw [upd_ne (ne_of_none e hn), e]; simp⟩) (fun m hm => ?_) (fun b u e => ?_) I.bare
  · obtain ⟨f0, f1, f2, f3, f4, f5⟩ := hf b hb
    exact ⟨f3, f1, f4, f5⟩
  · obtain ⟨o, es, ep, ho, r⟩ := hm
    exact ⟨o, es, ep, k _ o (fun z => (hf _ z).2.1 rfl) ho, r⟩
  · by_cases hb : b = a
    · subst hb; rw [upd_same] at e; cases e; exact new
    · rw [upd_ne hb] at e
      refine (I.hok b u e).stay (fun c v hc q => k c v ?_ q) (fun c q => by rw [upd_ne (ne_of_none q hn)]; exact q) fun c xs q => by rw [upd_ne (ne_of_none q hn)]; exact q
      rcases hc with z | z
      · rw [z]; exact nch b u e
      · exact nch c _ z
end
def Itz (K : PySem.W.Frag) (a b : Addr) : It :=
  ⟨fun i H => ∃ xs ys x y, SqL K H a xs ∧ SqL K H b ys ∧ xs[i]? = some x ∧ ys[i]? = some y,
   fun i H v H' => ∃ p x y, v = .ref p ∧ H p = none ∧ (∀ xs, SqL K H a xs → xs[i]? = some x) ∧ (∀ ys, SqL K H b ys → ys[i]? = some y) ∧ H' = upd H p (.tup [x, y]),
   fun i H => ∃ xs ys, SqL K H a xs ∧ SqL K H b ys ∧ (xs.length ≤ i ∨ ys.length ≤ i)⟩
theorem turn_zip {P : Program} {w : World} {K : PySem.W.Frag} {elts : List Expr} {kt : Nat} {pt : Pos} {z TI TO i1 i2 a b : Addr} (D : ZipApart z TI TO i1 i2 a b) :
    Turn P w K (.Tuple elts kt pt) (Itz K a b) [z, TI, TO, i1, i2] z
      (fun i h => IsZip h z TI TO .none ∧ IsPair h TI (.ref i1) (.ref i2) ∧ (∃ u v, IsPair h TO u v) ∧ h.IsListIter i1 a i ∧ h.IsListIter i2 b i) where
  mem := by simp
  obj := fun i h st c hc => by
    obtain ⟨hz, hTI, ⟨u, v, hTO⟩, h1, h2⟩ := st
    have hc' : c = z ∨ c = TI ∨ c = TO ∨ c = i1 ∨ c = i2 := by simpa using hc
    rcases hc' with rfl | rfl | rfl | rfl | rfl
    · exact ⟨_, hz, fun v z => by have z' : Data.fields _ = Data.cell v := z; cases z'⟩
    · exact ⟨_, hTI, fun v z => by have z' : Data.seq _ _ = Data.cell v := z; cases z'⟩
    · exact ⟨_, hTO, fun v z => by have z' : Data.seq _ _ = Data.cell v := z; cases z'⟩
    · obtain ⟨o, e, _, d⟩ := h1
      exact ⟨o, e, fun v z => by rw [d] at z; cases z⟩
    · obtain ⟨o, e, _, d⟩ := h2
      exact ⟨o, e, fun v z => by rw [d] at z; cases z⟩
  keep := fun i h h' st k => by
    obtain ⟨hz, hTI, ⟨u, v, hTO⟩, h1, h2⟩ := st
    exact ⟨k z (by simp) _ hz, k TI (by simp) _ hTI, ⟨u, v, k TO (by simp) _ hTO⟩, h1.at fun o e => k i1 (by simp) o e, h2.at fun o e => k i2 (by simp) o e⟩
  item := by
    intro X hP hw hK hc i pins s σ H E I hf st hg
    subst hP hw hK
    obtain ⟨hz, hTI, ⟨u, v, hTO⟩, h1, h2⟩ := st
    obtain ⟨xs, ys, x, y, qa, qb, hx, hy⟩ := hg
    obtain ⟨its, ra, pa, za⟩ := I.list qa
    obtain ⟨jts, rb, pb, zb⟩ := I.list qb
    obtain ⟨ux, hux, rx⟩ := ra.get hx
    obtain ⟨uy, huy, ry⟩ := rb.get hy
    refine wpAny_pyNext_zip_item D hz hTI hTO h1 h2 pa.isList pb.isList (x := ux) (y := uy) (by simpa using hux) (by simpa using huy) fun h' hz' hTO' h1' h2' hT' hsz' kp => ?_
    refine ⟨_, rfl, wpAny_letOwnedTupleGo_zip (s := { s with heap := h' }) hz' fun h'' hz'' sb => ?_⟩
    have hfc : ∀ c ∈ [z, TO, i1, i2], FpOk X pins H c := fun c hc => hf c (by
      have hc' : c = z ∨ c = TO ∨ c = i1 ∨ c = i2 := by simpa using hc
      rcases hc' with rfl | rfl | rfl | rfl <;> simp)
    have kk : ∀ c o, c ∉ [z, TO, i1, i2] → s.heap.get? c = some o → h''.get? c = some o := fun c o hc e => by
      have n1 : c ≠ z := fun q => hc (by simp [q])
      have n2 : c ≠ TO := fun q => hc (by simp [q])
      have n3 : c ≠ i1 := fun q => hc (by simp [q])
      have n4 : c ≠ i2 := fun q => hc (by simp [q])
      exact (sb.2 c n1).trans (kp c o n1 n2 n3 n4 e)
    have zlt : z < s.heap.objs.size := Heap.lt_size hz
    have sz1 : s.heap.objs.size ≠ z := Nat.ne_of_gt zlt
    have hT'' : IsPair h'' s.heap.objs.size ux uy := (sb.2 _ sz1).trans hT'
    have hn : H s.heap.objs.size = none := I.hok.fresh (Nat.le_refl _)
    have I' : Inv X pins σ (upd H s.heap.objs.size (.tup [x, y])) { s with heap := h'', toks := s.toks } :=
      I.turnedNew (t' := s.toks) hfc kk (Nat.le_refl _) ⟨by simp only [List.length_cons, List.length_nil]; rw [sizeLine_eq]; decide, [ux, uy], .cons rx (.cons ry .nil), ⟨_, hT'', rfl, 0, rfl⟩⟩
    refine ⟨.ref s.heap.objs.size, _, I', rfl, ⟨s.heap.objs.size, x, y, rfl, hn, fun xs' q => by rw [I.list_inj q qa]; exact hx, fun ys' q => by rw [I.list_inj q qb]; exact hy, rfl⟩, ⟨hz'', ?_, ⟨ux, uy, (sb.2 _ D.TOz).trans hTO'⟩, ?_, ?_⟩, fun c hc => ?_⟩
    · exact (sb.2 _ D.TIz).trans (kp _ _ D.TIz D.TITO D.TIi1 D.TIi2 hTI)
    · exact h1'.at fun o e => (sb.2 _ D.i1z).trans e
    · exact h2'.at fun o e => (sb.2 _ D.i2z).trans e
    · have hne : c ≠ s.heap.objs.size := by
        have lt : ∀ {d : Addr} {o : Obj}, s.heap.get? d = some o → d ≠ s.heap.objs.size := fun e => Nat.ne_of_lt (Heap.lt_size e)
        have hc' : c = z ∨ c = TI ∨ c = TO ∨ c = i1 ∨ c = i2 := by simpa using hc
        rcases hc' with rfl | rfl | rfl | rfl | rfl
        · exact lt hz
        · exact lt hTI
        · exact lt hTO
        · obtain ⟨o, e, _⟩ := h1; exact lt e
        · obtain ⟨o, e, _⟩ := h2; exact lt e
      rw [upd_ne hne]
      exact (hf c hc).1
  done := by
    intro X hP hw hK hc i pins s σ H E I hf st hg
    subst hP hw hK
    obtain ⟨hz, hTI, ⟨u, v, hTO⟩, h1, h2⟩ := st
    obtain ⟨xs, ys, qa, qb, hend⟩ := hg
    obtain ⟨its, ra, pa, za⟩ := I.list qa
    obtain ⟨jts, rb, pb, zb⟩ := I.list qb
    have la := ra.length
    have lb := rb.length
    have hfc : ∀ c ∈ [z, TO, i1, i2], FpOk X pins H c := fun c hc => hf c (by
      have hc' : c = z ∨ c = TO ∨ c = i1 ∨ c = i2 := by simpa using hc
      rcases hc' with rfl | rfl | rfl | rfl <;> simp)
    refine wpAny_pyNext_zip_end (I.ok.hd hc) D hz hTI hTO h1 h2 pa.isList pb.isList ?_ fun h' kp => ⟨rfl, I.turnedL (t' := s.toks) hfc fun c o hc e => ?_⟩
    · rcases hend with q | q
      · exact .inl (by simp; omega)
      · exact .inr (by simp; omega)
    · exact kp c o (fun q => hc (by simp [q])) (fun q => hc (by simp [q])) (fun q => hc (by simp [q])) (fun q => hc (by simp [q])) e
  self := fun _ _ _ _ _ st h => wpAny_pyIter_zip st.1 h
def iZip (K : PySem.W.Frag) (ta : TA) : TI := fun σ H R => ta σ H fun vs H1 => ∃ a b xs ys, vs = [.ref a, .ref b] ∧ SqL K H1 a xs ∧ SqL K H1 b ys ∧ R (Itz K a b) H1
section
variable {X : Cx}
theorem pi_zip {elts : List Expr} {kt : Nat} {pt : Pos} {a b : Expr} {ta : TA} {p pos : Pos} (hg : Gl X "zip") (hm : X.mg "zip" = none) (ha : PA X [a, b] ta)
    (hs : starEach [a, b] X.env = [(false, eval a X.env), (false, eval b X.env)] := by rfl) (hs2 : starEach [b] X.env = [(false, eval b X.env)] := by rfl) :
    PI X (.Tuple elts kt pt) (.Call (.Name "zip" p) [a, b] [] pos) (iZip X.K ta) := by
  intro pins s σ H R I h
  refine Call_ (ld_blt I hg hm boot_zip (PyProof.Rows.callWith_type1 (thn (ha pos pins s σ H _ I h) fun us s1 ⟨vs, H1, I1, r1, q1⟩ => ?_) (by rw [hs, hs2]) (by rw [hs2]; rfl)))
  obtain ⟨l1, l2, xs, ys, e, qa, qb, q⟩ := q1
  subst e
  obtain ⟨u1, u2, rfl, r, r'⟩ := vals2 r1
  cases r
  cases r'
  obtain ⟨its, ra, pa, za⟩ := I1.list qa
  obtain ⟨jts, rb, pb, zb⟩ := I1.list qb
  have a1 : l1 < s1.heap.objs.size := by obtain ⟨o, _, e, _⟩ := pa; exact Heap.lt_size e
  have a2 : l2 < s1.heap.objs.size := by obtain ⟨o, _, e, _⟩ := pb; exact Heap.lt_size e
  refine call_zip_2 pa.isList pb.isList fun h' hz hTI hTO hi1 hi2 hsz hk => ?_
  have I2 : Inv X pins σ H1 { s1 with heap := h' } := I1.kept (t' := s1.toks) hk
  refine wpAny_pyIter_zip (s := { s1 with heap := h' }) hz ?_
  refine ⟨_, _, _, _, H1, rfl, I2, turn_zip (zipApart_new a1 a2), ⟨hz, hTI, ⟨_, _, hTO⟩, hi1, hi2⟩, fun c hc => ?_, q⟩
  have hge : s1.heap.objs.size ≤ c := by
    have hc' : c = s1.heap.objs.size + 4 ∨ c = s1.heap.objs.size + 2 ∨ c = s1.heap.objs.size + 3 ∨ c = s1.heap.objs.size ∨ c = s1.heap.objs.size + 1 := by simpa using hc
    rcases hc' with rfl | rfl | rfl | rfl | rfl
    · exact Nat.le_add_right _ _
    · exact Nat.le_add_right _ _
    · exact Nat.le_add_right _ _
    · exact Nat.le_refl _
    · exact Nat.le_add_right _ _
  exact I1.fpOk hge (I1.hok.fresh hge)
end
theorem ForOk.zip {K : PySem.W.Frag} {a b : Addr} {xs ys : List V} {g : TG} {tb : TS} {D : Ends} {σ : St} {H : Hp} (hlen : xs.length = ys.length) (Pv : Nat → St → Hp → Prop) (h0 : Pv 0 σ H)
    (hl : ∀ i σ H, i ≤ xs.length → Pv i σ H → SqL K H a xs ∧ SqL K H b ys)
    (hs : ∀ i x y p σ H, xs[i]? = some x → ys[i]? = some y → H p = none → Pv i σ H → g (.ref p) σ (upd H p (.tup [x, y])) fun σ2 H2 => tb { D with nx := Pv (i + 1), ct := Pv (i + 1), bk := D.nx } σ2 H2)
    (hd : ∀ σ H, Pv xs.length σ H → D.nx σ H) : ForOk (Itz K a b) g tb D σ H := by
  refine ⟨fun i m σ H => m = xs.length - i ∧ i ≤ xs.length ∧ Pv i σ H, ⟨xs.length, by simp, Nat.zero_le _, h0⟩, ?_⟩
  rintro i m σ H ⟨rfl, hi, p⟩
  obtain ⟨qa, qb⟩ := hl i σ H hi p
  by_cases hlt : i < xs.length
  · have hlt2 : i < ys.length := by omega
    refine .inr ⟨⟨xs, ys, xs[i], ys[i], qa, qb, by simp [hlt], by simp [hlt2]⟩, Pv (i + 1), fun σ' H' p' => ⟨xs.length - (i + 1), by omega, rfl, hlt, p'⟩, fun v H' yl => ?_⟩
    obtain ⟨q, x, y, rfl, hq, ex, ey, rfl⟩ := yl
    exact hs i x y q σ H (ex xs qa) (ey ys qb) hq p
  · have e : i = xs.length := by omega
    subst e
    exact .inl ⟨⟨xs, ys, qa, qb, .inl (Nat.le_refl _)⟩, hd σ H p⟩
section
variable {X : Cx}
theorem call_isinst : CallR X (.builtin "isinstance") (fun xs H Q => ∃ x n t b, xs = [x, .ty n] ∧ TyOf X.K H x t ∧ PySem.W.kitOne X.K t (.type n) = some b ∧ Q (.bl b) H) := by
  intro pins s σ H xs us Q I r h
  obtain ⟨x, n, t, b, rfl, ty, e, q⟩ := h
  obtain ⟨u, w', rfl, r1, r2⟩ := vals2 r
  cases r2
  exact isinst_ok I r1 ty e fun tk => ⟨.bl b, H, I.tok tk, rfl, q⟩
end
theorem eqInts (is js : List Int) : ((List.range (min is.length js.length)).all (fun j => is[j]? == js[j]?) && is.length == js.length) = decide (is = js) := by
  rw [Bool.eq_iff_iff]
  simp only [Bool.and_eq_true, List.all_eq_true, List.mem_range, beq_iff_eq, decide_eq_true_eq]
  constructor
  · rintro ⟨h, e⟩
    refine List.ext_getElem? fun j => ?_
    by_cases hj : j < is.length
    · exact h j (by omega)
    · rw [List.getElem?_eq_none_iff.mpr (by omega), List.getElem?_eq_none_iff.mpr (by omega)]
  · rintro rfl
    exact ⟨fun _ _ => rfl, rfl⟩
theorem intsV_get {is : List Int} {us : List Value} (r : Vals (is.map V.int) us) {j : Nat} (h : j < us.length) : ∃ i t, is[j]? = some i ∧ us[j] = Value.int i t := by
  have hl := r.length
  rw [List.length_map] at hl
  have hj : j < is.length := by omega
  obtain ⟨u, e, t, q⟩ := r.get (i := j) (x := V.int is[j]) (by simp [hj])
  have e' : us[j] = u := by
    rw [List.getElem?_eq_getElem h] at e
    exact Option.some.inj e
  exact ⟨is[j], t, by simp [hj], by rw [e', q]⟩
section
variable {X : Cx}
theorem tupInts_items {A : Around} {s : Shared} {is js : List Int} {us ws : List Value} (r : Vals (is.map V.int) us) (r' : Vals (js.map V.int) ws) :
    ∀ j (h1 : j < us.toArray.size) (h2 : j < ws.toArray.size), SeqAt.EqAt A s us.toArray[j] ws.toArray[j] (is[j]? == js[j]?) := by
  intro j h1 h2
  obtain ⟨i, t, e1, q1⟩ := intsV_get r (j := j) (by simpa using h1)
  obtain ⟨i', t', e2, q2⟩ := intsV_get r' (j := j) (by simpa using h2)
  have a1 : us.toArray[j] = Value.int i t := by simpa using q1
  have a2 : ws.toArray[j] = Value.int i' t' := by simpa using q2
  have e : (is[j]? == js[j]?) = (i == i') := by rw [e1, e2]; rfl
  rw [a1, a2, e]
  exact SeqAt.EqAt.int_int i t i' t'
theorem op_ne_tup (hu : X.A.units < cLine) : OpR X (compareOp .NotEq) (fun x y H Q => ∃ (p q : Addr) (is js : List Int), x = .ref p ∧ y = .ref q ∧ SqT X.K H p (is.map V.int) ∧ SqT X.K H q (js.map V.int) ∧ Q (.bl (!decide (is = js))) H) := by
  intro pins s σ H x y v u Q I rx ry h
  obtain ⟨p, q, is, js, rfl, rfl, hp, hq, k⟩ := h
  cases rx
  cases ry
  obtain ⟨us, r, ht, hz⟩ := I.tuple hp
  obtain ⟨ws, r', ht', hz'⟩ := I.tuple hq
  have l1 := r.length
  have l2 := r'.length
  rw [List.length_map] at l1 l2
  refine SeqAt.RcNeAt.tuples (e := fun j => is[j]? == js[j]?) (show s.heap.IsTuple p us.toArray from ht) (show s.heap.IsTuple q ws.toArray from ht') hu (tupInts_items r r') X.prog X.w X.xe _ ?_
  refine ⟨.bl (!decide (is = js)), H, I, ?_, k⟩
  show Value.bool _ = Value.bool _
  rw [← eqInts, List.size_toArray, List.size_toArray, ← l1, ← l2]
theorem op_eq_tup (hu : X.A.units < cLine) : OpR X (compareOp .Eq) (fun x y H Q => ∃ (p q : Addr) (is js : List Int), x = .ref p ∧ y = .ref q ∧ SqT X.K H p (is.map V.int) ∧ SqT X.K H q (js.map V.int) ∧ Q (.bl (decide (is = js))) H) := by
  intro pins s σ H x y v u Q I rx ry h
  obtain ⟨p, q, is, js, rfl, rfl, hp, hq, k⟩ := h
  cases rx
  cases ry
  obtain ⟨us, r, ht, hz⟩ := I.tuple hp
  obtain ⟨ws, r', ht', hz'⟩ := I.tuple hq
  have l1 := r.length
  have l2 := r'.length
  rw [List.length_map] at l1 l2
  refine SeqAt.RcAt.tuples (e := fun j => is[j]? == js[j]?) (show s.heap.IsTuple p us.toArray from ht) (show s.heap.IsTuple q ws.toArray from ht') hu (tupInts_items r r') X.prog X.w X.xe _ ?_
  refine ⟨.bl (decide (is = js)), H, I, ?_, k⟩
  show Value.bool _ = Value.bool _
  rw [← eqInts, List.size_toArray, List.size_toArray, ← l1, ← l2]
def rInsert : V → List V → Hp → VK → Prop := fun x vs H Q => ∃ l xs i y, x = .ref l ∧ vs = [.int i, y] ∧ H l = some (.lst xs) ∧ xs.length < sizeLine ∧ 0 ≤ i ∧ i ≤ xs.length ∧ Q .non (upd H l (.lst (xs.take i.toNat ++ y :: xs.drop i.toNat)))
theorem mt_insert : MtM X "list.insert" rInsert := by
  intro pins s σ H x vs v us Q I rx rv h
  obtain ⟨l, xs, i, y, rfl, rfl, hH, hz, h0, h1, q⟩ := h
  cases rx
  obtain ⟨u1, u2, rfl, ⟨t, rfl⟩, ru⟩ := rv.two
  obtain ⟨z, its, n, r, hl, e⟩ := I.lstM hH
  have hs : sizeLine = 16777216 := sizeLine_eq
  have hfit : ¬ (!Builtin.List.listFitsIndex i) = true := by
    have e1 : decide (-(2 ^ 63 : Int) ≤ i) = true := decide_eq_true (by omega)
    have e2 : decide (i < (2 ^ 63 : Int)) = true := decide_eq_true (by omega)
    unfold Builtin.List.listFitsIndex
    rw [e1, e2]
    decide
  refine call_meets F.slot_list_insert ⟨_, e, rfl⟩ F.entry_list_insert (F.args_list_insert_3 _ _ _) (AutoSeq1.list_insert_list_int_val_1 l its.toArray n i t u2 hfit (by rw [List.size_toArray]; omega)) ⟨e, ?_⟩
  have hi : i.toNat ≤ its.length := by omega
  refine ⟨.non, _, I.lset (its' := its.take i.toNat ++ u2 :: its.drop i.toNat) hH e ?_ ((r.take _).append (.cons ru (r.drop _))) ?_, rfl, q⟩
  · have hneg : ¬ i < 0 := by omega
    apply Array.toList_inj.mp
    simp [hneg, Nat.min_eq_left hi]
    exact List.take_of_length_le (by rw [List.length_drop]; omega)
  · rw [List.length_append, List.length_cons, List.length_take, List.length_drop]
    omega
end
end L2
set_option Elab.async false
set_option linter.all false
set_option maxRecDepth 100000
set_option maxHeartbeats 4000000
namespace L2
open PySem PySem.Spec PyProof.Rows
section
variable {σ : St} {H : Hp} {Q : VK} {D : Ends} {i j n : Nat} {ta tb tc te to ti : TE} {r r' : R2} {t u : TS} {g : TG} {gs : TGs} {a : TA} {p q : TT} {v : V} {vs : List V} {R : Bool → Hp → Prop} {W : St → Hp → Prop} {AQ : List V → Hp → Prop} {K : PySem.W.Frag} {sp : Sp} {dvs : List V} {E : XK} {wi : TI} {c : Int → Int → Prop} {f : Int → Int → V} {x y : V}
theorem a_var : tVar i σ H Q = ∃ v, σ[i]? = some (some v) ∧ Q v H := rfl
theorem a_c : tC v σ H Q = Q v H := rfl
theorem a_op : tOp r ta tb σ H Q = ta σ H fun x H1 => tb σ H1 fun y H2 => r x y H2 Q := rfl
theorem a_un {r : V → Hp → VK → Prop} : tUn r ta σ H Q = ta σ H fun x H1 => r x H1 Q := rfl
theorem a_rI : rI c f x y H Q = ∃ i j, x = .int i ∧ y = .int j ∧ c i j ∧ Q (f i j) H := rfl
theorem a_rI0 : rI0 f x y H Q = ∃ i j, x = .int i ∧ y = .int j ∧ Q (f i j) H := rfl
theorem a_rU {f : Int → V} : rU f x H Q = ∃ i, x = .int i ∧ Q (f i) H := rfl
theorem a_rEq : rEq x y H Q = (scal x y = true ∧ Q (.bl (decide (x = y))) H) := rfl
theorem a_rNe : rNe x y H Q = (scal x y = true ∧ Q (.bl (!decide (x = y))) H) := rfl
theorem s_ii {a b : Int} : scal (.int a) (.int b) = true := rfl
theorem s_bb {a b : Bool} : scal (.bl a) (.bl b) = true := rfl
theorem s_ss {a b : Str} : scal (.str a) (.str b) = true := rfl
theorem a_test : tTest te σ H R = te σ H fun x H' => ∃ k, x = .bl k ∧ R k H' := rfl
theorem a_tB : tB te σ H R = te σ H fun x H' => ∃ k, x = .bl k ∧ R k H' := rfl
theorem a_and : tAnd p q σ H R = p σ H fun c H1 => if c = true then q σ H1 R else R false H1 := rfl
theorem a_or : tOr p q σ H R = p σ H fun c H1 => if c = true then R true H1 else q σ H1 R := rfl
theorem a_not : tNot p σ H R = p σ H fun c H1 => R (!c) H1 := rfl
theorem a_andV : tAndV ta tb σ H Q = ta σ H fun x H1 => ∃ c, x = .bl c ∧ if c = true then tb σ H1 Q else Q (.bl false) H1 := rfl
theorem a_orV : tOrV ta tb σ H Q = ta σ H fun x H1 => ∃ c, x = .bl c ∧ if c = true then Q (.bl true) H1 else tb σ H1 Q := rfl
theorem a_notV : tNotV ta σ H Q = ta σ H fun x H1 => ∃ c, x = .bl c ∧ Q (.bl (!c)) H1 := rfl
theorem a_if : tIf p ta tb σ H Q = p σ H fun c H1 => if c = true then ta σ H1 Q else tb σ H1 Q := rfl
theorem a_next : tNext D σ H = D.nx σ H := rfl
theorem a_seq : tSeq t u D σ H = t { D with nx := u D } σ H := rfl
theorem a_brk : tBreak D σ H = D.bk σ H := rfl
theorem a_cont : tCont D σ H = D.ct σ H := rfl
theorem a_drop : tDrop te D σ H = te σ H fun _ H1 => D.nx σ H1 := rfl
theorem a_ret : tRet te D σ H = te σ H D.rt := rfl
theorem a_retN : tRetN D σ H = D.rt .non H := rfl
theorem a_ifS : tIfS p t u D σ H = p σ H fun b H1 => if b = true then t D σ H1 else u D σ H1 := rfl
theorem a_gName : gName i v σ H W = W (σ.set i (some v)) H := rfl
theorem a_gNil : gNil vs σ H W = (vs = [] ∧ W σ H) := rfl
theorem a_gCons : gCons g gs vs σ H W = ∃ v r, vs = v :: r ∧ g v σ H fun σ' H' => gs r σ' H' W := rfl
theorem a_gTup : gTup K n gs v σ H W = ∃ a xs, v = .ref a ∧ SqT K H a xs ∧ xs.length = n ∧ gs xs σ H W := rfl
theorem a_gSub {ts : TSet} : gSub to ti ts v σ H W = to σ H fun o H1 => ti σ H1 fun i H2 => ts o i v H2 fun H3 => W σ H3 := rfl
theorem a_asg : tAsg te g D σ H = te σ H fun x H1 => g x σ H1 D.nx := rfl
theorem a_par : tPar i j a D σ H = a σ H fun vs H1 => ∃ v w, vs = [v, w] ∧ D.nx ((σ.set i (some v)).set j (some w)) H1 := rfl
theorem a_aug {tp : TIp} : tAug i te tp D σ H = ∃ x, σ[i]? = some (some x) ∧ te σ H fun y H1 => tp x y H1 fun z H2 => D.nx (σ.set i (some z)) H2 := rfl
theorem a_ipI {f : Int → Int → Int} : ipI f x y H Q = ∃ i j, x = .int i ∧ y = .int j ∧ Q (.int (f i j)) H := rfl
theorem a_nil : tNil σ H AQ = AQ [] H := rfl
theorem a_cons : tCons te a σ H AQ = te σ H fun x H1 => a σ H1 fun xs H2 => AQ (x :: xs) H2 := rfl
theorem a_tup : tTup a σ H Q = a σ H fun xs H1 => xs.length ≤ sizeLine ∧ ∀ p, H1 p = none → Q (.ref p) (upd H1 p (.tup xs)) := rfl
theorem a_lst : tLst a σ H Q = a σ H fun xs H1 => xs.length ≤ sizeLine ∧ ∀ p, H1 p = none → Q (.ref p) (upd H1 p (.lst xs)) := rfl
theorem a_dnew : tDNewK σ H Q = ∀ p, H p = none → Q (.ref p) (upd H p (.dK [])) := rfl
theorem a_call : tCall sp dvs E a σ H Q = a σ H fun vs H1 => sp (vs ++ dvs) H1 Q E := rfl
theorem a_cb {r : List V → Hp → VK → Prop} : tCB r a σ H Q = a σ H fun vs H1 => r vs H1 Q := rfl
theorem a_bm {T : String} {r : V → List V → Hp → VK → Prop} : tBM K T r to a σ H Q = to σ H fun x H1 => tyV K T x H1 ∧ a σ H1 fun xs H2 => r x xs H2 Q := rfl
theorem a_bm0 {T : String} {r : V → List V → Hp → VK → Prop} : tBM0 K T r to σ H Q = to σ H fun x H1 => tyV K T x H1 ∧ r x [] H1 Q := rfl
theorem a_noPart {OQ : Option Int → Hp → Prop} : tNoPart σ H OQ = OQ none H := rfl
theorem a_part {OQ : Option Int → Hp → Prop} : tPart te σ H OQ = te σ H fun x H1 => ∃ i, x = .int i ∧ OQ (some i) H1 := rfl
theorem a_sl {r : V → Option Int → Option Int → Hp → VK → Prop} {tl th : TO} : tSl r te tl th σ H Q = te σ H fun x H1 => tl σ H1 fun l H2 => th σ H2 fun u H3 => r x l u H3 Q := rfl
theorem a_rSlL {lo hi : Option Int} : rSlL K x lo hi H Q = ∃ a xs, x = .ref a ∧ SqL K H a xs ∧ ∀ p, H p = none → Q (.ref p) (upd H p (.lst (cutV xs lo hi))) := rfl
theorem a_rIxL : rIxL K x y H Q = ∃ p xs i v, x = .ref p ∧ y = .int i ∧ SqL K H p xs ∧ atI xs i = some v ∧ Q v H := rfl
theorem a_rIxT : rIxT K x y H Q = ∃ p xs i v, x = .ref p ∧ y = .int i ∧ SqT K H p xs ∧ atI xs i = some v ∧ Q v H := rfl
theorem a_rSetL {o k z : V} {HQ : Hp → Prop} : rSetL o k z H HQ = ∃ p xs i j, o = .ref p ∧ k = .int i ∧ H p = some (.lst xs) ∧ ixN xs.length i = some j ∧ HQ (upd H p (.lst (xs.set j z))) := rfl
theorem a_append {xs : List V} : rAppend x xs H Q = ∃ l zs y, x = .ref l ∧ xs = [y] ∧ H l = some (.lst zs) ∧ zs.length < sizeLine ∧ Q .non (upd H l (.lst (zs ++ [y]))) := rfl
theorem a_insert {xs : List V} : rInsert x xs H Q = ∃ l zs i y, x = .ref l ∧ xs = [.int i, y] ∧ H l = some (.lst zs) ∧ zs.length < sizeLine ∧ 0 ≤ i ∧ i ≤ zs.length ∧ Q .non (upd H l (.lst (zs.take i.toNat ++ y :: zs.drop i.toNat))) := rfl
theorem a_rIn {neg : Bool} : rIn K neg x y H Q = ∃ p xs, y = .ref p ∧ (SqL K H p xs ∨ SqT K H p xs) ∧ flatV x = true ∧ xs.all flatV = true ∧ Q (.bl (if neg then !inV x xs else inV x xs)) H := rfl
theorem a_din {td ty : TE} : tDIn ty td σ H Q = ty σ H fun y H1 => td σ H1 fun x H2 => ∃ a o, x = .ref a ∧ DGet H2 a y o ∧ Q (.bl o.isSome) H2 := rfl
theorem a_dnotin {td ty : TE} : tDNotIn ty td σ H Q = ty σ H fun y H1 => td σ H1 fun x H2 => ∃ a o, x = .ref a ∧ DGet H2 a y o ∧ Q (.bl (!o.isSome)) H2 := rfl
theorem a_dput {td ty tv : TE} : sDPut td ty tv D σ H = tv σ H fun v H1 => td σ H1 fun x H2 => ty σ H2 fun y H3 => ∃ a H4, x = .ref a ∧ DPut H3 a y v H4 ∧ D.nx σ H4 := rfl
theorem a_for : tFor wi g t D σ H = wi σ H fun J H1 => ForOk J g t D σ H1 := rfl
theorem a_iList {IQ : It → Hp → Prop} : iList K te σ H IQ = te σ H fun x H1 => ∃ a, x = .ref a ∧ (∃ xs, SqL K H1 a xs) ∧ IQ (Itl K a) H1 := rfl
theorem a_iTup {IQ : It → Hp → Prop} : iTup K te σ H IQ = te σ H fun x H1 => ∃ a, x = .ref a ∧ (∃ xs, SqT K H1 a xs) ∧ IQ (Itt K a) H1 := rfl
theorem a_iRng1 {IQ : It → Hp → Prop} : iRng1 a σ H IQ = a σ H fun vs H1 => ∃ j : Int, vs = [.int j] ∧ -(2 ^ 62) ≤ j ∧ j < 2 ^ 62 ∧ IQ (Itr 0 j.toNat) H1 := rfl
theorem a_iZip {IQ : It → Hp → Prop} : iZip K a σ H IQ = a σ H fun vs H1 => ∃ a b xs ys, vs = [.ref a, .ref b] ∧ SqL K H1 a xs ∧ SqL K H1 b ys ∧ IQ (Itz K a b) H1 := rfl
end
end L2
namespace L2
open PySem PySem.Spec PyProof.Rows
theorem a_rRep {x y : V} {H : Hp} {Q : VK} : rRep x y H Q = ∃ l k xs, x = .ref l ∧ y = .int k ∧ H l = some (.lst xs) ∧ -(2 ^ 63) ≤ k ∧ k < 2 ^ 63 ∧ xs.length * k.toNat ≤ sizeLine ∧ ∀ p, H p = none → Q (.ref p) (upd H p (.lst (List.replicate k.toNat xs).flatten)) := rfl
theorem a_rCat {x y : V} {H : Hp} {Q : VK} : rCat x y H Q = ∃ l b xs zs, x = .ref l ∧ y = .ref b ∧ H l = some (.lst xs) ∧ H b = some (.lst zs) ∧ xs.length + zs.length ≤ sizeLine ∧ ∀ p, H p = none → Q (.ref p) (upd H p (.lst (xs ++ zs))) := rfl
end L2
namespace L2
open PySem PySem.Spec PyProof.Rows
theorem seq_step {t u : TS} {D : Ends} {σ : St} {H : Hp} (h : ∀ N : St → Hp → Prop, (∀ σ H, u D σ H → N σ H) → t { D with nx := N } σ H) : tSeq t u D σ H := h (u D) fun _ _ q => q
end L2
set_option Elab.async false
set_option linter.all false
set_option maxRecDepth 100000
set_option maxHeartbeats 4000000
namespace Pw
open PySem L2
theorem cxK {CX : CXT} {P : Program} {w : World} {K : PySem.W.Frag} {mg : Str → Option Value} {base : Heap} {N : List Str} {qual : Str} {scope : Scope} {f : Addr} {cd : Value} {A : Around} {outer : List Env} {s : Shared} {H : Hp} {E : XK} :
    (cxOf CX P w K mg base N qual scope f cd A outer s H E).K = K := rfl
structure FOk (P : Program) (w : World) (K : PySem.W.Frag) (mg : Str → Option Value) (base : Heap) (x : Str) (k : Nat) (ps : List Str) (sp : Sp) (f : Addr) (fd : FuncData) : Prop where
  G : FnOk P w K mg base CX0 k f fd ps sp
  m : mg x = some (.ref f)
  kp : PySem.W.keepIn K (.ref f) = true
  b : Binds K fd ps []
theorem pairedAt {α β : Type} {F : α → β → Prop} : ∀ {l₁ : List α} {l₂ : List β} {i : Nat} {a : α}, Paired F l₁ l₂ → l₁[i]? = some a → ∃ b, l₂[i]? = some b ∧ F a b
  | _, _, _, _, .nil, e => by simp at e
  | _, _, 0, _, .cons r _, e => by simp at e; subst e; exact ⟨_, rfl, r⟩
  | _, _, i + 1, a, .cons _ t, e => by
    obtain ⟨b, h1, h2⟩ := pairedAt (i := i) (a := a) t (by simpa using e)
    exact ⟨b, by simpa using h1, h2⟩
theorem pairedAt' {α β : Type} {F : α → β → Prop} : ∀ {l₁ : List α} {l₂ : List β} {i : Nat} {b : β}, Paired F l₁ l₂ → l₂[i]? = some b → ∃ a, l₁[i]? = some a ∧ F a b
  | _, _, _, _, .nil, e => by simp at e
  | _, _, 0, _, .cons r _, e => by simp at e; subst e; exact ⟨_, rfl, r⟩
  | _, _, i + 1, a, .cons _ t, e => by
    obtain ⟨b, h1, h2⟩ := pairedAt' (i := i) (b := a) t (by simpa using e)
    exact ⟨b, by simpa using h1, h2⟩
theorem pairedSnoc {α β : Type} {F : α → β → Prop} : ∀ {l₁ : List α} {l₂ : List β} {a : α} {b : β}, Paired F l₁ l₂ → F a b → Paired F (l₁ ++ [a]) (l₂ ++ [b])
  | _, _, _, _, .nil, h => .cons h .nil
  | _, _, _, _, .cons r t, h => .cons r (pairedSnoc t h)
theorem pairedMap {α β : Type} {F G : α → β → Prop} (h : ∀ a b, F a b → G a b) : ∀ {l₁ : List α} {l₂ : List β}, Paired F l₁ l₂ → Paired G l₁ l₂
  | _, _, .nil => .nil
  | _, _, .cons r t => .cons (h _ _ r) (pairedMap h t)
def sumI (f : Nat → Int) : Nat → Int
  | 0 => 0
  | n + 1 => sumI f n + f n
theorem sumI_congr {f g : Nat → Int} : ∀ {n : Nat}, (∀ j, j < n → f j = g j) → sumI f n = sumI g n
  | 0, _ => rfl
  | n + 1, h => by
    show sumI f n + f n = sumI g n + g n
    rw [sumI_congr fun j hj => h j (Nat.lt_succ_of_lt hj), h n (Nat.lt_succ_self n)]
theorem sumI_add (f g : Nat → Int) : ∀ n : Nat, sumI (fun j => f j + g j) n = sumI f n + sumI g n
  | 0 => rfl
  | n + 1 => by
    show sumI (fun j => f j + g j) n + (f n + g n) = (sumI f n + f n) + (sumI g n + g n)
    rw [sumI_add f g n]; omega
theorem sumI_sub (f g : Nat → Int) : ∀ n : Nat, sumI (fun j => f j - g j) n = sumI f n - sumI g n
  | 0 => rfl
  | n + 1 => by
    show sumI (fun j => f j - g j) n + (f n - g n) = (sumI f n + f n) - (sumI g n + g n)
    rw [sumI_sub f g n]; omega
abbrev Pipe := Int × Int × Int
def PRow (H : Hp) (p : Addr) (r : Pipe) : Prop := H p = some (.tup [.int r.1, .int r.2.1, .int r.2.2])
def ERow (H : Hp) (p : Addr) (r : Pipe) : Prop := ∃ tl, H p = some (.tup (.int r.1 :: .int r.2.1 :: tl))
theorem erow_of {H : Hp} {ps : List Addr} {rows : List Pipe} (h : Paired (PRow H) ps rows) : Paired (ERow H) ps rows := pairedMap (fun _ _ e => ⟨_, e⟩) h
theorem erows_same {H H' : Hp} (s : Same H H') {ps : List Addr} {rows : List Pipe} (h : Paired (ERow H) ps rows) : Paired (ERow H') ps rows := pairedMap (fun _ _ ⟨tl, e⟩ => ⟨tl, s _ _ e⟩) h
theorem atE0 {x y : V} {tl : List V} : atI (x :: y :: tl) 0 = some x := atI_nat (j := 0) rfl
theorem atE1 {x y : V} {tl : List V} : atI (x :: y :: tl) 1 = some y := atI_nat (j := 1) rfl
theorem rows_same {H H' : Hp} (s : Same H H') {ps : List Addr} {rows : List Pipe} (h : Paired (PRow H) ps rows) : Paired (PRow H') ps rows := pairedMap (fun _ _ e => s _ _ e) h
theorem same_upd {H H' : Hp} {p : Addr} {o : HO} (s : Same H H') (h : H' p = none) : Same H (upd H' p o) := fun b u e => by
  rw [upd_ne (ne_of_none (s b u e) h)]; exact s b u e
theorem same_upd' {H H' : Hp} {p : Addr} {o : HO} (s : Same H H') (h : H p = none) : Same H (upd H' p o) := fun b u e => by
  rw [upd_ne (ne_of_none e h)]; exact s b u e
theorem getMapInt {ns : List Int} {i : Nat} (h : i < ns.length) : (ns.map V.int)[i]? = some (.int (ns.getD i 0)) := by
  simp [List.getElem?_map, List.getD, h]
theorem atMapInt {ns : List Int} {i : Nat} (h : i < ns.length) : atI (ns.map V.int) (i : Int) = some (.int (ns.getD i 0)) := atI_nat (getMapInt h)
theorem atMapRef {ps : List Addr} {i : Nat} {p : Addr} (h : ps[i]? = some p) : atI (ps.map V.ref) (i : Int) = some (.ref p) := atI_nat (by rw [List.getElem?_map, h]; rfl)
theorem kit_self (K : PySem.W.Frag) (T : String) : PySem.W.kitOne K (.type T) (.type T) = some true := by
  unfold PySem.W.kitOne
  rw [if_pos (by simp)]
theorem kit_ib (K : PySem.W.Frag) : PySem.W.kitOne K (.type "int") (.type "bool") = some false := by
  unfold PySem.W.kitOne
  rw [if_neg (by decide +kernel)]
  show (if PySem.W.kitMeta "bool" = true then PySem.W.subIn K (.type "int") (.type "bool") else none) = some false
  rw [if_pos (by decide +kernel)]
  show (fastBuiltinMro "int").map (·.contains (.type "bool")) = some false
  decide +kernel
theorem cut_script {ns : List Int} (h : ns.length ≤ 63) : cutV (ns.map V.int) (some 2) (some 202) = (ns.drop 2).map V.int := by
  unfold cutV
  rw [List.length_map]
  have e1 : HT.sIx ns.length 0 (some 2) = min 2 ns.length := HT.sIx_nat ns.length 0 2
  have e2 : HT.sIx ns.length ns.length (some 202) = min 202 ns.length := HT.sIx_nat ns.length ns.length 202
  rw [e1, e2, List.take_of_length_le (by rw [List.length_drop, List.length_map]; omega), ← List.map_drop]
  by_cases h2 : 2 ≤ ns.length
  · rw [Nat.min_eq_left h2]
  · rw [List.drop_of_length_le (by omega), List.drop_of_length_le (by omega)]
def sel3 (x y z : Int) (i : Int) : Int := if i = 0 then x else if i = 1 then y else z
theorem at3 {x y z i : Int} (h0 : 0 ≤ i) (h2 : i ≤ 2) : atI [V.int x, V.int y, V.int z] i = some (.int (sel3 x y z i)) := by
  have h : i = 0 ∨ i = 1 ∨ i = 2 := by omega
  rcases h with rfl | rfl | rfl <;> rfl
theorem rng_lo {n : Nat} : -(2 ^ 62) ≤ (n : Int) := by omega
theorem rng_hi {n : Nat} (h : n ≤ 1000) : (n : Int) < 2 ^ 62 := by omega
theorem range_map_succ {α : Type} (f : Nat → α) (i : Nat) : (List.range (i + 1)).map f = (List.range i).map f ++ [f i] := by rw [List.range_succ, List.map_append]; rfl
theorem getD_range_map {α : Type} (f : Nat → α) (d : α) {n j : Nat} (h : j < n) : ((List.range n).map f).getD j d = f j := by simp [List.getD, h]
def spWhole : Sp := fun vs H Q _ => ∃ i : Int, vs = [.int i] ∧ Q (.bl true) H
def spAt (K : PySem.W.Frag) : Sp := fun vs H Q _ => ∃ (a : Addr) (ns : List Int) (k : Int), vs = [.ref a, .int k] ∧ SqL K H a (ns.map V.int) ∧ 0 ≤ k ∧ Q (.int (ns.getD k.toNat 0)) H
def spRows : Sp := fun vs H Q _ => ∃ (a b : Addr) (ps : List Addr) (rows : List Pipe), vs = [.ref a, .ref b] ∧ H a = some (.lst (ps.map V.ref)) ∧ H b = some (.lst (ps.map V.ref)) ∧ ps.length ≤ 1000 ∧ Paired (PRow H) ps rows ∧ Q (.bl true) H
def spNumbers : Sp := fun vs H Q _ => ∃ (a b : Addr) (ns : List Int), vs = [.ref a, .ref b] ∧ H a = some (.lst (ns.map V.int)) ∧ H b = some (.lst (ns.map V.int)) ∧ ns.length ≤ 1000 ∧ Q (.bl true) H
def giv (rows : List Pipe) (flows : List Int) (z : Int) (j : Nat) : Int :=
  (if (rows.getD j (0, 0, 0)).1 = z then flows.getD j 0 else 0) - (if (rows.getD j (0, 0, 0)).2.1 = z then flows.getD j 0 else 0)
def spGiven (K : PySem.W.Frag) : Sp := fun vs H Q _ => ∃ (a b : Addr) (ps : List Addr) (rows : List Pipe) (flows : List Int) (z : Int), vs = [.ref a, .ref b, .int z] ∧ SqL K H a (ps.map V.ref) ∧ SqL K H b (flows.map V.int) ∧
  Paired (PRow H) ps rows ∧ ps.length = flows.length ∧ ∀ H', Same H H' → Q (.int (sumI (giv rows flows z) flows.length)) H'
def spMarked (K : PySem.W.Frag) : Sp := fun vs H Q _ => ∃ (a : Addr) (side : List Int), vs = [.ref a] ∧ SqL K H a (side.map V.int) ∧ side.length ≤ 1000 ∧
  ∀ (d : Addr) (kvs : List (Key × V)) (H' : Hp), H d = none → H' d = some (.dK kvs) → (∀ z : Int, (valV kvs (Sum.inl z)).isSome = decide (z ∈ side)) → Same H H' → Q (.ref d) H'
def wid (rows : List Pipe) (side : List Int) (j : Nat) : Int :=
  if (rows.getD j (0, 0, 0)).1 ∈ side ∧ ¬ (rows.getD j (0, 0, 0)).2.1 ∈ side then (rows.getD j (0, 0, 0)).2.2 else 0
def spSideWidth (K : PySem.W.Frag) : Sp := fun vs H Q _ => ∃ (a b : Addr) (ps : List Addr) (rows : List Pipe) (side : List Int), vs = [.ref a, .ref b] ∧ SqL K H a (ps.map V.ref) ∧ SqL K H b (side.map V.int) ∧ side.length ≤ 1000 ∧
  Paired (PRow H) ps rows ∧ ∀ H', Same H H' → Q (.int (sumI (wid rows side) rows.length)) H'
def ovr (rows : List Pipe) (flows side : List Int) (j : Nat) : Int :=
  (if (rows.getD j (0, 0, 0)).1 ∈ side ∧ ¬ (rows.getD j (0, 0, 0)).2.1 ∈ side then flows.getD j 0 else 0) - (if ¬ (rows.getD j (0, 0, 0)).1 ∈ side ∧ (rows.getD j (0, 0, 0)).2.1 ∈ side then flows.getD j 0 else 0)
def spFlowOver (K : PySem.W.Frag) : Sp := fun vs H Q _ => ∃ (a b c : Addr) (ps : List Addr) (rows : List Pipe) (flows side : List Int), vs = [.ref a, .ref b, .ref c] ∧ SqL K H a (ps.map V.ref) ∧ SqL K H b (flows.map V.int) ∧ SqL K H c (side.map V.int) ∧
  side.length ≤ 1000 ∧ Paired (PRow H) ps rows ∧ ps.length = flows.length ∧ ∀ H', Same H H' → Q (.int (sumI (ovr rows flows side) flows.length)) H'
def netL (rows : List Pipe) (flows : List Int) (n i : Nat) : List Int := (List.range n).map fun (z : Nat) => sumI (giv rows flows (z : Int)) i
def spNets (K : PySem.W.Frag) : Sp := fun vs H Q _ => ∃ (a b : Addr) (ps : List Addr) (rows : List Pipe) (flows : List Int) (n : Nat), vs = [.ref a, .ref b, .int n] ∧ SqL K H a (ps.map V.ref) ∧ SqL K H b (flows.map V.int) ∧
  Paired (ERow H) ps rows ∧ ps.length = flows.length ∧ ps.length ≤ 1000 ∧ n ≤ 1000 ∧ (∀ r ∈ rows, 0 ≤ r.1 ∧ r.1 < n ∧ 0 ≤ r.2.1 ∧ r.2.1 < n) ∧
  ∀ (l : Addr) (H' : Hp), H l = none → H' l = some (.lst ((netL rows flows n rows.length).map V.int)) → Same H H' → Q (.ref l) H'
def spLaw (K : PySem.W.Frag) : Sp := fun vs H Q _ => ∃ (a : Addr) (ns : List Int), vs = [.ref a] ∧ SqL K H a (ns.map V.int) ∧ ns.length ≤ 63 ∧ ∀ H', Q (.bl true) H'
end Pw
set_option Elab.async false
set_option linter.all false
set_option maxRecDepth 100000
set_option maxHeartbeats 4000000
namespace L2
open PySem PySem.Spec PyProof.Rows
theorem compLoop_go {prog : Program} {w : World} {A : Around} {R : Result → Shared → Prop} {s : Shared} {elt target iter : Expr} {ifs : List Expr} {scope : Scope} {pos : Pos} {it acc : Value} {env : Env} (I : Nat → Shared → Prop)
    (turn : ∀ n s, I n s → wpAny (model prog w) A (pyNext it) (fun r s₁ => match r with
      | none => R (.ok .next) s₁
      | some v => wpAny (model prog w) A (letOwnedTupleGo target it v) (fun _ s₀ => wpAny (model prog w) A (assign target env v) (fun _ s₂ =>
          wpAny (model prog w) A (forIn ifs true fun c r => if r = true then do let ok ← isTrue c env (eval c env); pure (ForInStep.yield ok) else pure (ForInStep.yield r)) (fun ok s₃ =>
            if ok = true then wpAny (model prog w) A (eval elt env) (fun x s₄ =>
              wpAny (model prog w) A (call (.builtin "list.append") [acc, x]) (fun _ s₅ => ∃ m, m < n ∧ I m s₅) (fun _ _ => False) s₄) (fun _ _ => False) s₃
            else ∃ m, m < n ∧ I m s₃) (fun _ _ => False) s₂) (fun _ _ => False) s₀) (fun _ _ => False) s₁) (fun _ _ => False) s)
    (n : Nat) (h : I n s) : codeAny (model prog w) A (.compLoop (.ListComp elt [⟨target, iter, ifs, 0⟩] scope pos) 0 it acc env) R s := by
  refine codeAny_loop rfl I (fun n s hI => ?_) n h
  show wpAny _ A ((compTurn (.ListComp elt [⟨target, iter, ifs, 0⟩] scope pos) 0 it acc env).onRaise (fun x => do noteFrame x env; theTreesLotGoes x)) _ _ s
  refine wpAny_noted ?_
  rw [compTurn_list]
  refine wpAny_bind (wpAny_standAt (wpAny_bind (wpAny_mono (turn n s hI) (fun r s₁ h₁ => ?_) fun _ _ h' => h'.elim)))
  cases r with
  | none => exact wpAny_pure h₁
  | some v =>
    refine wpAny_bind (wpAny_mono h₁ (fun _ s₀ h₀ => ?_) fun _ _ h' => h'.elim)
    refine wpAny_bind (wpAny_mono h₀ (fun _ s₂ h₂ => wpAny_bind (wpAny_mono h₂ (fun ok s₃ h₃ => ?_) fun _ _ h' => h'.elim)) fun _ _ h' => h'.elim)
    cases ok with
    | false => exact wpAny_pure ⟨rfl, h₃⟩
    | true =>
      exact wpAny_bind (wpAny_bind (wpAny_mono h₃ (fun x s₄ h₄ => wpAny_bind (wpAny_mono h₄ (fun _ s₅ h₅ => wpAny_pure (wpAny_pure ⟨rfl, h₅⟩)) fun _ _ h' => h'.elim)) fun _ _ h' => h'.elim))
theorem closure_ok {env : Env} (names : List (Str × NameKind)) (h : ∀ y, (y, NameKind.free) ∈ names → ∃ c, env.cells.lookup y = some c) : ∀ (cs : List (Str × Addr)),
    ∃ cl, (forIn names cs fun (x : Str × NameKind) (r : List (Str × Addr)) => if (x.2 == NameKind.free) = true then (do let c ← cellOf env x.1; pure (ForInStep.yield ((x.1, c) :: r))) else (pure (ForInStep.yield r) : Sem _)) = pure cl ∧
      (∀ y c, cl.lookup y = some c → cs.lookup y = some c ∨ (env.cells.lookup y = some c ∧ (y, NameKind.free) ∈ names)) ∧ (∀ y, (y, NameKind.free) ∈ names ∨ (∃ c, cs.lookup y = some c) → ∃ c, cl.lookup y = some c) := by
  induction names with
  | nil => intro cs; exact ⟨cs, rfl, fun y c e => .inl e, fun y q => q.elim (fun z => nomatch z) fun z => z⟩
  | cons p r ih =>
    intro cs
    obtain ⟨n, k⟩ := p
    have ih' := ih fun y hy => h y (List.mem_cons_of_mem _ hy)
    by_cases hk : k = .free
    · subst hk
      obtain ⟨c, hc⟩ := h n (List.mem_cons_self ..)
      obtain ⟨cl, e, h1, h2⟩ := ih' ((n, c) :: cs)
      refine ⟨cl, ?_, fun y d q => ?_, fun y q => ?_⟩
      · rw [List.forIn_cons]
        have e0 : cellOf env n = pure c := by unfold cellOf; rw [hc]
        simp only [beq_self_eq_true, if_true, e0, pure_bind]
        exact e
      · rcases h1 y d q with z | ⟨z1, z2⟩
        · rw [List.lookup_cons] at z
          cases hy : y == n with
          | true =>
            rw [hy] at z
            have e1 : y = n := beq_iff_eq.mp hy
            have e2 : c = d := by simpa using z
            rw [e1, ← e2]
            exact .inr ⟨hc, List.mem_cons_self ..⟩
          | false =>
            rw [hy] at z
            exact .inl z
        · exact .inr ⟨z1, List.mem_cons_of_mem _ z2⟩
      · refine h2 y ?_
        by_cases hy : y = n
        · refine .inr ⟨c, ?_⟩
          rw [List.lookup_cons, hy, beq_self_eq_true]
        · rcases q with q | ⟨d, q⟩
          · rcases List.mem_cons.mp q with z | z
            · exact absurd (congrArg Prod.fst z) hy
            · exact .inl z
          · refine .inr ⟨d, ?_⟩
            rw [List.lookup_cons, beq_eq_false_iff_ne.mpr hy]
            exact q
    · obtain ⟨cl, e, h1, h2⟩ := ih' cs
      refine ⟨cl, ?_, fun y d q => ?_, fun y q => ?_⟩
      · rw [List.forIn_cons]
        have hb : (k == NameKind.free) = false := by simpa using hk
        simp only [hb, Bool.false_eq_true, if_false, pure_bind]
        exact e
      · exact (h1 y d q).elim .inl fun z => .inr ⟨z.1, List.mem_cons_of_mem _ z.2⟩
      · refine h2 y (q.elim (fun z => ?_) .inr)
        rcases List.mem_cons.mp z with z | z
        · exact absurd (congrArg Prod.snd z).symm hk
        · exact .inl z
theorem closureFor_ok {scope : Scope} {env : Env} (h : ∀ y, (y, NameKind.free) ∈ scope.names → ∃ c, env.cells.lookup y = some c) :
    ∃ cl, closureFor scope env = pure cl ∧ (∀ y c, cl.lookup y = some c → env.cells.lookup y = some c ∧ (y, NameKind.free) ∈ scope.names) ∧ ∀ y, (y, NameKind.free) ∈ scope.names → ∃ c, cl.lookup y = some c := by
  obtain ⟨cl, e, h1, h2⟩ := closure_ok scope.names h []
  refine ⟨cl, ?_, fun y c q => (h1 y c q).elim (fun z => by simp at z) fun z => z, fun y q => h2 y (.inl q)⟩
  have e' : closureFor scope env = (forIn scope.names ([] : List (Str × Addr)) (fun (x : Str × NameKind) (r : List (Str × Addr)) => if (x.2 == NameKind.free) = true then (do let c ← cellOf env x.1; pure (ForInStep.yield ((x.1, c) :: r))) else (pure (ForInStep.yield r) : Sem _)) >>= fun r => pure r) := by
    unfold closureFor
    rfl
  rw [e', e]
  rfl
theorem relabel_lookup {env : Env} : ∀ {names : List (Str × NameKind)} {y : Str} {k : NameKind},
    (names.map fun (n, k) => if (k == NameKind.free && env.scope.kind == .function && env.kindOf n == some .cell) then (n, NameKind.cell) else (n, k)).lookup y = some k →
    ∃ k', names.lookup y = some k' ∧ (k = k' ∨ (k' = .free ∧ k = .cell))
  | [], _, _, h => by simp at h
  | (n, k0) :: r, y, k, h => by
    have ih := @relabel_lookup env r y k
    have h' : List.lookup y ((if (k0 == NameKind.free && env.scope.kind == .function && env.kindOf n == some .cell) = true then (n, NameKind.cell) else (n, k0)) :: (r.map fun (n, k) => if (k == NameKind.free && env.scope.kind == .function && env.kindOf n == some .cell) then (n, NameKind.cell) else (n, k))) = some k := h
    cases hx : y == n with
    | true =>
      by_cases hc : (k0 == NameKind.free && env.scope.kind == .function && env.kindOf n == some .cell) = true
      · rw [if_pos hc, List.lookup_cons, hx] at h'
        refine ⟨k0, by rw [List.lookup_cons, hx], .inr ⟨?_, (Option.some.inj h').symm⟩⟩
        simp only [Bool.and_eq_true, beq_iff_eq] at hc
        exact hc.1.1
      · rw [if_neg hc, List.lookup_cons, hx] at h'
        exact ⟨k0, by rw [List.lookup_cons, hx], .inl (Option.some.inj h').symm⟩
    | false =>
      have h2 : (r.map fun (n, k) => if (k == NameKind.free && env.scope.kind == .function && env.kindOf n == some .cell) then (n, NameKind.cell) else (n, k)).lookup y = some k := by
        by_cases hc : (k0 == NameKind.free && env.scope.kind == .function && env.kindOf n == some .cell) = true
        · rw [if_pos hc, List.lookup_cons, hx] at h'; exact h'
        · rw [if_neg hc, List.lookup_cons, hx] at h'; exact h'
      obtain ⟨k', e1, e2⟩ := ih h2
      exact ⟨k', by rw [List.lookup_cons, hx]; exact e1, e2⟩
def cxC (X : Cx) (ls : List Str) (scope : Scope) (s : Shared) (H : Hp) (ex : List Addr) (cl : List (Str × Addr)) (C : Addr) : Cx where
  prog := X.prog
  w := X.w
  K := X.K
  mg := X.mg
  base := X.base
  A := X.A
  N := X.N ++ ls
  s₀ := s
  H₀ := H
  env := compEnvC scope cl C X.env
  outer := X.stack
  stack := X.stack
  ex := ex
  fn := fun y => ls.contains y
  calm := X.calm
  pn := []
  xe := fun _ _ => False
theorem cxCK {X : Cx} {ls : List Str} {scope : Scope} {s : Shared} {H : Hp} {ex : List Addr} {cl : List (Str × Addr)} {C : Addr} : (cxC X ls scope s H ex cl C).K = X.K := rfl
structure CompSc (N : List Str) (osc : Scope) (ls : List Str) (scope : Scope) : Prop where
  kind : scope.kind = .function
  cell : ∀ y ∈ scope.names, y.2 ≠ .cell
  loc : ∀ y ∈ scope.names, y.2 = .local → scope.names.lookup y.1 = some .local
  dis : ∀ y ∈ N, scope.names.lookup y ≠ some .local
  nofr : ∀ y ∈ ls, (y, NameKind.free) ∉ scope.names
  free : ∀ y ∈ scope.names, y.2 = .free → osc.names.lookup y.1 = some .cell ∨ osc.names.lookup y.1 = some .free
def PIfs (X : Cx) (ifs : List Expr) (t : TT) : Prop :=
  ∀ (pins : List (Addr × Obj)) (s : Shared) (σ : St) (H : Hp) (Q : Bool → Hp → Prop), Inv X pins σ H s → t σ H Q →
    wpAny (model X.prog X.w) X.A (forIn ifs true fun c r => if r = true then do let ok ← isTrue c X.env (eval c X.env); pure (ForInStep.yield ok) else pure (ForInStep.yield r)) (TP X pins σ Q) X.xe s
def tYes : TT := fun _ H Q => Q true H
theorem pifs_nil {X : Cx} : PIfs X [] tYes := fun _ _ _ H _ I h => wpAny_tests_nil ⟨H, I, h⟩
theorem pifs_one {X : Cx} {c : Expr} {t : TT} (hc : PT X c t) : PIfs X [c] t := fun pins s σ H Q I h => wpAny_tests_one (hc pins s σ H Q I h)
def tEmit (te : TE) (acc : Addr) : TS := fun D σ H => te σ H fun v H1 => ∃ xs, H1 acc = some (.lst xs) ∧ xs.length < sizeLine ∧ D.nx σ (upd H1 acc (.lst (xs ++ [v])))
def tComp (wi : TI) (g : TG) (tc : TT) (te : TE) (nl : Nat) : TE := fun σ H Q => wi σ H fun J H1 => ∀ acc, H1 acc = none →
  ForOk J g (tIfS tc (tEmit te acc) tNext) { nx := fun _ H2 => Q (.ref acc) H2, rt := fun _ _ => False } (σ ++ List.replicate nl none) (upd H1 acc (.lst []))
section
variable {X : Cx} {pins : List (Addr × Obj)} {σ : St} {H : Hp} {s : Shared}
theorem Inv.comp {ls : List Str} {scope : Scope} {fp : List Addr} {cl : List (Str × Addr)} {h₁ : Heap} {tk : Nat} {m : Str → Option Value} (I : Inv X pins σ H s) (S : CompSc X.N X.env.scope ls scope) (hf : ∀ b ∈ fp, FpOk X pins H b)
    (h1 : ∀ y c, cl.lookup y = some c → X.env.cells.lookup y = some c ∧ (y, NameKind.free) ∈ scope.names) (h2 : ∀ y, (y, NameKind.free) ∈ scope.names → ∃ c, cl.lookup y = some c)
    (hfp : ∀ b ∈ fp, b < s.heap.objs.size)
    (hn : h₁.Ns s.heap.objs.size m) (kp : ∀ b o, s.heap.get? b = some o → h₁.get? b = some o) :
    Inv (cxC X ls scope s H fp cl s.heap.objs.size) [] (σ ++ List.replicate ls.length none) H { s with heap := h₁, toks := tk } := by
  have hmem : ∀ {y : Str} {k : NameKind}, scope.names.lookup y = some k → (y, k) ∈ scope.names := fun e => PySem.mem_of_lookup e
  have hkin : ∀ {y : Str} {k : NameKind}, (relabel scope X.env).names.lookup y = some k → ∃ k', scope.names.lookup y = some k' ∧ (k = k' ∨ (k' = .free ∧ k = .cell)) := fun {y k} e => relabel_lookup (env := X.env) e
  have hfr : ∀ {y : Str}, (relabel scope X.env).names.lookup y = some .cell ∨ (relabel scope X.env).names.lookup y = some .free → (y, NameKind.free) ∈ scope.names := fun {y} e => by
    rcases e with e | e
    · obtain ⟨k', q1, q2⟩ := hkin e
      rcases q2 with q2 | ⟨q2, _⟩
      · subst q2
        exact absurd rfl (S.cell _ (hmem q1))
      · subst q2
        exact hmem q1
    · obtain ⟨k', q1, q2⟩ := hkin e
      rcases q2 with q2 | ⟨q2, q3⟩
      · subst q2
        exact hmem q1
      · cases q3
  have nfr : s.heap.objs.size ∉ frs X.stack := fun z => by
    obtain ⟨_, o, ho, _⟩ := I.stack.mem z
    exact absurd (Heap.lt_size ho) (Nat.lt_irrefl _)
  refine ⟨⟨I.ok.mod, S.kind, I.ok.glob, I.ok.blt, Nat.le_refl _, fun y z c e1 e2 => I.ok.inj y z c (h1 y c e1).1 (h1 z c e2).1, fun y hy => h2 y (hfr hy), fun y c hy e => ?_, I.ok.hd, I.ok.frames, .inl rfl, fun b hb => ⟨Nat.ne_of_lt (hfp b hb), fun y c e => ?_⟩,
    I.bs, Nat.le_trans I.ok.bsz I.sz, fun b o e hb => ?_, fun b hb z => ?_, I.stack, I.stkFree⟩, rfl, I.bare, Un.kept kp, ⟨m, hn, fun i y v e1 e2 e3 => ?_⟩, fun y c e => ?_, I.hok.fresh (Nat.le_refl _), fun y c e => I.freeC y c (h1 y c e).1, fun p hp => absurd (show p ∈ ([] : List (Addr × Obj)) from hp) (by simp), I.hok.kept kp, ?_⟩
  · have hy' : y ∈ ls := by
      have q : ls.contains y = true := hy
      exact List.contains_iff_mem.mp q
    exact absurd (h1 y c e).2 (S.nofr y hy')
  · exact (hf b hb).2.2.2.2.1 y c (h1 y c e).1
  · rcases (hf b hb).2.2.2.1 with z | z
    · exact I.ok.noex b o e z
    · exact absurd (Nat.lt_of_lt_of_le (Heap.lt_size e) (Nat.le_trans I.ok.bsz z)) (Nat.lt_irrefl _)
  · rcases List.mem_cons.mp (I.stkSub b z) with q | q
    · exact (hf b hb).2.1 q
    · exact (hf b hb).2.2.1 q
  · have e1 : (X.N ++ ls)[i]? = some y := e1
    have hl := I.len
    by_cases hi : i < X.N.length
    · rw [List.getElem?_append_left hi] at e1
      rw [List.getElem?_append_left (by omega)] at e2
      have hyN : y ∈ X.N := List.mem_of_getElem? e1
      have hf' : (y, NameKind.free) ∈ scope.names := by
        rcases e3 with e3 | e3 | e3
        · obtain ⟨k', q1, q2⟩ := hkin e3
          rcases q2 with q2 | ⟨_, q2⟩
          · subst q2
            exact absurd q1 (S.dis y hyN)
          · cases q2
        · exact hfr (.inl e3)
        · exact hfr (.inr e3)
      have hk : X.env.kindOf y = some .cell ∨ X.env.kindOf y = some .free := S.free _ hf' rfl
      obtain ⟨mX, hnX, hlX⟩ := I.loc
      obtain ⟨u, r, l⟩ := hlX i y v e1 e2 (by
        rcases hk with z | z
        · exact .inr (.inl z)
        · exact .inr (.inr z))
      refine ⟨u, r, .inr ⟨?_, ?_⟩⟩
      · rcases e3 with e3 | e3
        · obtain ⟨k', q1, q2⟩ := hkin e3
          rcases q2 with q2 | ⟨_, q2⟩
          · subst q2
            exact absurd q1 (S.dis y hyN)
          · cases q2
        · exact e3
      · rcases l with ⟨z, _⟩ | ⟨_, c, e, z⟩
        · rcases hk with w' | w' <;> (rw [w'] at z; cases z)
        · obtain ⟨c', e'⟩ := h2 y hf'
          have e'' := (h1 y c' e').1
          rw [e] at e''
          cases e''
          obtain ⟨o, ho, hd⟩ := z
          exact ⟨c, e', o, kp _ _ ho, hd⟩
    · rw [List.getElem?_append_right (by omega), List.getElem?_replicate] at e2
      split at e2 <;> cases e2
  · obtain ⟨v, o, ho, hd⟩ := I.cell y c (h1 y c e).1
    exact ⟨v, o, kp _ _ ho, hd⟩
  · show (σ ++ List.replicate ls.length none).length = (X.N ++ ls).length
    rw [List.length_append, List.length_append, List.length_replicate, I.len]
theorem comp_block {ls : List Str} {scope : Scope} {cl : List (Str × Addr)} {elt tg iter : Expr} {ifs : List Expr} {pos : Pos} {it : Addr} {fp : List Addr} {tn : Nat → Heap → Prop} {J : It} {g : TG} {tc : TT} {te : TE} {Q : VK} {E : Value → Shared → Prop}
    (hc : X.calm = true) (I : Inv X pins σ H s) (S : CompSc X.N X.env.scope ls scope)
    (h1 : ∀ y c, cl.lookup y = some c → X.env.cells.lookup y = some c ∧ (y, NameKind.free) ∈ scope.names) (h2 : ∀ y, (y, NameKind.free) ∈ scope.names → ∃ c, cl.lookup y = some c)
    (T : Turn X.prog X.w X.K tg J fp it tn) (st : tn 0 s.heap) (hf : ∀ b ∈ fp, FpOk X pins H b)
    (hg : ∀ s H ex cl C, PG (cxC X ls scope s H ex cl C) tg g) (hi : ∀ s H ex cl C, PIfs (cxC X ls scope s H ex cl C) ifs tc) (he : ∀ s H ex cl C, PE (cxC X ls scope s H ex cl C) elt te)
    (q : ∀ acc, H acc = none → ForOk J g (tIfS tc (tEmit te acc) tNext) { nx := fun _ H2 => Q (.ref acc) H2, rt := fun _ _ => False } (σ ++ List.replicate ls.length none) (upd H acc (.lst []))) :
    wpAny (model X.prog X.w) X.A (newList []) (fun acc s₃ => wpAny (model X.prog X.w) X.A (newFunctionEnv scope X.env.globals cl [] X.env.qual none .none (some X.env)) (fun cenv s₄ =>
      codeAny (model X.prog X.w) X.A (.compStart (.ListComp elt [⟨tg, iter, ifs, 0⟩] scope pos) 0 (.ref it) acc { cenv with scope := relabel scope X.env })
        (fun r s' => ∃ a H', acc = .ref a ∧ r = .ok .next ∧ Inv X pins σ H' s' ∧ Q (.ref a) H' ∧ (∃ m, s'.heap.Ns cenv.locals m) ∧ FpOk X pins H' cenv.locals) s₄) E s₃) E s := by
  have hn : H s.heap.objs.size = none := I.hok.fresh (Nat.le_refl _)
  obtain ⟨W, ⟨m0, w0⟩, turn⟩ := q _ hn
  have hobj := T.obj 0 _ st
  have hlt : ∀ b ∈ fp, b < s.heap.objs.size := fun b hb => by obtain ⟨o, e, _⟩ := hobj b hb; exact Heap.lt_size e
  refine wpAny_newObj_type ?_
  have I3 : Inv X pins σ (upd H s.heap.objs.size (.lst [])) { s with heap := s.heap.push { cls := .type "list", data := .seq ([] : List Value).toArray } } := I.lnew (its := []) (t' := s.toks) .nil (Nat.zero_le _)
  have f3 : ∀ b ∈ fp, FpOk X pins (upd H s.heap.objs.size (.lst [])) b := fun b hb => by
    obtain ⟨z0, z⟩ := hf b hb
    exact ⟨by rw [upd_ne (Nat.ne_of_lt (hlt b hb))]; exact z0, z⟩
  have st3 : tn 0 (s.heap.push { cls := .type "list", data := .seq ([] : List Value).toArray }) := T.keep _ _ _ st fun b _ o e => Heap.get?_push_of_some _ e
  have hlt3 : ∀ b ∈ fp, b < (s.heap.push { cls := .type "list", data := .seq ([] : List Value).toArray }).objs.size := fun b hb => by rw [Heap.size_push]; exact Nat.lt_succ_of_lt (hlt b hb)
  generalize hs3 : ({ s with heap := s.heap.push { cls := .type "list", data := .seq ([] : List Value).toArray } } : Shared) = s3 at I3
  have eh : s3.heap = s.heap.push { cls := .type "list", data := .seq ([] : List Value).toArray } := by rw [← hs3]
  rw [← eh] at st3 hlt3
  refine wpAny_newFunctionEnv S.cell (by intro y hy; simp at hy) (fun h₁ hns₁ hsb₁ => ?_) S.kind
  have kp : ∀ b o, s3.heap.get? b = some o → h₁.get? b = some o := fun b o e => hsb₁.extBut b o (Nat.ne_of_lt (Heap.lt_size e)) (Heap.get?_push_of_some _ e)
  have Ic : Inv (cxC X ls scope s3 (upd H s.heap.objs.size (.lst [])) fp cl s3.heap.objs.size) [] (σ ++ List.replicate ls.length none) (upd H s.heap.objs.size (.lst [])) { s3 with heap := h₁, toks := s3.toks + ([] : List (Str × Value)).length } :=
    I3.comp S f3 h1 h2 hlt3 hns₁ kp
  have stc : tn 0 h₁ := T.keep _ _ _ st3 fun b _ o e => kp b o e
  have fin : ∀ {σ' : St} {H' : Hp} {s' : Shared}, Inv (cxC X ls scope s3 (upd H s.heap.objs.size (.lst [])) fp cl s3.heap.objs.size) [] σ' H' s' → Inv X pins σ H' s' ∧ (∃ m, s'.heap.Ns s3.heap.objs.size m) ∧ FpOk X pins H' s3.heap.objs.size := fun {σ' H' s'} J' => by
    refine ⟨I3.call' J'.os J'.base J'.hok J'.bare fun b hb => ?_, ?_, I3.fpOk (Nat.le_refl _) J'.free⟩
    · obtain ⟨_, z1, _, z3, z4, z5⟩ := f3 b hb
      exact ⟨z3, z1, z4, z5⟩
    · obtain ⟨m, hm, _⟩ := J'.loc
      exact ⟨m, hm⟩
  have stat : ∀ {H' : Hp}, (∀ b ∈ fp, H' b = none) → ∀ b ∈ fp, FpOk (cxC X ls scope s3 (upd H s.heap.objs.size (.lst [])) fp cl s3.heap.objs.size) [] H' b := fun {H'} z b hb => by
    obtain ⟨_, z1, z2, z3, z4, z5⟩ := f3 b hb
    refine ⟨z b hb, Nat.ne_of_lt (hlt3 b hb), fun w' => ?_, .inl hb, fun y c e => z4 y c (h1 y c e).1, fun p hp => absurd (show p ∈ ([] : List (Addr × Obj)) from hp) (by simp)⟩
    rcases List.mem_cons.mp (I3.stkSub b w') with e | e
    · exact z1 e
    · exact z2 e
  have loop : codeAny (model X.prog X.w) X.A (.compLoop (.ListComp elt [⟨tg, iter, ifs, 0⟩] scope pos) 0 (.ref it) (.ref s.heap.objs.size) (compEnvC scope cl s3.heap.objs.size X.env))
      (fun r s' => ∃ a H', Value.ref s.heap.objs.size = .ref a ∧ r = .ok .next ∧ Inv X pins σ H' s' ∧ Q (.ref a) H' ∧ (∃ m, s'.heap.Ns s3.heap.objs.size m) ∧ FpOk X pins H' s3.heap.objs.size) { s3 with heap := h₁, toks := s3.toks + ([] : List (Str × Value)).length } := by
    refine compLoop_go (fun n s' => ∃ i σ' H', Inv (cxC X ls scope s3 (upd H s.heap.objs.size (.lst [])) fp cl s3.heap.objs.size) [] σ' H' s' ∧ tn i s'.heap ∧ (∀ b ∈ fp, H' b = none) ∧ W i n σ' H') ?_ m0 ⟨0, _, _, Ic, stc, fun b hb => (f3 b hb).1, w0⟩
    rintro n s4 ⟨i, σ4, H4, I4, st4, fr4, w4⟩
    rcases turn i n σ4 H4 w4 with ⟨stop, qn⟩ | ⟨go, Nn, hN, step⟩
    · refine thn (T.done (cxC X ls scope s3 (upd H s.heap.objs.size (.lst [])) fp cl s3.heap.objs.size) rfl rfl rfl hc i [] s4 σ4 H4 (fun _ _ => False) I4 (stat fr4) st4 stop) fun r s5 ⟨hr, I5⟩ => ?_
      subst hr
      obtain ⟨f1, f2, f3'⟩ := fin I5
      exact ⟨_, H4, rfl, rfl, f1, qn, f2, f3'⟩
    · refine thn (T.item (cxC X ls scope s3 (upd H s.heap.objs.size (.lst [])) fp cl s3.heap.objs.size) rfl rfl rfl hc i [] s4 σ4 H4 (fun _ _ => False) I4 (stat fr4) st4 go) fun r s5 ⟨u, hr, h5⟩ => ?_
      subst hr
      refine thn h5 fun _ s6 ⟨x, H6, I6, r6, y6, st6, fr6⟩ => ?_
      have I6' := I6.pinned (stat fr6) (T.obj _ _ st6)
      refine thn (hg _ _ _ _ _ _ s6 σ4 H6 x u _ I6' r6 (step x H6 y6)) fun _ s7 ⟨σ7, H7, I7, q7⟩ => ?_
      refine thn (hi _ _ _ _ _ _ s7 σ7 H7 _ I7 q7) fun ok s8 ⟨H8, I8, q8⟩ => ?_
      have again : ∀ {σ9 : St} {H9 : Hp} {s9 : Shared}, Inv (cxC X ls scope s3 (upd H s.heap.objs.size (.lst [])) fp cl s3.heap.objs.size) ([] ++ pinsAt fp s6.heap) σ9 H9 s9 → Nn σ9 H9 →
          ∃ m, m < n ∧ ∃ i σ' H', Inv (cxC X ls scope s3 (upd H s.heap.objs.size (.lst [])) fp cl s3.heap.objs.size) [] σ' H' s9 ∧ tn i s9.heap ∧ (∀ b ∈ fp, H' b = none) ∧ W i m σ' H' := fun {σ9 H9 s9} I9 n9 => by
        obtain ⟨m', hm, w9⟩ := hN σ9 H9 n9
        refine ⟨m', hm, i + 1, σ9, H9, I9.unpinned, T.keep _ _ _ st6 fun b hb o e => (I9.pin (b, o) (List.mem_append_right _ (List.mem_append_right _ (mem_pinsAt hb e)))).1, fun b hb => ?_, w9⟩
        obtain ⟨o, e, d⟩ := T.obj _ _ st6 b hb
        exact (I9.pin (b, o) (List.mem_append_right _ (List.mem_append_right _ (mem_pinsAt hb e)))).2.1
      cases ok with
      | false =>
        rw [if_neg Bool.false_ne_true]
        exact again I8 q8
      | true =>
        rw [if_pos rfl]
        refine thn (he _ _ _ _ _ _ s8 σ7 H8 _ I8 q8) fun y s9 ⟨v, H9, I9, r9, xs, q9, z9, n9⟩ => ?_
        exact thn (mt_append _ s9 σ7 H9 (.ref s.heap.objs.size) [v] (.ref s.heap.objs.size) [y] (fun _ H => Nn σ7 H) I9 rfl (.cons r9 .nil) ⟨_, xs, v, rfl, rfl, q9, z9, n9⟩) fun _ s10 ⟨_, H10, I10, _, n10⟩ => again I10 n10
  exact codeAny_compStart_list loop (T.self X.A 0 _ _ _ stc loop)
theorem pe_comp {ls : List Str} {scope : Scope} {elt tg iter : Expr} {ifs : List Expr} {pos : Pos} {wi : TI} {g : TG} {tc : TT} {te : TE} (hc : X.calm = true) (S : CompSc X.N X.env.scope ls scope) (hit : PI X tg iter wi)
    (hg : ∀ s H ex cl C, PG (cxC X ls scope s H ex cl C) tg g) (hi : ∀ s H ex cl C, PIfs (cxC X ls scope s H ex cl C) ifs tc) (he : ∀ s H ex cl C, PE (cxC X ls scope s H ex cl C) elt te)
    (hs : ∀ x, foldedSetIterable iter X.env x = pure x := by intro _; rfl) : PE X (.ListComp elt [⟨tg, iter, ifs, 0⟩] scope pos) (tComp wi g tc te ls.length) := by
  intro pins s σ H Q I h
  obtain ⟨cl, hcl, h1, h2⟩ := closureFor_ok (scope := scope) (env := X.env) fun y hy => I.ok.has y (S.free _ hy rfl)
  rw [eval_ListComp]
  refine wpAny_comprehension_free (use := none) rfl hs hcl S.kind S.loc (thn (hit pins s σ H _ I h) fun v s1 h1' => thn h1' fun itv s2 h2' => ?_)
  obtain ⟨it, fp, tn, J, H2, e, I2, T, st2, f2, q⟩ := h2'
  subst e
  refine thn (comp_block hc I2 S h1 h2 T st2 f2 hg hi he q) fun acc s3 h3 => thn h3 fun cenv s4 h4 => codeAny_mono h4 fun r s' h5 => ?_
  obtain ⟨a, H', rfl, rfl, I', q', ⟨m, hm⟩, F⟩ := h5
  refine ⟨m, hm, fun h' sb => ⟨.ref a, H', ?_, rfl, q'⟩⟩
  obtain ⟨z0, z1, z2, z3, z4, z5⟩ := F
  exact I'.turned (t' := s'.toks) (fun b o hb e => (sb.2 b hb).trans e) z0 z1 z3 z4 z5
theorem ps_setComp {ls : List Str} {scope : Scope} {elt tg iter : Expr} {ifs : List Expr} {pos spos py : Pos} {i : Nat} {y : Str} {wi : TI} {g : TG} {tc : TT} {te : TE} (hc : X.calm = true) (S : CompSc X.N X.env.scope ls scope) (hN : X.N.Nodup) (hyi : X.N[i]? = some y) (hy : X.env.scope.names.lookup y = some .local)
    (hit : PI X tg iter wi) (hg : ∀ s H ex cl C, PG (cxC X ls scope s H ex cl C) tg g) (hi : ∀ s H ex cl C, PIfs (cxC X ls scope s H ex cl C) ifs tc) (he : ∀ s H ex cl C, PE (cxC X ls scope s H ex cl C) elt te)
    (hsw : swapsWith (.ListComp elt [⟨tg, iter, ifs, 0⟩] scope pos) (some (.Name y py)) spos.line X.env = pure true := by rfl)
    (hs : ∀ x, foldedSetIterable iter X.env x = pure x := by intro _; rfl) :
    PS X (.Assign [.Name y py] (.ListComp elt [⟨tg, iter, ifs, 0⟩] scope pos) spos) (tAsg (tComp wi g tc te ls.length) (gName i)) := by
  intro pins s σ H D I h
  obtain ⟨cl, hcl, h1, h2⟩ := closureFor_ok (scope := scope) (env := X.env) fun y hy => I.ok.has y (S.free _ hy rfl)
  rw [exec_Assign_Name_used _ _ _ _ hsw]
  refine wpAny_bind (wpAny_standAt (wpAny_bind ?_))
  rw [arm_evalThenUse_ListComp]
  refine wpAny_bind (wpAny_comprehension_free (use := some _) rfl hs hcl S.kind S.loc (thn (hit pins s σ H _ I h) fun v s1 h1' => thn h1' fun itv s2 h2' => ?_))
  obtain ⟨it, fp, tn, J, H2, e, I2, T, st2, f2, q⟩ := h2'
  subst e
  refine thn (comp_block (Q := fun x H1 => gName i x σ H1 D.nx) hc I2 S h1 h2 T st2 f2 hg hi he q) fun acc s3 h3 => thn h3 fun cenv s4 h4 => codeAny_mono h4 fun r s' h5 => ?_
  obtain ⟨a, H', rfl, rfl, I', q', ⟨m, hm⟩, F⟩ := h5
  obtain ⟨z0, z1, z2, z3, z4, z5⟩ := F
  refine wpAny_assign_Name (store_ok2 I' hN hyi (.inl hy) (v := .ref a) rfl (fun s5 I5 sb5 => ?_) (.inr hy))
  obtain ⟨L, sL, hL⟩ := sb5
  have nL : cenv.locals ≠ L := by
    rcases hL with e | e
    · rw [e]; exact z1
    · exact fun z => z4 y L e z.symm
  refine ⟨m, hm.sameBut sL nL, fun h' sb => wpAny_pure (wpAny_pure ⟨_, H', ?_, q'⟩)⟩
  exact I5.turned (t' := s5.toks) (fun b o hb e => (sb.2 b hb).trans e) z0 z1 z3 z4 z5
end
end L2
set_option Elab.async false
set_option linter.all false
set_option maxRecDepth 100000
set_option maxHeartbeats 4000000
namespace L2
open PySem PySem.Spec PyProof.Rows
theorem fm_congr {α β : Type} {f g : α → Option β} : ∀ {l : List α}, (∀ x ∈ l, f x = g x) → l.filterMap f = l.filterMap g
  | [], _ => rfl
  | x :: l, h => by
    rw [List.filterMap_cons, List.filterMap_cons, h x (List.mem_cons_self ..), fm_congr fun y hy => h y (List.mem_cons_of_mem _ hy)]
def pickG {α : Type} (xs : List α) (lo hi st : Option Int) : List α :=
  (sliceRange (sliceBounds lo hi st xs.length).1 (sliceBounds lo hi st xs.length).2.1 (sliceBounds lo hi st xs.length).2.2).filterMap (xs[·]?)
theorem pickG_map {α β : Type} (f : α → β) (xs : List α) (lo hi st : Option Int) : pickG (xs.map f) lo hi st = (pickG xs lo hi st).map f := by
  unfold pickG
  rw [List.length_map, List.map_filterMap]
  congr 1
  funext i
  rw [List.getElem?_map]
theorem Vals.pick {xs : List V} {us : List Value} (r : Vals xs us) : ∀ l : List Nat, Vals (l.filterMap (xs[·]?)) (l.filterMap (us[·]?))
  | [] => .nil
  | i :: l => by
    rw [List.filterMap_cons, List.filterMap_cons]
    cases e : xs[i]? with
    | none => rw [r.none_of e]; exact Vals.pick r l
    | some x =>
      obtain ⟨u, h1, h2⟩ := r.get e
      rw [h1]
      exact .cons h2 (Vals.pick r l)
def tSlS (K : PySem.W.Frag) (te : TE) (tl th tp : TO) : TE := fun σ H Q => te σ H fun x H1 => tl σ H1 fun l H2 => th σ H2 fun u H3 => tp σ H3 fun k H4 =>
  ∃ a xs, x = .ref a ∧ SqL K H4 a xs ∧ k ≠ some 0 ∧ (pickG xs l u k).length ≤ sizeLine ∧ ∀ p, H4 p = none → Q (.ref p) (upd H4 p (.lst (pickG xs l u k)))
section
variable {X : Cx} {e : Expr} {te : TE} {lo hi : Option Expr} {st : Expr} {tl th tp : TO} {pos p2 : Pos}
theorem pe_sliceS (he : PE X e te) (hl : PO X lo tl) (hu : PO X hi th) (hst : PO X (some st) tp) : PE X (.Subscript e (.Slice lo hi (some st) p2) pos) (tSlS X.K te tl th tp) := by
  intro pins s σ H Q I h
  refine Subscript_ (thn (he pins s σ H _ I h) fun v s1 ⟨x, H1, I1, r1, q1⟩ => ?_)
  refine wpAny_Slice (thn (hl pins s1 σ H1 _ I1 q1) fun vl s2 ⟨l, H2, I2, pl, q2⟩ => thn (hu pins s2 σ H2 _ I2 q2) fun vu s3 ⟨u, H3, I3, pu, q3⟩ => thn (hst pins s3 σ H3 _ I3 q3) fun vk s4 ⟨k, H4, I4, pk, q4⟩ => ?_)
  obtain ⟨a, xs, rfl, hx, hk, hz, q⟩ := q4
  cases r1
  have I5 : Inv X pins σ H4 { s4 with heap := s4.heap.push { cls := .type "slice", data := .fields #[vl, vu, vk] } } := I4.kept (t' := s4.toks) fun b ob q => Heap.get?_push_of_some _ q
  obtain ⟨its, r, ht, hzl⟩ := I5.list hx
  have hlen := r.length
  show wpAny (model X.prog X.w) X.A (subscriptTail e (.Slice lo hi (some st) p2) (.ref a) (.ref s4.heap.objs.size)) (EP X pins σ Q) X.xe { s4 with heap := s4.heap.push { cls := .type "slice", data := .fields #[vl, vu, vk] } }
  refine tail_any (ops := [.ref a, .ref s4.heap.objs.size]) ht.isList.typeIs slot_list_getitem.lookup (wpAny_getItem_list_slice ht.isList (Heap.IsSliceOf.new ..) pl pu pk hk ?_ (by rw [List.size_toArray] <;> omega)) (by with_unfolding_all rfl)
  have ep : slicePick its.toArray l u k = (pickG its l u k).toArray := by
    unfold slicePick pickG
    simp
  rw [ep]
  refine ⟨.ref _, _, I5.lnew (t' := s4.toks) (its := pickG its l u k) (ys := pickG xs l u k) ?_ hz, rfl, q _ (I5.hok.fresh (Nat.le_refl _))⟩
  unfold pickG
  rw [hlen]
  exact r.pick _
end
theorem a_slS {K : PySem.W.Frag} {te : TE} {tl th tp : TO} {σ : St} {H : Hp} {Q : VK} : tSlS K te tl th tp σ H Q = te σ H fun x H1 => tl σ H1 fun l H2 => th σ H2 fun u H3 => tp σ H3 fun k H4 =>
  ∃ a xs, x = .ref a ∧ SqL K H4 a xs ∧ k ≠ some 0 ∧ (pickG xs l u k).length ≤ sizeLine ∧ ∀ p, H4 p = none → Q (.ref p) (upd H4 p (.lst (pickG xs l u k))) := rfl
theorem a_comp {wi : TI} {g : TG} {tc : TT} {te : TE} {n : Nat} {σ : St} {H : Hp} {Q : VK} : tComp wi g tc te n σ H Q = wi σ H fun J H1 => ∀ acc, H1 acc = none →
  ForOk J g (tIfS tc (tEmit te acc) tNext) { nx := fun _ H2 => Q (.ref acc) H2, rt := fun _ _ => False } (σ ++ List.replicate n none) (upd H1 acc (.lst [])) := rfl
theorem a_emit {te : TE} {acc : Addr} {D : Ends} {σ : St} {H : Hp} : tEmit te acc D σ H = te σ H fun v H1 => ∃ xs, H1 acc = some (.lst xs) ∧ xs.length < sizeLine ∧ D.nx σ (upd H1 acc (.lst (xs ++ [v]))) := rfl
theorem a_yes {σ : St} {H : Hp} {R : Bool → Hp → Prop} : tYes σ H R = R true H := rfl
theorem pick2 {α : Type} (xs : List α) (b : Nat) (hb : b ≤ 1) : pickG xs (some (b : Int)) none (some 2) = (List.range ((xs.length + 1 - b) / 2)).filterMap fun k => xs[b + 2 * k]? := by
  unfold pickG
  have e1 : (sliceBounds (some (b : Int)) none (some 2) xs.length).1 = ((min b xs.length : Nat) : Int) := by
    simp only [sliceBounds, Option.getD_some, show (2 : Int) > 0 by decide, if_true]
    rw [if_neg (by omega)]
    omega
  have e2 : (sliceBounds (some (b : Int)) none (some 2) xs.length).2.1 = (xs.length : Int) := by
    simp only [sliceBounds, Option.getD_some, show (2 : Int) > 0 by decide, if_true]
  have e3 : (sliceBounds (some (b : Int)) none (some 2) xs.length).2.2 = 2 := rfl
  rw [e1, e2, e3]
  unfold sliceRange
  simp only [show (2 : Int) > 0 by decide, if_true]
  have e4 : (if ((min b xs.length : Nat) : Int) < xs.length then ((xs.length : Int) - (min b xs.length : Nat) + 2 - 1) / 2 else 0).toNat = (xs.length + 1 - b) / 2 := by
    by_cases h : b < xs.length
    · rw [Nat.min_eq_left (by omega), if_pos (by omega)]
      omega
    · rw [Nat.min_eq_right (by omega), if_neg (by omega)]
      omega
  rw [e4, List.filterMap_map]
  refine fm_congr fun k hk => ?_
  have hk' : k < (xs.length + 1 - b) / 2 := List.mem_range.mp hk
  have e5 : (((min b xs.length : Nat) : Int) + 2 * (k : Int)).toNat = b + 2 * k := by
    rw [Nat.min_eq_left (by omega)]
    omega
  show xs[(((min b xs.length : Nat) : Int) + 2 * (k : Int)).toNat]? = _
  rw [e5]
theorem pick2_len {α : Type} (xs : List α) (b : Nat) (hb : b ≤ 1) : (pickG xs (some (b : Int)) none (some 2)).length = (xs.length + 1 - b) / 2 := by
  rw [pick2 xs b hb]
  have all : ∀ (m : Nat), m ≤ (xs.length + 1 - b) / 2 → ((List.range m).filterMap fun k => xs[b + 2 * k]?).length = m := by
    intro m
    induction m with
    | zero => intro _; rfl
    | succ m ih =>
      intro h
      rw [List.range_succ, List.filterMap_append, List.length_append, ih (by omega)]
      rw [List.filterMap_cons, List.getElem?_eq_getElem (by omega)]
      rfl
  exact all _ (Nat.le_refl _)
theorem pick2_mem {α : Type} {xs : List α} {lo hi st : Option Int} {x : α} (h : x ∈ pickG xs lo hi st) : x ∈ xs := by
  unfold pickG at h
  obtain ⟨i, _, e⟩ := List.mem_filterMap.mp h
  exact List.mem_of_getElem? e
theorem pickG_paired {α β : Type} {F : α → β → Prop} {xs : List α} {ys : List β} (h : Paired F xs ys) (lo hi st : Option Int) : Paired F (pickG xs lo hi st) (pickG ys lo hi st) := by
  unfold pickG
  rw [Paired.length h]
  generalize sliceRange _ _ _ = l
  induction l with
  | nil => exact .nil
  | cons i l ih =>
    rw [List.filterMap_cons, List.filterMap_cons]
    cases e : xs[i]? with
    | none =>
      have q : ys[i]? = none := by
        rw [List.getElem?_eq_none_iff] at e ⊢
        rw [← Paired.length h]; exact e
      rw [q]; exact ih
    | some x =>
      obtain ⟨y, h1, h2⟩ := Pw.pairedAt h e
      rw [h1]
      exact .cons h2 ih
theorem pairedApp {α β : Type} {F : α → β → Prop} : ∀ {l₁ l₃ : List α} {l₂ l₄ : List β}, Paired F l₁ l₂ → Paired F l₃ l₄ → Paired F (l₁ ++ l₃) (l₂ ++ l₄)
  | _, _, _, _, .nil, h => h
  | _, _, _, _, .cons r t, h => .cons r (pairedApp t h)
end L2
set_option Elab.async false
set_option linter.all false
set_option maxRecDepth 100000
set_option maxHeartbeats 4000000
namespace Pw
open PySem L2
def Fit (n : Int) (rows : List Pipe) : Prop := ∀ r ∈ rows, (0 ≤ r.1 ∧ r.1 < n) ∧ (0 ≤ r.2.1 ∧ r.2.1 < n) ∧ 0 ≤ r.2.2
def spDrawn (K : PySem.W.Frag) : Sp := fun vs H Q _ => ∃ (a : Addr) (cells : List Int) (wide last : Int), vs = [.ref a, .int wide, .int last] ∧ SqL K H a (cells.map V.int) ∧ cells.length ≤ 200 ∧ 0 < wide ∧ wide < 1000 ∧
  (cells.length : Int) / wide ≤ last ∧ last ≤ 1000 ∧
  ∀ (l : Addr) (ps : List Addr) (rows : List Pipe) (H' : Hp), H l = none → H' l = some (.lst (ps.map V.ref)) → Paired (PRow H') ps rows → rows.length = cells.length → Fit (last + 1) rows → Same H H' → Q (.ref l) H'
def spTurned (K : PySem.W.Frag) : Sp := fun vs H Q _ => ∃ (a : Addr) (ps : List Addr) (rows : List Pipe) (turn count : Int), vs = [.ref a, .int turn, .int count] ∧ SqL K H a (ps.map V.ref) ∧ ps.length ≤ 200 ∧ Paired (PRow H) ps rows ∧ 0 < count ∧ Fit count rows ∧
  ∀ (l : Addr) (ps' : List Addr) (rows' : List Pipe) (H' : Hp), H l = none → H' l = some (.lst (ps'.map V.ref)) → Paired (PRow H') ps' rows' → rows'.length = rows.length → Fit count rows' → Same H H' → Q (.ref l) H'
inductive Reach (rows : List Pipe) (flows : List Int) (s : Int) : Int → Prop
  | refl : Reach rows flows s s
  | along {j : Nat} {r : Pipe} (h : Reach rows flows s r.1) (e : rows[j]? = some r) (f : flows.getD j 0 < r.2.2) : Reach rows flows s r.2.1
  | against {j : Nat} {r : Pipe} (h : Reach rows flows s r.2.1) (e : rows[j]? = some r) (f : 0 < flows.getD j 0) : Reach rows flows s r.1
theorem Reach.rng {rows : List Pipe} {flows : List Int} {s n z : Int} (hF : Fit n rows) (h0 : 0 ≤ s) (h1 : s < n) (h : Reach rows flows s z) : 0 ≤ z ∧ z < n := by
  induction h with
  | refl => exact ⟨h0, h1⟩
  | along h e f ih => exact (hF _ (List.mem_of_getElem? e)).2.1
  | against h e f ih => exact (hF _ (List.mem_of_getElem? e)).1
def mk (bs : List Bool) (z : Int) : Bool := bs.getD z.toNat false
def Shut (flows : List Int) (bs : List Bool) (j : Nat) (r : Pipe) : Prop :=
  ¬ (mk bs r.1 = true ∧ mk bs r.2.1 = false ∧ flows.getD j 0 < r.2.2) ∧ ¬ (mk bs r.2.1 = true ∧ mk bs r.1 = false ∧ 0 < flows.getD j 0)
theorem reach_mk {rows : List Pipe} {flows : List Int} {s z : Int} {bs : List Bool} (h0 : mk bs s = true) (hs : ∀ j r, rows[j]? = some r → Shut flows bs j r) (h : Reach rows flows s z) : mk bs z = true := by
  induction h with
  | refl => exact h0
  | @along j r h e f ih =>
    cases q : mk bs r.2.1 with
    | true => rfl
    | false => exact absurd ⟨ih, q, f⟩ (hs j r e).1
  | @against j r h e f ih =>
    cases q : mk bs r.1 with
    | true => rfl
    | false => exact absurd ⟨ih, q, f⟩ (hs j r e).2
def cntT (bs : List Bool) : Nat := bs.countP id
theorem cntT_le (bs : List Bool) : cntT bs ≤ bs.length := List.countP_le_length
theorem cntT_set : ∀ {bs : List Bool} {i : Nat}, i < bs.length → bs.getD i false = false → cntT (bs.set i true) = cntT bs + 1
  | [], i, h, _ => by simp at h
  | b :: r, 0, _, h => by
    have h' : b = false := by simpa using h
    subst h'
    show (true :: r).countP id = (false :: r).countP id + 1
    simp
  | b :: r, i + 1, h, q => by
    have ih := cntT_set (bs := r) (i := i) (by simpa using h) (by simpa using q)
    show (b :: r.set i true).countP id = (b :: r).countP id + 1
    rw [List.countP_cons, List.countP_cons]
    have ih' : (r.set i true).countP id = r.countP id + 1 := ih
    rw [ih']
    omega
theorem mk_set {bs : List Bool} {i : Nat} {z : Int} (h : i < bs.length) : mk (bs.set i true) z = if i = z.toNat then true else mk bs z := by
  unfold mk
  rw [List.getD_eq_getElem?_getD, List.getD_eq_getElem?_getD, List.getElem?_set]
  by_cases e : i = z.toNat
  · rw [if_pos e, if_pos h, if_pos e]; rfl
  · rw [if_neg e, if_neg e]
def spSwept (K : PySem.W.Frag) : Sp := fun vs H Q _ => ∃ (a b : Addr) (ps : List Addr) (rows : List Pipe) (flows : List Int) (n : Nat) (z : Int), vs = [.int n, .ref a, .ref b, .int z] ∧ SqL K H a (ps.map V.ref) ∧ SqL K H b (flows.map V.int) ∧
  Paired (PRow H) ps rows ∧ ps.length = flows.length ∧ ps.length ≤ 1000 ∧ n ≤ 1000 ∧ Fit n rows ∧ 0 ≤ z ∧ z < n ∧
  ∀ (l : Addr) (bs : List Bool) (H' : Hp), H l = none → H' l = some (.lst (bs.map V.bl)) → bs.length = n → (∀ y : Int, 0 ≤ y → y < n → (mk bs y = true ↔ Reach rows flows z y)) → Same H H' → Q (.ref l) H'
theorem atMapBl {bs : List Bool} {z : Int} (h0 : 0 ≤ z) (h : z < bs.length) : atI (bs.map V.bl) z = some (.bl (mk bs z)) := by
  have hz : z.toNat < bs.length := by omega
  have e := atI_nat (xs := bs.map V.bl) (j := z.toNat) (v := .bl (mk bs z)) (by
    rw [List.getElem?_map, List.getElem?_eq_getElem hz]
    unfold mk
    rw [List.getD_eq_getElem?_getD, List.getElem?_eq_getElem hz]
    rfl)
  rw [show ((z.toNat : Nat) : Int) = z by omega] at e
  exact e
theorem ixIn {n : Nat} {z : Int} (h0 : 0 ≤ z) (h : z < n) : ixN n z = some z.toNat := by
  unfold ixN
  rw [if_pos h0, if_pos h]
theorem rep_bl (n : Nat) (b : Bool) : (List.replicate n [V.bl b]).flatten = (List.replicate n b).map V.bl := by
  induction n with
  | zero => rfl
  | succ n ih => rw [List.replicate_succ, List.flatten_cons, ih, List.replicate_succ, List.map_cons]; rfl
def lstT (n : Nat) (bs : List Bool) : List Int := ((List.range n).filter fun (k : Nat) => mk bs (k : Int)).map fun (k : Nat) => (k : Int)
theorem lstT_congr {n : Nat} {bs bs' : List Bool} (h : ∀ y : Int, 0 ≤ y → y < n → (mk bs y = true ↔ mk bs' y = true)) : lstT n bs = lstT n bs' := by
  unfold lstT
  congr 1
  refine List.filter_congr fun k hk => ?_
  have hk' : k < n := List.mem_range.mp hk
  rw [Bool.eq_iff_iff]
  exact h k (by omega) (by omega)
def Net (K : PySem.W.Frag) (H : Hp) (a b : Addr) (ps : List Addr) (rows : List Pipe) (flows : List Int) (n : Nat) : Prop :=
  SqL K H a (ps.map V.ref) ∧ SqL K H b (flows.map V.int) ∧ Paired (PRow H) ps rows ∧ ps.length = flows.length ∧ ps.length ≤ 1000 ∧ n ≤ 63 ∧ Fit n rows ∧ ∀ j r, rows[j]? = some r → 0 ≤ flows.getD j 0 ∧ flows.getD j 0 ≤ r.2.2
def spReached (K : PySem.W.Frag) : Sp := fun vs H Q _ => ∃ (a b : Addr) (ps : List Addr) (rows : List Pipe) (flows : List Int) (n : Nat) (z : Int), vs = [.int n, .ref a, .ref b, .int z] ∧ Net K H a b ps rows flows n ∧ 0 ≤ z ∧ z < n ∧
  ∀ (l : Addr) (bs : List Bool) (H' : Hp), H l = none → H' l = some (.lst ((lstT n bs).map V.int)) → (∀ y : Int, 0 ≤ y → y < n → (mk bs y = true ↔ Reach rows flows z y)) → Same H H' → Q (.ref l) H'
theorem lstT_len (n : Nat) (bs : List Bool) : (lstT n bs).length ≤ n := by
  unfold lstT
  rw [List.length_map]
  exact Nat.le_trans (List.length_filter_le _ _) (by rw [List.length_range]; exact Nat.le_refl _)
theorem lstT_succ (n : Nat) (bs : List Bool) : lstT (n + 1) bs = lstT n bs ++ (if mk bs (n : Int) = true then [(n : Int)] else []) := by
  unfold lstT
  rw [List.range_succ, List.filter_append, List.map_append]
  cases e : mk bs (n : Int) <;> simp [e]
abbrev PStep := Nat × Bool
def way (al : Bool) : Str := if al then "along" else "against"
def SRow (H : Hp) (q : Addr) (s : PStep) : Prop := H q = some (.tup [.int s.1, .str (way s.2)])
def Leads (rows : List Pipe) (flows : List Int) (goal : Int) : List PStep → Int → List Int → Prop
  | [], spot, _ => spot = goal
  | s :: r, spot, seen => ∃ row, rows[s.1]? = some row ∧
      ((s.2 = true ∧ row.1 = spot ∧ flows.getD s.1 0 < row.2.2 ∧ ¬ row.2.1 ∈ seen ∧ Leads rows flows goal r row.2.1 (seen ++ [row.2.1])) ∨
       (s.2 = false ∧ row.2.1 = spot ∧ 0 < flows.getD s.1 0 ∧ ¬ row.1 ∈ seen ∧ Leads rows flows goal r row.1 (seen ++ [row.1])))
def spLeads (K : PySem.W.Frag) : Sp := fun vs H Q _ => ∃ (f a b : Addr) (qs : List Addr) (sts : List PStep) (ps : List Addr) (rows : List Pipe) (flows : List Int) (z g : Int), vs = [.ref f, .ref a, .ref b, .int z, .int g] ∧
  H f = some (.lst (qs.map V.ref)) ∧ Paired (SRow H) qs sts ∧ sts.length ≤ 1000 ∧ SqL K H a (ps.map V.ref) ∧ SqL K H b (flows.map V.int) ∧ Paired (PRow H) ps rows ∧ ps.length = flows.length ∧ ps.length ≤ 1000 ∧ Leads rows flows g sts z [z] ∧
  ∀ H', Same H H' → Q (.bl true) H'
def spRoad (K : PySem.W.Frag) : Sp := fun vs H Q _ => ∃ (a b : Addr) (ps : List Addr) (rows : List Pipe) (flows : List Int) (n : Nat) (z g : Int), vs = [.int n, .ref a, .ref b, .int z, .int g] ∧ Net K H a b ps rows flows n ∧ 0 ≤ z ∧ z < n ∧ 0 ≤ g ∧ g < n ∧
  (∀ H', Same H H' → ¬ Reach rows flows z g → Q .non H') ∧
  ∀ (f : Addr) (qs : List Addr) (sts : List PStep) (H' : Hp), H' f = some (.lst (qs.map V.ref)) → Paired (SRow H') qs sts → sts.length ≤ 1000 → Leads rows flows g sts z [z] → Same H H' → Q (.ref f) H'
theorem kit_ss (K : PySem.W.Frag) : PySem.W.kitOne K (.type "str") (.type "str") = some true := kit_self K "str"
theorem way_t : way true = ("along" : Str) := rfl
theorem way_f : way false = ("against" : Str) := rfl
theorem way_ne : ¬ ("against" : Str) = "along" := by decide +kernel
theorem srows_same {H H' : Hp} (s : Same H H') {qs : List Addr} {sts : List PStep} (h : Paired (SRow H) qs sts) : Paired (SRow H') qs sts := pairedMap (fun _ _ e => s _ _ e) h
theorem flat_ints (l : List Int) : (l.map V.int).all flatV = true := by
  rw [List.all_map]; exact List.all_eq_true.mpr fun _ _ => rfl
theorem in_ints (z : Int) (l : List Int) : inV (.int z) (l.map V.int) = decide (z ∈ l) := by
  unfold inV
  rw [List.any_map, Bool.eq_iff_iff, List.any_eq_true, decide_eq_true_eq]
  constructor
  · rintro ⟨y, hy, e⟩
    have e' : (y == z) = true := e
    rw [beq_iff_eq] at e'
    exact e' ▸ hy
  · intro h
    exact ⟨z, h, show (z == z) = true from beq_self_eq_true z⟩
end Pw
set_option Elab.async false
set_option linter.all false
set_option maxRecDepth 100000
set_option maxHeartbeats 4000000
namespace L2
open PySem PySem.Spec PyProof.Rows
section
variable {X : Cx}
theorem eqV_self {x : V} (h : flatV x = true) : eqV x x = true := by
  cases x with
  | non => rfl
  | bl b => exact beq_self_eq_true b
  | int i => exact beq_self_eq_true i
  | str z => exact beq_self_eq_true z
  | _ => exact absurd (show false = true from h) Bool.false_ne_true
theorem op_ne_tupS (hu : X.A.units < cLine) : OpR X (compareOp .NotEq) (fun x y H Q => ∃ (p q : Addr) (xs : List V), x = .ref p ∧ y = .ref q ∧ SqT X.K H p xs ∧ SqT X.K H q xs ∧ xs.all flatV = true ∧ Q (.bl false) H) := by
  intro pins s σ H x y v u Q I rx ry h
  obtain ⟨p, q, xs, rfl, rfl, hp, hq, fl, k⟩ := h
  cases rx
  cases ry
  obtain ⟨us, r, ht, hz⟩ := I.tuple hp
  obtain ⟨ws, r', ht', hz'⟩ := I.tuple hq
  have l1 := r.length
  have l2 := r'.length
  refine SeqAt.RcNeAt.tuples (e := fun _ => true) (show s.heap.IsTuple p us.toArray from ht) (show s.heap.IsTuple q ws.toArray from ht') hu (fun j h1 h2 => ?_) X.prog X.w X.xe _ ?_
  · have hj : j < xs.length := by rw [l1]; simpa using h1
    obtain ⟨u1, e1, q1⟩ := r.get (i := j) (x := xs[j]) (by simp [hj])
    obtain ⟨u2, e2, q2⟩ := r'.get (i := j) (x := xs[j]) (by simp [hj])
    have a1 : us.toArray[j] = u1 := by
      have z : us[j]? = some (us[j]'(by simpa using h1)) := List.getElem?_eq_getElem _
      rw [z] at e1
      simpa using Option.some.inj e1
    have a2 : ws.toArray[j] = u2 := by
      have z : ws[j]? = some (ws[j]'(by simpa using h2)) := List.getElem?_eq_getElem _
      rw [z] at e2
      simpa using Option.some.inj e2
    have fx : flatV xs[j] = true := (List.all_eq_true.mp fl) _ (List.getElem_mem hj)
    rw [a1, a2, ← eqV_self fx]
    exact eqAt_V q1 q2 fx fx
  · refine ⟨.bl false, H, I, ?_, k⟩
    show Value.bool _ = Value.bool _
    rw [List.size_toArray, List.size_toArray, ← l1, ← l2]
    simp
theorem call_sum_ints (hc : X.calm = true) : CallR X (.builtin "sum") (fun xs H Q => ∃ (p : Addr) (ns : List Int), xs = [.ref p] ∧ SqL X.K H p (ns.map V.int) ∧ Q (.int (preSum (fun i => ns.getD i 0) ns.length)) H) := by
  intro pins s σ H xs us Q I r h
  obtain ⟨p, ns, rfl, hx, q⟩ := h
  obtain ⟨u, rfl, rx⟩ := vals1 r
  cases rx
  obtain ⟨its, rv, pl, hz⟩ := I.list hx
  have hl := rv.length
  rw [List.length_map] at hl
  have hlt : p < s.heap.objs.size := by obtain ⟨o, _, e, _⟩ := pl; exact Heap.lt_size e
  refine call_sum_walkG (wpAny_pyIter_list pl.isList ?_)
  refine ⟨s.heap.objs.size, _, _, _, _, _, fun i => ns.getD i 0, rfl, Walks.list (show X.A.in1.handled = none from I.ok.hd hc) s.heap.objs.size p (Nat.ne_of_lt hlt) its.toArray, ⟨⟨_, Heap.get?_push_size _ rfl, rfl, rfl⟩, pl.isList.at fun o e => Heap.get?_push_of_some _ e⟩, ?_, ?_, ?_⟩
  · intro b hb
    have hb' : b = s.heap.objs.size ∨ b = p := by simpa using hb
    rw [Heap.size_push]
    rcases hb' with e | e
    · rw [e]; exact Nat.lt_succ_self _
    · rw [e]; exact Nat.lt_succ_of_lt hlt
  · intro i v hv
    have hv' : its.toArray[i]? = some v := hv
    have hv2 : its[i]? = some v := by simpa using hv'
    have hi : i < ns.length := by
      have := (List.getElem?_eq_some_iff.mp hv2).1
      omega
    obtain ⟨u, e, t, q⟩ := rv.get (Pw.getMapInt hi)
    rw [hv2] at e
    cases e
    exact ⟨t, q⟩
  · intro h' tk t' kp
    have hn : its.toArray.size = ns.length := by simp [hl]
    rw [hn]
    refine ⟨.int _, H, ?_, ⟨t', rfl⟩, q⟩
    refine I.kept (t' := tk) fun b o e => kp b o ?_ (Heap.get?_push_of_some _ e)
    intro hb
    have hb' : b = s.heap.objs.size := by simpa using hb
    exact absurd (Heap.lt_size e) (by rw [hb']; exact Nat.lt_irrefl _)
end
end L2
namespace Pw
open PySem L2
def sentL (amt : Int) : List PStep → List Int → List Int
  | [], fl => fl
  | s :: r, fl => sentL amt r (fl.set s.1 (fl.getD s.1 0 + (if s.2 = true then amt else -amt)))
theorem sentL_len (amt : Int) : ∀ (sts : List PStep) (fl : List Int), (sentL amt sts fl).length = fl.length
  | [], _ => rfl
  | s :: r, fl => by
    show (sentL amt r _).length = _
    rw [sentL_len amt r, List.length_set]
theorem getDset {l : List Int} {s z : Nat} {v : Int} (h : s < l.length) : (l.set s v).getD z 0 = if s = z then v else l.getD z 0 := by
  rw [List.getD_eq_getElem?_getD, List.getD_eq_getElem?_getD, List.getElem?_set]
  by_cases e : s = z
  · subst e
    rw [if_pos rfl, if_pos h, if_pos rfl]
    rfl
  · rw [if_neg e, if_neg e]
theorem sentL_other (amt : Int) {j : Nat} : ∀ (sts : List PStep) (fl : List Int), (∀ s ∈ sts, s.1 ≠ j ∧ s.1 < fl.length) → (sentL amt sts fl).getD j 0 = fl.getD j 0
  | [], _, _ => rfl
  | s :: r, fl, h => by
    show (sentL amt r _).getD j 0 = _
    rw [sentL_other amt r _ (fun t ht => by rw [List.length_set]; exact h t (List.mem_cons_of_mem _ ht)), getDset (h s (List.mem_cons_self ..)).2, if_neg (h s (List.mem_cons_self ..)).1]
theorem sumI_upd {f g : Nat → Int} {j : Nat} : ∀ {n : Nat}, j < n → (∀ i, i ≠ j → f i = g i) → sumI f n = sumI g n + (f j - g j)
  | 0, h, _ => absurd h (Nat.not_lt_zero _)
  | n + 1, h, e => by
    show sumI f n + f n = sumI g n + g n + (f j - g j)
    by_cases hj : j = n
    · subst hj
      rw [sumI_congr fun i hi => e i (Nat.ne_of_lt hi)]
      omega
    · rw [sumI_upd (by omega) e, e n (fun z => hj z.symm)]
      omega
theorem net_set {rows : List Pipe} {fl : List Int} {j : Nat} {d z : Int} {n : Nat} (hj : j < fl.length) (hn : j < n) :
    sumI (giv rows (fl.set j (fl.getD j 0 + d)) z) n = sumI (giv rows fl z) n + d * ((if (rows.getD j (0, 0, 0)).1 = z then 1 else 0) - (if (rows.getD j (0, 0, 0)).2.1 = z then 1 else 0)) := by
  rw [sumI_upd (g := giv rows fl z) hn fun i hi => by
    have e0 : (fl.set j (fl.getD j 0 + d)).getD i 0 = fl.getD i 0 := by rw [getDset hj, if_neg (fun e => hi e.symm)]
    unfold giv
    rw [e0]]
  congr 1
  have e1 : (fl.set j (fl.getD j 0 + d)).getD j 0 = fl.getD j 0 + d := by rw [getDset hj, if_pos rfl]
  unfold giv
  rw [e1]
  generalize fl.getD j 0 = x
  split <;> split <;> simp <;> omega
theorem sentL_net {rows : List Pipe} {amt z : Int} {n : Nat} : ∀ (sts : List PStep) (fl : List Int) (k : Nat), n = fl.length → (∀ i s, sts[i]? = some s → s.1 < n ∧
      (if s.2 = true then amt else -amt) * ((if (rows.getD s.1 (0, 0, 0)).1 = z then 1 else 0) - (if (rows.getD s.1 (0, 0, 0)).2.1 = z then 1 else 0)) = amt * ((if ((k + i : Nat) : Int) = z then 1 else 0) - (if ((k + i + 1 : Nat) : Int) = z then 1 else 0))) →
    sumI (giv rows (sentL amt sts fl) z) n = sumI (giv rows fl z) n + amt * ((if ((k : Nat) : Int) = z then 1 else 0) - (if ((k + sts.length : Nat) : Int) = z then 1 else 0))
  | [], fl, k, _, _ => by
    show sumI (giv rows fl z) n = sumI (giv rows fl z) n + amt * ((if ((k : Nat) : Int) = z then 1 else 0) - (if ((k + 0 : Nat) : Int) = z then 1 else 0))
    rw [Nat.add_zero, Int.sub_self, Int.mul_zero, Int.add_zero]
  | s :: r, fl, k, hn, h => by
    obtain ⟨h1, h2⟩ := h 0 s rfl
    have ih := sentL_net (rows := rows) (amt := amt) (z := z) (n := n) r (fl.set s.1 (fl.getD s.1 0 + (if s.2 = true then amt else -amt))) (k + 1) (by rw [List.length_set]; exact hn) fun i t e => by
      obtain ⟨g1, g2⟩ := h (i + 1) t (by simpa using e)
      refine ⟨g1, ?_⟩
      rw [g2]
      have e1 : k + (i + 1) = k + 1 + i := by omega
      rw [e1]
    show sumI (giv rows (sentL amt r _) z) n = _
    rw [ih, net_set (by omega) h1, h2]
    have e1 : k + (s :: r).length = k + 1 + r.length := by rw [List.length_cons]; omega
    rw [e1, Nat.add_zero]
    generalize (if ((k : Nat) : Int) = z then (1 : Int) else 0) = A
    generalize (if ((k + 1 : Nat) : Int) = z then (1 : Int) else 0) = B
    generalize (if ((k + 1 + r.length : Nat) : Int) = z then (1 : Int) else 0) = C
    rw [Int.add_assoc, ← Int.mul_add]
    congr 2
    omega
def spSent (K : PySem.W.Frag) : Sp := fun vs H Q _ => ∃ (a b : Addr) (fl : List Int) (qs : List Addr) (sts : List PStep) (amt : Int), vs = [.ref a, .ref b, .int amt] ∧ SqL K H a (fl.map V.int) ∧ SqL K H b (qs.map V.ref) ∧ Paired (SRow H) qs sts ∧
  fl.length ≤ 1000 ∧ sts.length ≤ 1000 ∧ (∀ s ∈ sts, s.1 < fl.length) ∧ (sts.map (·.1)).Nodup ∧ 0 ≤ amt ∧
  ∀ (l : Addr) (H' : Hp), H l = none → H' l = some (.lst ((sentL amt sts fl).map V.int)) → Same H H' → Q (.ref l) H'
def spAll : Sp := fun vs H Q _ => ∃ (f : Addr) (ns : List Int), vs = [.ref f, .int ns.length] ∧ H f = some (.lst (ns.map V.int)) ∧ Q (.bl true) H
def spStays : Sp := fun vs H Q _ => ∃ (a b : Addr) (qs : List Addr) (sts : List PStep), vs = [.ref a, .ref b] ∧ H a = some (.lst (qs.map V.ref)) ∧ H b = some (.lst (qs.map V.ref)) ∧ qs.length ≤ 1000 ∧ Paired (SRow H) qs sts ∧ Q (.bl true) H
theorem cut_from {ns : List Int} {k m : Nat} (h : ns.length ≤ m) : cutV (ns.map V.int) (some (k : Int)) (some (m : Int)) = (ns.drop k).map V.int := by
  unfold cutV
  rw [List.length_map, HT.sIx_nat, HT.sIx_nat, List.take_of_length_le (by rw [List.length_drop, List.length_map]; omega), ← List.map_drop]
  by_cases h2 : k ≤ ns.length
  · rw [Nat.min_eq_left h2]
  · rw [List.drop_of_length_le (by omega), List.drop_of_length_le (by omega)]
end Pw
set_option Elab.async false
set_option linter.all false
set_option maxRecDepth 100000
set_option maxHeartbeats 4000000
namespace Pw
open PySem L2
def Ris : Int → List Int → Int → Prop
  | _, [], _ => True
  | b, z :: r, n => b < z ∧ z < n ∧ Ris z r n
theorem Ris.len : ∀ {side : List Int} {b n : Int}, Ris b side n → b < n → (side.length : Int) ≤ n - b - 1
  | [], _, _, _, h => by show ((0 : Nat) : Int) ≤ _; omega
  | z :: r, b, n, h, hb => by
    obtain ⟨h1, h2, h3⟩ := h
    have := Ris.len h3 h2
    rw [List.length_cons]
    omega
def spFits (K : PySem.W.Frag) : Sp := fun vs H Q _ => ∃ (f a : Addr) (flows : List Int) (ps : List Addr) (rows : List Pipe), vs = [.ref f, .ref a] ∧ H f = some (.lst (flows.map V.int)) ∧ SqL K H a (ps.map V.ref) ∧ Paired (PRow H) ps rows ∧ flows.length = rows.length ∧ ps.length ≤ 1000 ∧
  (∀ j r, rows[j]? = some r → 0 ≤ flows.getD j 0 ∧ flows.getD j 0 ≤ r.2.2) ∧ Q (.bl true) H
def spRising : Sp := fun vs H Q _ => ∃ (d : Addr) (side : List Int) (last : Int), vs = [.ref d, .int last] ∧ H d = some (.lst (side.map V.int)) ∧ Ris (-1) side (last + 1) ∧ Q (.bl true) H
def spKnot : Sp := fun vs H Q _ => ∃ w : Int, vs = [.int w] ∧ 0 ≤ w ∧
  ∀ (l : Addr) (ps : List Addr) (rows : List Pipe) (H' : Hp), H l = none → H' l = some (.lst (ps.map V.ref)) → Paired (PRow H') ps rows → rows.length = 9 → Fit 8 rows → Same H H' → Q (.ref l) H'
structure Best (n : Nat) (rows : List Pipe) (s t : Int) (flows side : List Int) : Prop where
  len : flows.length = rows.length
  fit : ∀ j r, rows[j]? = some r → 0 ≤ flows.getD j 0 ∧ flows.getD j 0 ≤ r.2.2
  kept : ∀ z : Nat, z < n → (z : Int) ≠ s → (z : Int) ≠ t → sumI (giv rows flows z) rows.length = 0
  ris : Ris (-1) side n
  on : s ∈ side
  off : ¬ t ∈ side
  tight : sumI (giv rows flows s) rows.length = sumI (wid rows side) rows.length
def spBest (K : PySem.W.Frag) : Sp := fun vs H Q _ => ∃ (a : Addr) (ps : List Addr) (rows : List Pipe) (n : Nat) (s t : Int), vs = [.int n, .ref a, .int s, .int t] ∧ SqL K H a (ps.map V.ref) ∧ Paired (PRow H) ps rows ∧ ps.length ≤ 400 ∧ n ≤ 63 ∧ Fit n rows ∧
  0 ≤ s ∧ s < n ∧ 0 ≤ t ∧ t < n ∧ s ≠ t ∧
  ∀ (q f d : Addr) (flows side : List Int) (H' : Hp), H' q = some (.tup [.ref f, .ref d]) → H' f = some (.lst (flows.map V.int)) → H' d = some (.lst (side.map V.int)) → Best n rows s t flows side → Same H H' → Q (.ref q) H'
end Pw
set_option Elab.async false
set_option linter.all false
set_option maxRecDepth 100000
set_option maxHeartbeats 4000000
namespace L2
open PySem PySem.Spec PyProof.Rows
def Ite (K : PySem.W.Frag) (a : Addr) : It :=
  ⟨fun i H => ∃ xs x, SqL K H a xs ∧ xs[i]? = some x,
   fun i H v H' => ∃ (p : Addr) (x : V), v = .ref p ∧ H p = none ∧ (∀ xs, SqL K H a xs → xs[i]? = some x) ∧ H' = upd H p (.tup [.int i, x]),
   fun i H => ∃ xs, SqL K H a xs ∧ xs.length ≤ i⟩
theorem turn_enum {P : Program} {w : World} {K : PySem.W.Frag} {elts : List Expr} {kt : Nat} {pt : Pos} {z it a : Addr} (hzi : z ≠ it) :
    Turn P w K (.Tuple elts kt pt) (Ite K a) [z, it] z (fun i h => (∃ old, IsEnum h z it i old) ∧ h.IsListIter it a i) where
  mem := by simp
  obj := fun i h st c hc => by
    obtain ⟨⟨old, hz⟩, h1⟩ := st
    have hc' : c = z ∨ c = it := by simpa using hc
    rcases hc' with rfl | rfl
    · exact ⟨_, hz, fun v z => by have z' : Data.fields _ = Data.cell v := z; cases z'⟩
    · obtain ⟨o, e, _, d⟩ := h1
      exact ⟨o, e, fun v z => by rw [d] at z; cases z⟩
  keep := fun i h h' st k => by
    obtain ⟨⟨old, hz⟩, h1⟩ := st
    exact ⟨⟨old, k z (by simp) _ hz⟩, h1.at fun o e => k it (by simp) o e⟩
  item := by
    intro X hP hw hK hc i pins s σ H E I hf st hg
    subst hP hw hK
    obtain ⟨⟨old, hz⟩, h1⟩ := st
    obtain ⟨xs, x, qa, hx⟩ := hg
    obtain ⟨its, ra, pa, za⟩ := I.list qa
    obtain ⟨ux, hux, rx⟩ := ra.get hx
    refine wpAny_pyNext_enum_item hz h1 pa.isList (x := ux) (by simpa using hux) hzi fun h' ho hit' hT' hsz' kp => ?_
    refine ⟨_, rfl, wpAny_letOwnedTupleGo_enum (s := { s with heap := h', toks := s.toks + 1 }) ho fun h'' hz'' sb => ?_⟩
    have kk : ∀ c o, c ∉ [z, it] → s.heap.get? c = some o → h''.get? c = some o := fun c o hc e => by
      have n1 : c ≠ z := fun q => hc (by simp [q])
      have n2 : c ≠ it := fun q => hc (by simp [q])
      exact (sb.2 c n1).trans (kp c o n1 n2 e)
    have zlt : z < s.heap.objs.size := Heap.lt_size hz
    have sz1 : s.heap.objs.size ≠ z := Nat.ne_of_gt zlt
    have hT'' := (sb.2 _ sz1).trans hT'
    have hn : H s.heap.objs.size = none := I.hok.fresh (Nat.le_refl _)
    have I' : Inv X pins σ (upd H s.heap.objs.size (.tup [.int i, x])) { s with heap := h'', toks := s.toks + 1 } :=
      I.turnedNew (t' := s.toks + 1) (ch := [z, it]) hf kk (Nat.le_refl _) ⟨by simp only [List.length_cons, List.length_nil]; rw [sizeLine_eq]; decide, [.int i s.toks, ux], .cons ⟨_, rfl⟩ (.cons rx .nil), ⟨_, hT'', rfl, 0, rfl⟩⟩
    refine ⟨.ref s.heap.objs.size, _, I', rfl, ⟨s.heap.objs.size, x, rfl, hn, fun xs' q => by rw [I.list_inj q qa]; exact hx, rfl⟩, ⟨⟨ux, hz''⟩, ?_⟩, fun c hc => ?_⟩
    · exact hit'.at fun o e => (sb.2 _ (Ne.symm hzi)).trans e
    · have hne : c ≠ s.heap.objs.size := by
        have lt : ∀ {d : Addr} {o : Obj}, s.heap.get? d = some o → d ≠ s.heap.objs.size := fun e => Nat.ne_of_lt (Heap.lt_size e)
        have hc' : c = z ∨ c = it := by simpa using hc
        rcases hc' with rfl | rfl
        · exact lt hz
        · obtain ⟨o, e, _⟩ := h1; exact lt e
      rw [upd_ne hne]
      exact (hf c hc).1
  done := by
    intro X hP hw hK hc i pins s σ H E I hf st hg
    subst hP hw hK
    obtain ⟨⟨old, hz⟩, h1⟩ := st
    obtain ⟨xs, qa, hend⟩ := hg
    obtain ⟨its, ra, pa, za⟩ := I.list qa
    have la := ra.length
    refine wpAny_pyNext_enum_end (I.ok.hd hc) hz h1 pa.isList (by simp; omega) fun h' kp => ⟨rfl, I.turnedL (t' := s.toks) (ch := [z, it]) hf fun c o hc e => ?_⟩
    exact kp c o (fun q => hc (by simp [q])) e
  self := fun _ _ _ _ _ st h => wpAny_pyIter_enum st.1.choose_spec h
def iEnum (K : PySem.W.Frag) (ta : TA) : TI := fun σ H R => ta σ H fun vs H1 => ∃ a xs, vs = [.ref a] ∧ SqL K H1 a xs ∧ R (Ite K a) H1
section
variable {X : Cx}
theorem pi_enum {elts : List Expr} {kt : Nat} {pt : Pos} {a : Expr} {ta : TA} {p pos : Pos} (hg : Gl X "enumerate") (hm : X.mg "enumerate" = none) (ha : PA X [a] ta)
    (hs : starEach [a] X.env = [(false, eval a X.env)] := by rfl) :
    PI X (.Tuple elts kt pt) (.Call (.Name "enumerate" p) [a] [] pos) (iEnum X.K ta) := by
  intro pins s σ H R I h
  refine Call_ (ld_blt I hg hm boot_enumerate (PyProof.Rows.callWith_type1 (thn (ha pos pins s σ H _ I h) fun us s1 ⟨vs, H1, I1, r1, q1⟩ => ?_) (by rw [hs]; rfl) rfl))
  obtain ⟨l1, xs, e, qa, q⟩ := q1
  subst e
  obtain ⟨u1, rfl, r⟩ := vals1 r1
  cases r
  obtain ⟨its, ra, pa, za⟩ := I1.list qa
  refine call_enumerate_list pa.isList fun h' hz hit hsz hk => ?_
  have I2 : Inv X pins σ H1 { s1 with heap := h' } := I1.kept (t' := s1.toks) hk
  refine wpAny_pyIter_enum (s := { s1 with heap := h' }) hz ?_
  refine ⟨_, _, _, _, H1, rfl, I2, turn_enum (Nat.ne_of_gt (Nat.lt_succ_self _)), ⟨⟨_, hz⟩, hit⟩, fun c hc => ?_, q⟩
  have hge : s1.heap.objs.size ≤ c := by
    have hc' : c = s1.heap.objs.size + 1 ∨ c = s1.heap.objs.size := by simpa using hc
    rcases hc' with rfl | rfl
    · exact Nat.le_succ _
    · exact Nat.le_refl _
  exact I1.fpOk hge (I1.hok.fresh hge)
end
theorem ForOk.enum {K : PySem.W.Frag} {a : Addr} {xs : List V} {g : TG} {tb : TS} {D : Ends} {σ : St} {H : Hp} (Pv : Nat → St → Hp → Prop) (h0 : Pv 0 σ H)
    (hl : ∀ i σ H, i ≤ xs.length → Pv i σ H → SqL K H a xs)
    (hs : ∀ i x p σ H, xs[i]? = some x → H p = none → Pv i σ H → g (.ref p) σ (upd H p (.tup [.int (i : Int), x])) fun σ2 H2 => tb { D with nx := Pv (i + 1), ct := Pv (i + 1), bk := D.nx } σ2 H2)
    (hd : ∀ σ H, Pv xs.length σ H → D.nx σ H) : ForOk (Ite K a) g tb D σ H := by
  refine ⟨fun i m σ H => m = xs.length - i ∧ i ≤ xs.length ∧ Pv i σ H, ⟨xs.length, by simp, Nat.zero_le _, h0⟩, ?_⟩
  rintro i m σ H ⟨rfl, hi, p⟩
  have qa := hl i σ H hi p
  by_cases hlt : i < xs.length
  · refine .inr ⟨⟨xs, xs[i], qa, by simp [hlt]⟩, Pv (i + 1), fun σ' H' p' => ⟨xs.length - (i + 1), by omega, rfl, hlt, p'⟩, fun v H' yl => ?_⟩
    obtain ⟨q, x, rfl, hq, ex, rfl⟩ := yl
    exact hs i x q σ H (ex xs qa) hq p
  · have e : i = xs.length := by omega
    subst e
    exact .inl ⟨⟨xs, qa, Nat.le_refl _⟩, hd σ H p⟩
theorem a_iEnum {K : PySem.W.Frag} {a : TA} {σ : St} {H : Hp} {IQ : It → Hp → Prop} : iEnum K a σ H IQ = a σ H fun vs H1 => ∃ a xs, vs = [.ref a] ∧ SqL K H1 a xs ∧ IQ (Ite K a) H1 := rfl
section
variable {X : Cx}
def rSetd : V → List V → Hp → VK → Prop := fun x vs H Q => ∃ (a : Addr) (kvs : List (Key × V)) (k : Key) (z : V), x = .ref a ∧ vs = [kV k, z] ∧ H a = some (.dK kvs) ∧ kvs.length < sizeLine ∧
  (∀ v, valV kvs k = some v → Q v H) ∧ (valV kvs k = none → Q z (upd H a (.dK (putK kvs k z))))
theorem mt_setd : MtM X "dict.setdefault" rSetd := by
  intro pins s σ H x vs v us Q I rx rv h
  obtain ⟨a, kvs, k, z, rfl, rfl, hH, hz, q1, q2⟩ := h
  cases rx
  obtain ⟨u1, u2, rfl, r1, r2⟩ := rv.two
  obtain ⟨z0, hd, ws, rel, dd⟩ := dk_of I.hok hH
  have hl : (putK kvs k z).length ≤ sizeLine := by have := length_putK kvs k z; omega
  refine call_meetsIn PySem.F.slot_dict_setdefault dd.typeIs PySem.F.entry_dict_setdefault (PySem.F.args_dict_setdefault_3 _ _ _) (kt_meets_setdefault (mixKind X.prog X.w) a (kV_is r1) hd u2)
    ⟨ws, dd, by rw [← rel.length]; exact z0, fun v' hv' => ?_, fun hn h' dd' hs => ?_⟩
  · have rr := rel.val k
    rw [hv'] at rr
    cases e : valV kvs k with
    | none => rw [e] at rr; exact (show False from rr).elim
    | some y => rw [e] at rr; exact ⟨y, H, I.tok _, rr, q1 y e⟩
  · have e : valV kvs k = none := by
      have rr := rel.val k
      rw [hn] at rr
      cases e : valV kvs k with
      | none => rfl
      | some y => rw [e] at rr; exact (show False from rr).elim
    have he : ∃ q, h'.get? a = some q := let ⟨q, _, _, hq, _⟩ := dd'; ⟨q, hq⟩
    exact ⟨z, _, d_write I (by rw [hH]; exact True.intro) hs he (dk_new hl hd (rel.put k r2) dd'), r2, q2 e⟩
theorem a_setd {x : V} {vs : List V} {H : Hp} {Q : VK} : rSetd x vs H Q = ∃ (a : Addr) (kvs : List (Key × V)) (k : Key) (z : V), x = .ref a ∧ vs = [kV k, z] ∧ H a = some (.dK kvs) ∧ kvs.length < sizeLine ∧
  (∀ v, valV kvs k = some v → Q v H) ∧ (valV kvs k = none → Q z (upd H a (.dK (putK kvs k z)))) := rfl
theorem intsAreV : ∀ {ns : List Int} {us : List Value}, Vals (ns.map V.int) us → IntsAre us ns
  | [], _, r => by rw [List.map_nil] at r; cases r; exact .nil
  | n :: ns, _, r => by
    rw [List.map_cons] at r
    cases r with
    | cons h t =>
      obtain ⟨tk, rfl⟩ := h
      exact .cons n tk (intsAreV t)
theorem vals_of : ∀ {ns : List Int} {us : List Value}, IntsAre us ns → Vals (ns.map V.int) us
  | _, _, .nil => .nil
  | _, _, .cons n t r => .cons ⟨t, rfl⟩ (vals_of r)
theorem call_min_list (hc : X.calm = true) : CallR X (.builtin "min") (fun xs H Q => ∃ (p : Addr) (ns : List Int), xs = [.ref p] ∧ SqL X.K H p (ns.map V.int) ∧ 0 < ns.length ∧ ∀ M, M ∈ ns → (∀ a, a ∈ ns → M ≤ a) → Q (.int M) H) := by
  intro pins s σ H xs us Q I r h
  obtain ⟨p, ns, rfl, hx, hne, q⟩ := h
  obtain ⟨u, rfl, rx⟩ := vals1 r
  cases rx
  obtain ⟨its, rv, pl, hz⟩ := I.list hx
  have hi := intsAreV rv
  obtain ⟨xs, e⟩ := hi.allInts.items
  have hns : ns = xs.toList.map (·.1) := by rw [← hi.numsOf, ← nums_intItems, ← e]
  have hsz : 0 < xs.size := by
    have h3 := hne; rw [hns, List.length_map, Array.length_toList] at h3; exact h3
  have hl := pl.isList
  rw [e] at hl
  refine min_intList (I.ok.hd hc) hl hsz fun v h' tk hv hk => ?_
  obtain ⟨t, rfl⟩ := intItems_at hv
  obtain ⟨h1, h2⟩ := argBest_lt (numAt xs) (xs.size - 1)
  refine ⟨.int _, H, I.kept (t' := tk) hk, ⟨t, rfl⟩, q _ ?_ fun a ha => ?_⟩
  · rw [hns, numAt_eq]; exact getD_mem (by rw [List.length_map, Array.length_toList]; omega)
  · rw [hns] at ha
    obtain ⟨j, hj, rfl⟩ := mem_getD ha
    rw [List.length_map, Array.length_toList] at hj
    rw [← numAt_eq]; exact h2 j (by omega)
theorem call_max_list (hc : X.calm = true) : CallR X (.builtin "max") (fun xs H Q => ∃ (p : Addr) (ns : List Int), xs = [.ref p] ∧ SqL X.K H p (ns.map V.int) ∧ 0 < ns.length ∧ ∀ M, M ∈ ns → (∀ a, a ∈ ns → a ≤ M) → Q (.int M) H) := by
  intro pins s σ H xs us Q I r h
  obtain ⟨p, ns, rfl, hx, hne, q⟩ := h
  obtain ⟨u, rfl, rx⟩ := vals1 r
  cases rx
  obtain ⟨its, rv, pl, hz⟩ := I.list hx
  have hi := intsAreV rv
  obtain ⟨xs, e⟩ := hi.allInts.items
  have hns : ns = xs.toList.map (·.1) := by rw [← hi.numsOf, ← nums_intItems, ← e]
  have hsz : 0 < xs.size := by
    have h3 := hne; rw [hns, List.length_map, Array.length_toList] at h3; exact h3
  have hl := pl.isList
  rw [e] at hl
  refine max_intList (I.ok.hd hc) hl hsz fun v h' tk hv hk => ?_
  obtain ⟨t, rfl⟩ := intItems_at hv
  obtain ⟨h1, h2⟩ := argBest_gt (numAt xs) (xs.size - 1)
  refine ⟨.int _, H, I.kept (t' := tk) hk, ⟨t, rfl⟩, q _ ?_ fun a ha => ?_⟩
  · rw [hns, numAt_eq]; exact getD_mem (by rw [List.length_map, Array.length_toList]; omega)
  · rw [hns] at ha
    obtain ⟨j, hj, rfl⟩ := mem_getD ha
    rw [List.length_map, Array.length_toList] at hj
    rw [← numAt_eq]; exact h2 j (by omega)
def tSortK (td : TE) : TE := fun σ H Q => td σ H fun x H1 => ∃ (a : Addr) (kvs : List (Key × V)) (ks : List Int), x = .ref a ∧ H1 a = some (.dK kvs) ∧ kvs.map (·.1) = ks.map Sum.inl ∧ ks.length < 64 ∧
  ∀ (p : Addr) (ms : List Int), H1 p = none → ms.Perm ks → ms.Pairwise (· ≤ ·) → Q (.ref p) (upd H1 p (.lst (ms.map V.int)))
theorem keys_ints {P : Program} {w : World} : ∀ {ks : List Int} {vs : List (Key × Value)} {us : List Value}, vs.map (·.1) = ks.map Sum.inl → us.length = vs.length → (∀ (j : Nat) (v : Value), us[j]? = some v → ∃ k x, vs[j]? = some (k, x) ∧ (mixKind P w).is k v = true) → IntsAre us ks
  | [], vs, us, e, hl, _ => by
    have : vs = [] := by simpa using e
    subst this
    have : us = [] := by simpa using hl
    subst this
    exact .nil
  | k :: ks, vs, us, e, hl, h => by
    match vs, us, e, hl, h with
    | (k', x') :: vs, u :: us, e, hl, h =>
      rw [List.map_cons, List.map_cons] at e
      injection e with e1 e2
      obtain ⟨k2, x2, e3, e4⟩ := h 0 u rfl
      have e3' : (k', x') = (k2, x2) := Option.some.inj e3
      obtain ⟨rfl, rfl⟩ := Prod.mk.inj e3'
      have e1' : k' = Sum.inl k := e1
      subst e1'
      have h5 : Value.isInt k u = true := e4
      obtain ⟨t, rfl⟩ := Value.isInt_shape h5
      exact .cons k t (keys_ints e2 (by simpa using hl) fun j v hv => by simpa using h (j + 1) v (by simpa using hv))
    | [], _, e, _, _ => simp at e
    | _ :: _, [], _, hl, _ => simp at hl
theorem pe_sortK {o : Expr} {td : TE} {p apos cpos pos : Pos} (hc : X.calm = true) (hg : Gl X "sorted") (hm : X.mg "sorted" = none) (ho : PE X o td)
    (hbase : attributeBase o "keys" X.env (eval o X.env) = eval o X.env := by rfl) (hline : (apos.endLine == cpos.line) = true := by rfl)
    (he : starEach [.Call (.Attribute o "keys" apos) [] [] cpos] X.env = [(false, eval (.Call (.Attribute o "keys" apos) [] [] cpos) X.env)] := by rfl) :
    PE X (.Call (.Name "sorted" p) [.Call (.Attribute o "keys" apos) [] [] cpos] [] pos) (tSortK td) := by
  intro pins s σ H Q I h
  refine wpAny_Call_Name_kw (ld_blt I hg hm boot_sorted ?_)
  refine PyProof.Rows.callWith_builtin1 ?_ he rfl
  rw [he]
  show wpAny _ _ (spliced [(false, eval (.Call (.Attribute o "keys" apos) [] [] cpos) X.env)]) _ _ s
  refine Calls.spliced_cons ?_
  refine wpAny_Call_method0_late hbase hline (thn (ho pins s σ H _ I h) fun v s1 ⟨x, H1, I1, rx, a, kvs, ks, ex, ea, ek, h64, q⟩ => ?_)
  subst ex
  obtain rfl : v = Value.ref a := rx
  obtain ⟨z0, hd, ws, rel, dd⟩ := dk_of I1.hok ea
  have hty := isD_at I1 (.inl ⟨kvs, .inl ea⟩)
  refine ⟨"dict", "dict.keys", PySem.F.plainAttrs_dict, PySem.F.slot_dict_keys, PySem.F.type_dict_keys, hty.1, hty.2.1, Calls.callWith_builtin rfl (PySem.evalArgs_none ?_)⟩
  refine call_meetsIn PySem.F.slot_dict_keys dd.typeIs PySem.F.entry_dict_keys (PySem.F.args_dict_keys_1 _) (PySem.W.kdl_meets_keys (mixKind X.prog X.w) a hd) ⟨⟨ws, dd⟩, ?_⟩
  refine Calls.spliced_nil ?_
  have hlen : ws.length = ks.length := by
    rw [← rel.length, ← List.length_map (f := (·.1)) (as := kvs), ek, List.length_map]
  obtain ⟨ep, hat⟩ := dd.dictAt
  have ok0 : PySem.W.KdlKeysView (s1.heap.push { cls := .type "dict_keys", data := .fields #[.ref a] }) s1.heap.objs.size a ∧ (s1.heap.push { cls := .type "dict_keys", data := .fields #[.ref a] }).DictAt (mixKind X.prog X.w) a ws ep :=
    ⟨⟨_, Heap.get?_push_size _ rfl, rfl, rfl⟩, hat.push _⟩
  refine Calls.call_function_entry kind_sorted plain_sorted entry_sorted (args_sorted1 _) ?_
  unfold Builtin.«sorted»
  refine wpAny_bind (m := checkCount "sorted" 1 1 _) (wpAny_pure ?_)
  refine wpAny_bind (PySem.W.kdu_collect (A := X.A.in1) (PySem.W.kdl_keys (knd := mixKind X.prog X.w) (kvs := ws) (ep := ep)) (I1.ok.hd hc) ok0 (by rw [← rel.length]; exact z0) fun h' tk acc hk hacc => ?_)
  have hl : acc.toList.length = ws.length := by rw [Array.length_toList]; exact hacc.1
  have hI : IntsAre acc.toList ks := keys_ints (P := X.prog) (w := X.w) (by rw [← rel.keys]; exact ek) hl (fun j v e => hacc.2 j v (by rw [← Array.getElem?_toList]; exact e))
  refine wpAny_bind (wpAny_newList ?_ (by rw [hl, hlen, sizeLine_eq]; omega))
  have hoL : (h'.push (seqObj "list" acc.toList.toArray 0)).get? h'.objs.size = some (seqObj "list" acc.toList.toArray 0) := Heap.get?_push_size _ rfl
  refine wpAny_bind (wpAny_holding (wpAny_call_entry slot_list_sort ⟨_, hoL, rfl⟩ entry_list_sort (list_sort_tree hoL hI (by rw [hl, hlen]; exact h64) fun out ns' a1 a2 a3 => ⟨_, rfl, ?_⟩) (args_list_sort _)))
  have hk1 : ∀ b o, s1.heap.get? b = some o → h'.get? b = some o := fun b o e => hk b o (Heap.get?_push_of_some _ e)
  obtain ⟨e, he2⟩ := sortedHeap_at (out := out) hoL
  have hge : s1.heap.objs.size ≤ h'.objs.size := by
    have q0 := hk s1.heap.objs.size _ (Heap.get?_push_size _ rfl)
    exact Nat.le_of_lt (Heap.lt_size q0)
  have hk2 : ∀ b o, s1.heap.get? b = some o → (sortedHeap (h'.push (seqObj "list" acc.toList.toArray 0)) h'.objs.size acc.toList out).get? b = some o := fun b o eb => by
    have hlt := Heap.lt_size (hk1 b o eb)
    rw [sortedHeap_old (Nat.ne_of_lt hlt) (by rw [size_push']; exact Nat.lt_succ_of_lt hlt)]
    exact Heap.get?_push_of_some _ (hk1 b o eb)
  have rv := vals_of a1
  have hlo : ns'.length = ks.length := a2.length_eq
  refine wpAny_pure ⟨_, rfl, .ref h'.objs.size, _, I1.laid (a := h'.objs.size) (o := .lst (ns'.map V.int)) (t' := tk) hk2 hge ?_, rfl, q _ ns' (I1.hok.fresh hge) a2 a3⟩
  refine ⟨by rw [List.length_map, hlo, sizeLine_eq]; omega, out.toList, e, rv, ?_⟩
  rw [he2, Array.toArray_toList]
theorem a_sortK {td : TE} {σ : St} {H : Hp} {Q : VK} : tSortK td σ H Q = td σ H fun x H1 => ∃ (a : Addr) (kvs : List (Key × V)) (ks : List Int), x = .ref a ∧ H1 a = some (.dK kvs) ∧ kvs.map (·.1) = ks.map Sum.inl ∧ ks.length < 64 ∧
  ∀ (p : Addr) (ms : List Int), H1 p = none → ms.Perm ks → ms.Pairwise (· ≤ ·) → Q (.ref p) (upd H1 p (.lst (ms.map V.int))) := rfl
end
def rGetL (K : PySem.W.Frag) : V → V → Hp → VK → Prop := fun o i H Q => ∃ p xs k v, o = .ref p ∧ i = .int k ∧ SqL K H p xs ∧ 0 ≤ k ∧ xs[k.toNat]? = some v ∧ Q v H
theorem get_list {X : Cx} : PGet X (rGetL X.K) := by
  intro pins s σ H o i ov iv Q I ro ri h
  obtain ⟨p, xs, k, z, rfl, rfl, hq, h0, he, q⟩ := h
  cases ro
  obtain ⟨t, rfl⟩ := ri
  obtain ⟨its, r, pl, hz⟩ := I.list hq
  obtain ⟨w, ew, rw'⟩ := r.get he
  have hl := r.length
  have hn := line63
  have hk : k.toNat < its.length := (List.getElem?_eq_some_iff.mp ew).1
  exact wpAny_getItem_list pl.isList h0 (by omega) (by simpa using ew) ⟨z, H, I, rw', q⟩
theorem a_rGetL {K : PySem.W.Frag} {o i : V} {H : Hp} {Q : VK} : rGetL K o i H Q = ∃ p xs k v, o = .ref p ∧ i = .int k ∧ SqL K H p xs ∧ 0 ≤ k ∧ xs[k.toNat]? = some v ∧ Q v H := rfl
theorem while_w {c : TT} {tb : TS} {D : Ends} {σ : St} {H : Hp} (W : Nat → St → Hp → Prop) (h0 : ∃ m, W m σ H)
    (hs : ∀ m σ H, W m σ H → c σ H fun b H1 => if b = true then ∃ N : St → Hp → Prop, (∀ σ' H', N σ' H' → ∃ m', m' < m ∧ W m' σ' H') ∧ tb { D with nx := N, ct := N, bk := D.nx } σ H1 else D.nx σ H1) : tWhile c tb D σ H := ⟨W, h0, hs⟩
theorem a_dget1 {td ty : TE} {σ : St} {H : Hp} {Q : VK} : tDGet1 td ty σ H Q = td σ H fun x H1 => ∃ a, x = .ref a ∧ IsD H1 a ∧ ty σ H1 fun y H2 => ∃ o, DGet H2 a y o ∧ Q (o.getD .non) H2 := rfl
theorem a_dget2 {td ty tx : TE} {σ : St} {H : Hp} {Q : VK} : tDGet2 td ty tx σ H Q = td σ H fun x H1 => ∃ a, x = .ref a ∧ IsD H1 a ∧ ty σ H1 fun y H2 => tx σ H2 fun z H3 => ∃ o, DGet H3 a y o ∧ Q (o.getD z) H3 := rfl
theorem a_disp {trs : List (TE × TE)} {σ : St} {H : Hp} {Q : VK} : tDisp trs σ H Q = ∀ p, H p = none → tPairs trs σ (upd H p (.dK [])) fun ps H2 => H2 p = some (.dK []) ∧ ∃ kvs : List (Key × V), ps = kvs.map (fun kv => (kV kv.1, kv.2)) ∧ kvs.length ≤ 15 ∧ Q (.ref p) (upd H2 p (.dK (mergeK [] kvs))) := rfl
theorem a_pairs0 {σ : St} {H : Hp} {Q : List (V × V) → Hp → Prop} : tPairs [] σ H Q = Q [] H := rfl
theorem a_pairs1 {tk tv : TE} {r : List (TE × TE)} {σ : St} {H : Hp} {Q : List (V × V) → Hp → Prop} : tPairs ((tk, tv) :: r) σ H Q = tk σ H fun x H1 => tv σ H1 fun y H2 => tPairs r σ H2 fun ps H3 => Q ((x, y) :: ps) H3 := rfl
theorem a_dget {td ty : TE} {σ : St} {H : Hp} {Q : VK} : tDGet td ty σ H Q = td σ H fun x H1 => ty σ H1 fun y H2 => ∃ a v, x = .ref a ∧ DGet H2 a y (some v) ∧ Q v H2 := rfl
theorem a_augS {to ti te : TE} {tget : V → V → Hp → VK → Prop} {tip : TIp} {tset : TSet} {D : Ends} {σ : St} {H : Hp} : tAugS to ti te tget tip tset D σ H = to σ H fun o H1 => ti σ H1 fun i H2 => tget o i H2 fun x H3 => te σ H3 fun y H4 => tip x y H4 fun z H5 => tset o i z H5 fun H6 => D.nx σ H6 := rfl
theorem a_never {D : Ends} {σ : St} {H : Hp} : tNever D σ H = False := rfl
end L2
set_option Elab.async false
set_option linter.all false
set_option maxRecDepth 100000
set_option maxHeartbeats 4000000
namespace Pw
def frS (rows : List Pipe) (s : PStep) : Int := if s.2 = true then (rows.getD s.1 (0, 0, 0)).1 else (rows.getD s.1 (0, 0, 0)).2.1
def toS (rows : List Pipe) (s : PStep) : Int := if s.2 = true then (rows.getD s.1 (0, 0, 0)).2.1 else (rows.getD s.1 (0, 0, 0)).1
def CanS (rows : List Pipe) (flows : List Int) (s : PStep) : Prop := ∃ row, rows[s.1]? = some row ∧ ((s.2 = true ∧ flows.getD s.1 0 < row.2.2) ∨ (s.2 = false ∧ 0 < flows.getD s.1 0))
theorem getD_of {α : Type} {l : List α} {i : Nat} {x d : α} (h : l[i]? = some x) : l.getD i d = x := by rw [List.getD_eq_getElem?_getD, h]; rfl
theorem leads_cons {rows : List Pipe} {flows : List Int} {g : Int} {s : PStep} {r : List PStep} {spot : Int} {seen : List Int} :
    Leads rows flows g (s :: r) spot seen ↔ CanS rows flows s ∧ frS rows s = spot ∧ ¬ toS rows s ∈ seen ∧ Leads rows flows g r (toS rows s) (seen ++ [toS rows s]) := by
  constructor
  · rintro ⟨row, e, ⟨h1, h2, h3, h4, h5⟩ | ⟨h1, h2, h3, h4, h5⟩⟩
    · have a : frS rows s = row.1 := by unfold frS; rw [if_pos h1, getD_of e]
      have b : toS rows s = row.2.1 := by unfold toS; rw [if_pos h1, getD_of e]
      exact ⟨⟨row, e, .inl ⟨h1, h3⟩⟩, a.trans h2, by rw [b]; exact h4, by rw [b]; exact h5⟩
    · have n1 : ¬ s.2 = true := by rw [h1]; exact Bool.false_ne_true
      have a : frS rows s = row.2.1 := by unfold frS; rw [if_neg n1, getD_of e]
      have b : toS rows s = row.1 := by unfold toS; rw [if_neg n1, getD_of e]
      exact ⟨⟨row, e, .inr ⟨h1, h3⟩⟩, a.trans h2, by rw [b]; exact h4, by rw [b]; exact h5⟩
  · rintro ⟨⟨row, e, c⟩, h2, h4, h5⟩
    refine ⟨row, e, ?_⟩
    rcases c with ⟨h1, h3⟩ | ⟨h1, h3⟩
    · have a : frS rows s = row.1 := by unfold frS; rw [if_pos h1, getD_of e]
      have b : toS rows s = row.2.1 := by unfold toS; rw [if_pos h1, getD_of e]
      rw [a] at h2; rw [b] at h4 h5
      exact .inl ⟨h1, h2, h3, h4, h5⟩
    · have n1 : ¬ s.2 = true := by rw [h1]; exact Bool.false_ne_true
      have a : frS rows s = row.2.1 := by unfold frS; rw [if_neg n1, getD_of e]
      have b : toS rows s = row.1 := by unfold toS; rw [if_neg n1, getD_of e]
      rw [a] at h2; rw [b] at h4 h5
      exact .inr ⟨h1, h2, h3, h4, h5⟩
theorem leads_snoc {rows : List Pipe} {flows : List Int} {s : PStep} : ∀ {sts : List PStep} {spot : Int} {seen : List Int}, Leads rows flows (frS rows s) sts spot seen → CanS rows flows s → ¬ toS rows s ∈ seen →
    (∀ x ∈ sts, toS rows x ≠ toS rows s) → Leads rows flows (toS rows s) (sts ++ [s]) spot seen
  | [], spot, seen, h, c, n1, _ => leads_cons.mpr ⟨c, (show spot = frS rows s from h).symm, n1, rfl⟩
  | x :: r, spot, seen, h, c, n1, n2 => by
    obtain ⟨h1, h2, h3, h4⟩ := leads_cons.mp h
    refine leads_cons.mpr ⟨h1, h2, h3, leads_snoc h4 c (fun q => ?_) fun y hy => n2 y (List.mem_cons_of_mem _ hy)⟩
    rcases List.mem_append.mp q with q | q
    · exact n1 q
    · exact n2 x (List.mem_cons_self ..) (List.mem_singleton.mp q).symm
theorem reach_step {rows : List Pipe} {flows : List Int} {z : Int} {s : PStep} (h : Reach rows flows z (frS rows s)) (c : CanS rows flows s) : Reach rows flows z (toS rows s) := by
  obtain ⟨row, e, ⟨h1, h3⟩ | ⟨h1, h3⟩⟩ := c
  · have a : frS rows s = row.1 := by unfold frS; rw [if_pos h1, getD_of e]
    have b : toS rows s = row.2.1 := by unfold toS; rw [if_pos h1, getD_of e]
    rw [a] at h; rw [b]
    exact .along h e h3
  · have n1 : ¬ s.2 = true := by rw [h1]; exact Bool.false_ne_true
    have a : frS rows s = row.2.1 := by unfold frS; rw [if_neg n1, getD_of e]
    have b : toS rows s = row.1 := by unfold toS; rw [if_neg n1, getD_of e]
    rw [a] at h; rw [b]
    exact .against h e h3
theorem leads_reach {rows : List Pipe} {flows : List Int} {g z : Int} : ∀ {sts : List PStep} {spot : Int} {seen : List Int}, Leads rows flows g sts spot seen → Reach rows flows z spot → Reach rows flows z g
  | [], spot, seen, h, r => by rw [← (show spot = g from h)]; exact r
  | x :: q, spot, seen, h, r => by
    obtain ⟨h1, h2, h3, h4⟩ := leads_cons.mp h
    rw [← h2] at r
    exact leads_reach h4 (reach_step r h1)
theorem leads_new {rows : List Pipe} {flows : List Int} {g : Int} : ∀ {sts : List PStep} {spot : Int} {seen : List Int}, Leads rows flows g sts spot seen → ∀ x ∈ sts, ¬ toS rows x ∈ seen
  | [], _, _, _, x, hx => nomatch hx
  | y :: q, spot, seen, h, x, hx => by
    obtain ⟨h1, h2, h3, h4⟩ := leads_cons.mp h
    rcases List.mem_cons.mp hx with rfl | hx
    · exact h3
    · exact fun m => leads_new h4 x hx (List.mem_append_left _ m)
theorem leads_can {rows : List Pipe} {flows : List Int} {g : Int} : ∀ {sts : List PStep} {spot : Int} {seen : List Int}, Leads rows flows g sts spot seen → ∀ x ∈ sts, CanS rows flows x
  | [], _, _, _, x, hx => nomatch hx
  | y :: q, spot, seen, h, x, hx => by
    obtain ⟨h1, h2, h3, h4⟩ := leads_cons.mp h
    rcases List.mem_cons.mp hx with rfl | hx
    · exact h1
    · exact leads_can h4 x hx
theorem leads_nodup {rows : List Pipe} {flows : List Int} {g : Int} : ∀ {sts : List PStep} {spot : Int} {seen : List Int}, Leads rows flows g sts spot seen → spot ∈ seen → (sts.map (·.1)).Nodup
  | [], _, _, _, _ => List.nodup_nil
  | s :: q, spot, seen, h, hm => by
    obtain ⟨h1, h2, h3, h4⟩ := leads_cons.mp h
    rw [List.map_cons]
    refine List.nodup_cons.mpr ⟨fun m => ?_, leads_nodup h4 (List.mem_append_right _ (List.mem_singleton.mpr rfl))⟩
    obtain ⟨x, hx, e⟩ := List.mem_map.mp m
    have nx := leads_new h4 x hx
    refine nx ?_
    by_cases hb : x.2 = s.2
    · have : toS rows x = toS rows s := by unfold toS; rw [hb, e]
      rw [this]
      exact List.mem_append_right _ (List.mem_singleton.mpr rfl)
    · have : toS rows x = frS rows s := by
        unfold toS frS
        rw [e]
        cases h5 : x.2 <;> cases h6 : s.2
        · rw [h5, h6] at hb; exact absurd rfl hb
        · rfl
        · rfl
        · rw [h5, h6] at hb; exact absurd rfl hb
      rw [this, h2]
      exact List.mem_append_left _ hm
theorem can_lt {rows : List Pipe} {flows : List Int} {s : PStep} (h : CanS rows flows s) : s.1 < rows.length := by
  obtain ⟨row, e, _⟩ := h
  exact (List.getElem?_eq_some_iff.mp e).1
theorem leads_net {rows : List Pipe} {flows : List Int} {amt z g : Int} {n : Nat} (hn : rows.length = n) : ∀ {sts : List PStep} {spot : Int} {seen fl : List Int}, Leads rows flows g sts spot seen → fl.length = n →
    sumI (giv rows (sentL amt sts fl) z) n = sumI (giv rows fl z) n + amt * ((if spot = z then 1 else 0) - (if g = z then 1 else 0))
  | [], spot, seen, fl, h, _ => by
    rw [← (show spot = g from h)]
    show sumI (giv rows fl z) n = _
    rw [Int.sub_self, Int.mul_zero, Int.add_zero]
  | s :: r, spot, seen, fl, h, hl => by
    obtain ⟨h1, h2, h3, h4⟩ := leads_cons.mp h
    have hlt := can_lt h1
    show sumI (giv rows (sentL amt r (fl.set s.1 (fl.getD s.1 0 + (if s.2 = true then amt else -amt)))) z) n = _
    rw [leads_net hn h4 (by rw [List.length_set]; exact hl), net_set (by omega) (by omega), ← h2]
    unfold frS toS
    generalize (rows.getD s.1 (0, 0, 0)).1 = A
    generalize (rows.getD s.1 (0, 0, 0)).2.1 = B
    generalize sumI (giv rows fl z) n = S
    have e : ∀ a b c : Int, S + amt * (a - b) + amt * (b - c) = S + amt * (a - c) := fun a b c => by
      rw [Int.mul_sub, Int.mul_sub, Int.mul_sub]; omega
    cases s.2 with
    | true => exact e _ _ _
    | false =>
      have e2 : ∀ a b c : Int, S + -amt * (b - a) + amt * (b - c) = S + amt * (a - c) := fun a b c => by
        rw [Int.mul_sub, Int.mul_sub, Int.mul_sub, Int.neg_mul, Int.neg_mul]; omega
      exact e2 _ _ _
def roomS (rows : List Pipe) (fl : List Int) (s : PStep) : Int := if s.2 = true then (rows.getD s.1 (0, 0, 0)).2.2 - fl.getD s.1 0 else fl.getD s.1 0
theorem sent_fit {rows : List Pipe} {amt : Int} (ha : 0 ≤ amt) : ∀ {sts : List PStep} {fl : List Int}, (sts.map (·.1)).Nodup → (∀ s ∈ sts, s.1 < fl.length ∧ amt ≤ roomS rows fl s) → (∀ j r, rows[j]? = some r → 0 ≤ fl.getD j 0 ∧ fl.getD j 0 ≤ r.2.2) →
    ∀ j r, rows[j]? = some r → 0 ≤ (sentL amt sts fl).getD j 0 ∧ (sentL amt sts fl).getD j 0 ≤ r.2.2
  | [], fl, _, _, h => h
  | s :: q, fl, nd, hr, h => by
    rw [List.map_cons] at nd
    obtain ⟨n1, n2⟩ := List.nodup_cons.mp nd
    obtain ⟨r1, r2⟩ := hr s (List.mem_cons_self ..)
    refine sent_fit ha (sts := q) (fl := fl.set s.1 (fl.getD s.1 0 + (if s.2 = true then amt else -amt))) n2 (fun x hx => ?_) fun j r e => ?_
    · obtain ⟨x1, x2⟩ := hr x (List.mem_cons_of_mem _ hx)
      have ne : s.1 ≠ x.1 := fun e => n1 (List.mem_map.mpr ⟨x, hx, e.symm⟩)
      refine ⟨by rw [List.length_set]; exact x1, ?_⟩
      unfold roomS at x2 ⊢
      rw [getDset r1, if_neg ne]
      exact x2
    · obtain ⟨b1, b2⟩ := h j r e
      rw [getDset r1]
      by_cases ej : s.1 = j
      · rw [if_pos ej]
        unfold roomS at r2
        rw [ej] at r2 ⊢
        rw [getD_of e] at r2
        cases hs : s.2 with
        | true => rw [hs, if_pos rfl] at r2; rw [if_pos rfl]; omega
        | false =>
          rw [hs, if_neg Bool.false_ne_true] at r2; rw [if_neg Bool.false_ne_true]; omega
      · rw [if_neg ej]; exact ⟨b1, b2⟩
theorem can_room {rows : List Pipe} {flows : List Int} {s : PStep} (h : CanS rows flows s) : 0 < roomS rows flows s := by
  obtain ⟨row, e, ⟨h1, h3⟩ | ⟨h1, h3⟩⟩ := h
  · unfold roomS; rw [if_pos h1, getD_of e]; omega
  · unfold roomS; rw [if_neg (by rw [h1]; exact Bool.false_ne_true)]; exact h3
theorem giv_le {rows : List Pipe} {flows : List Int} {z : Int} (hf : ∀ j r, rows[j]? = some r → 0 ≤ flows.getD j 0 ∧ flows.getD j 0 ≤ r.2.2) : ∀ {n : Nat}, n ≤ rows.length → sumI (giv rows flows z) n ≤ sumI (fun j => (rows.getD j (0, 0, 0)).2.2) n
  | 0, _ => Int.le_refl 0
  | n + 1, h => by
    show sumI (giv rows flows z) n + giv rows flows z n ≤ sumI _ n + (rows.getD n (0, 0, 0)).2.2
    have ih := giv_le (z := z) hf (n := n) (by omega)
    have e : rows[n]? = some (rows[n]'(by omega)) := List.getElem?_eq_getElem (by omega)
    obtain ⟨b1, b2⟩ := hf n _ e
    have : giv rows flows z n ≤ (rows.getD n (0, 0, 0)).2.2 := by
      unfold giv
      rw [getD_of e]
      split <;> split <;> omega
    omega
theorem sumL_left (f : Nat → Int) : ∀ n : Nat, sumI f (n + 1) = f 0 + sumI (fun j => f (j + 1)) n
  | 0 => by show 0 + f 0 = f 0 + 0; omega
  | n + 1 => by
    show sumI f (n + 1) + f (n + 1) = f 0 + (sumI (fun j => f (j + 1)) n + f (n + 1))
    rw [sumL_left f n]; omega
theorem sumL_add (f g : Int → Int) (l : List Int) : (l.map fun z => f z + g z).sum = (l.map f).sum + (l.map g).sum := by
  induction l with
  | nil => rfl
  | cons x r ih => rw [List.map_cons, List.sum_cons, ih, List.map_cons, List.sum_cons, List.map_cons, List.sum_cons]; omega
theorem sumL_sub (f g : Int → Int) (l : List Int) : (l.map fun z => f z - g z).sum = (l.map f).sum - (l.map g).sum := by
  induction l with
  | nil => rfl
  | cons x r ih => rw [List.map_cons, List.sum_cons, ih, List.map_cons, List.sum_cons, List.map_cons, List.sum_cons]; omega
theorem sumL_swap (f : Int → Nat → Int) (l : List Int) : ∀ n : Nat, (l.map fun z => sumI (f z) n).sum = sumI (fun j => (l.map fun z => f z j).sum) n
  | 0 => by
    show (l.map fun _ => (0 : Int)).sum = 0
    induction l with
    | nil => rfl
    | cons x r ih => rw [List.map_cons, List.sum_cons, ih]; rfl
  | n + 1 => by
    show (l.map fun z => sumI (f z) n + f z n).sum = sumI (fun j => (l.map fun z => f z j).sum) n + (l.map fun z => f z n).sum
    rw [sumL_add, sumL_swap f l n]
theorem sumL_pick (s f : Int) : ∀ l : List Int, l.Nodup → (l.map fun z => if s = z then f else 0).sum = if s ∈ l then f else 0
  | [], _ => rfl
  | x :: r, h => by
    obtain ⟨h1, h2⟩ := List.nodup_cons.mp h
    rw [List.map_cons, List.sum_cons, sumL_pick s f r h2]
    by_cases e : s = x
    · subst e
      rw [if_pos rfl, if_neg h1, if_pos (List.mem_cons_self ..)]
      omega
    · rw [if_neg e]
      by_cases m : s ∈ r
      · rw [if_pos m, if_pos (List.mem_cons_of_mem _ m)]; omega
      · rw [if_neg m, if_neg (fun q => (List.mem_cons.mp q).elim e m)]; omega
theorem sumL_one {c : Int → Int} {s : Int} : ∀ {l : List Int}, l.Nodup → s ∈ l → (∀ z ∈ l, z ≠ s → c z = 0) → (l.map c).sum = c s
  | [], _, h, _ => nomatch h
  | x :: r, nd, h, hz => by
    obtain ⟨h1, h2⟩ := List.nodup_cons.mp nd
    rw [List.map_cons, List.sum_cons]
    by_cases e : x = s
    · subst e
      have : ∀ {l : List Int}, (∀ z ∈ l, c z = 0) → (l.map c).sum = 0 := by
        intro l
        induction l with
        | nil => intro _; rfl
        | cons y q ih => intro h; rw [List.map_cons, List.sum_cons, h y (List.mem_cons_self ..), ih fun z hz => h z (List.mem_cons_of_mem _ hz)]; rfl
      rw [this fun z hzr => hz z (List.mem_cons_of_mem _ hzr) fun e => h1 (e ▸ hzr), Int.add_zero]
    · rw [hz x (List.mem_cons_self ..) e, sumL_one h2 ((List.mem_cons.mp h).resolve_left fun q => e q.symm) fun z hzr => hz z (List.mem_cons_of_mem _ hzr), Int.zero_add]
theorem tight_of {rows : List Pipe} {flows side : List Int} {s : Int} (nd : side.Nodup) (hs : s ∈ side) (hk : ∀ z ∈ side, z ≠ s → sumI (giv rows flows z) rows.length = 0)
    (hf : ∀ j r, rows[j]? = some r → 0 ≤ flows.getD j 0 ∧ flows.getD j 0 ≤ r.2.2)
    (h1 : ∀ (j : Nat) (r : Pipe), rows[j]? = some r → r.1 ∈ side → ¬ r.2.1 ∈ side → ¬ flows.getD j 0 < r.2.2)
    (h2 : ∀ (j : Nat) (r : Pipe), rows[j]? = some r → r.2.1 ∈ side → ¬ r.1 ∈ side → ¬ 0 < flows.getD j 0) :
    sumI (giv rows flows s) rows.length = sumI (wid rows side) rows.length := by
  rw [← sumL_one (c := fun z => sumI (giv rows flows z) rows.length) nd hs hk, sumL_swap]
  refine sumI_congr fun j hj => ?_
  have e : rows[j]? = some (rows[j]'hj) := List.getElem?_eq_getElem hj
  unfold giv wid
  rw [sumL_sub, sumL_pick _ _ side nd, sumL_pick _ _ side nd, getD_of e]
  have b := hf j _ e
  have c1 := h1 j _ e
  have c2 := h2 j _ e
  by_cases m1 : (rows[j]'hj).1 ∈ side <;> by_cases m2 : (rows[j]'hj).2.1 ∈ side
  · rw [if_pos m1, if_pos m2, if_neg (fun q => q.2 m2)]; omega
  · rw [if_pos m1, if_neg m2, if_pos ⟨m1, m2⟩]; have := c1 m1 m2; omega
  · rw [if_neg m1, if_pos m2, if_neg (fun q => m1 q.1)]; have := c2 m2 m1; omega
  · rw [if_neg m1, if_neg m2, if_neg (fun q => m1 q.1)]; omega
def cntN (p : Int → Bool) : Nat → Nat
  | 0 => 0
  | n + 1 => cntN p n + (if p (n : Int) = true then 0 else 1)
theorem cntN_put {p p' : Int → Bool} {t : Int} (h : ∀ z : Int, p' z = true ↔ z = t ∨ p z = true) (hp : p t = false) (h0 : 0 ≤ t) : ∀ {n : Nat}, cntN p' n + (if t < n then 1 else 0) = cntN p n
  | 0 => by rw [if_neg (by omega)]; rfl
  | n + 1 => by
    have ih := cntN_put (n := n) h hp h0
    show cntN p' n + (if p' (n : Int) = true then 0 else 1) + _ = cntN p n + (if p (n : Int) = true then 0 else 1)
    have hn := h (n : Int)
    by_cases e : (n : Int) = t
    · rw [if_neg (by omega)] at ih
      rw [if_pos (hn.mpr (.inl e)), if_pos (by omega), e, hp, if_neg Bool.false_ne_true]
      omega
    · have e2 : p' (n : Int) = p (n : Int) := Bool.eq_iff_iff.mpr ⟨fun q => (hn.mp q).resolve_left e, fun q => hn.mpr (.inr q)⟩
      rw [e2]
      have e3 : (if t < ((n + 1 : Nat) : Int) then 1 else 0) = (if t < (n : Int) then 1 else 0) := by
        by_cases q : t < (n : Int)
        · rw [if_pos q, if_pos (by omega)]
        · rw [if_neg q, if_neg (by omega)]
      rw [e3]
      omega
theorem cntN_none : ∀ {p : Int → Bool} {n : Nat}, (∀ z, p z = false) → cntN p n = n
  | p, 0, _ => rfl
  | p, n + 1, h => by
    show cntN p n + (if p (n : Int) = true then 0 else 1) = n + 1
    rw [cntN_none h, h, if_neg Bool.false_ne_true]
theorem rise_eq : ∀ {l m : List Int}, l.Pairwise (· < ·) → m.Pairwise (· < ·) → (∀ z, z ∈ l ↔ z ∈ m) → l = m
  | [], [], _, _, _ => rfl
  | [], y :: m, _, _, h => absurd ((h y).mpr (List.mem_cons_self ..)) (fun q => nomatch q)
  | x :: l, [], _, _, h => absurd ((h x).mp (List.mem_cons_self ..)) (fun q => nomatch q)
  | x :: l, y :: m, h1, h2, h => by
    obtain ⟨a1, b1⟩ := List.pairwise_cons.mp h1
    obtain ⟨a2, b2⟩ := List.pairwise_cons.mp h2
    have e : x = y := by
      rcases List.mem_cons.mp ((h x).mp (List.mem_cons_self ..)) with q | q
      · exact q
      · rcases List.mem_cons.mp ((h y).mpr (List.mem_cons_self ..)) with q' | q'
        · exact q'.symm
        · have := a2 x q; have := a1 y q'; omega
    subst e
    rw [rise_eq b1 b2 fun z => ⟨fun hz => ?_, fun hz => ?_⟩]
    · rcases List.mem_cons.mp ((h z).mp (List.mem_cons_of_mem _ hz)) with q | q
      · have := a1 z hz; omega
      · exact q
    · rcases List.mem_cons.mp ((h z).mpr (List.mem_cons_of_mem _ hz)) with q | q
      · have := a2 z hz; omega
      · exact q
theorem lt_of_sorted : ∀ {l : List Int}, l.Pairwise (· ≤ ·) → l.Nodup → l.Pairwise (· < ·)
  | [], _, _ => .nil
  | x :: l, h, nd => by
    obtain ⟨a, b⟩ := List.pairwise_cons.mp h
    obtain ⟨c, d⟩ := List.nodup_cons.mp nd
    refine List.pairwise_cons.mpr ⟨fun y hy => ?_, lt_of_sorted b d⟩
    have := a y hy
    have : x ≠ y := fun e => c (e ▸ hy)
    omega
theorem lstT_mem {n : Nat} {bs : List Bool} {z : Int} : z ∈ lstT n bs ↔ 0 ≤ z ∧ z < n ∧ mk bs z = true := by
  unfold lstT
  rw [List.mem_map]
  constructor
  · rintro ⟨k, hk, rfl⟩
    obtain ⟨h1, h2⟩ := List.mem_filter.mp hk
    have := List.mem_range.mp h1
    exact ⟨by omega, by omega, h2⟩
  · rintro ⟨h0, h1, h2⟩
    refine ⟨z.toNat, List.mem_filter.mpr ⟨List.mem_range.mpr (by omega), ?_⟩, by omega⟩
    rw [show ((z.toNat : Nat) : Int) = z by omega]
    exact h2
theorem lstT_rise (n : Nat) (bs : List Bool) : (lstT n bs).Pairwise (· < ·) := by
  unfold lstT
  refine List.pairwise_map.mpr ?_
  refine List.Pairwise.imp (R := (· < ·)) (fun h => by omega) (List.Pairwise.filter _ List.pairwise_lt_range)
theorem ris_of : ∀ {l : List Int} {b n : Int}, l.Pairwise (· < ·) → (∀ z ∈ l, b < z ∧ z < n) → Ris b l n
  | [], _, _, _, _ => True.intro
  | x :: l, b, n, h, hb => by
    obtain ⟨a, c⟩ := List.pairwise_cons.mp h
    obtain ⟨h1, h2⟩ := hb x (List.mem_cons_self ..)
    exact ⟨h1, h2, ris_of c fun z hz => ⟨a z hz, (hb z (List.mem_cons_of_mem _ hz)).2⟩⟩
theorem nodup_lt {l : List Int} (h : l.Pairwise (· < ·)) : l.Nodup := h.imp fun q => by omega
theorem mk_mem {n : Nat} (l : List Int) {y : Int} (h0 : 0 ≤ y) (h1 : y < n) : mk ((List.range n).map fun (k : Nat) => decide ((k : Int) ∈ l)) y = true ↔ y ∈ l := by
  unfold mk
  rw [List.getD_eq_getElem?_getD, List.getElem?_map, List.getElem?_range (show y.toNat < n by omega)]
  show decide (((y.toNat : Nat) : Int) ∈ l) = true ↔ _
  rw [decide_eq_true_eq, show ((y.toNat : Nat) : Int) = y by omega]
def stp1 (rows : List Pipe) (flows : List Int) (x : Int) (i : Nat) : List (PStep × Int) := if flows.getD i 0 < (rows.getD i (0, 0, 0)).2.2 ∧ (rows.getD i (0, 0, 0)).1 = x then [((i, true), (rows.getD i (0, 0, 0)).2.1)] else []
def stp2 (rows : List Pipe) (flows : List Int) (x : Int) (i : Nat) : List (PStep × Int) := if 0 < flows.getD i 0 ∧ (rows.getD i (0, 0, 0)).2.1 = x then [((i, false), (rows.getD i (0, 0, 0)).1)] else []
def stp (rows : List Pipe) (flows : List Int) (x : Int) : Nat → List (PStep × Int)
  | 0 => []
  | i + 1 => stp rows flows x i ++ stp1 rows flows x i ++ stp2 rows flows x i
theorem stp_len (rows : List Pipe) (flows : List Int) (x : Int) : ∀ i : Nat, (stp rows flows x i).length ≤ 2 * i
  | 0 => Nat.le_refl _
  | i + 1 => by
    show (stp rows flows x i ++ stp1 rows flows x i ++ stp2 rows flows x i).length ≤ _
    have ih := stp_len rows flows x i
    rw [List.length_append, List.length_append]
    have a : (stp1 rows flows x i).length ≤ 1 := by unfold stp1; split <;> simp
    have b : (stp2 rows flows x i).length ≤ 1 := by unfold stp2; split <;> simp
    omega
theorem stp_of {rows : List Pipe} {flows : List Int} {x : Int} {s : PStep} {t : Int} : ∀ {n : Nat}, n ≤ rows.length → (s, t) ∈ stp rows flows x n → CanS rows flows s ∧ frS rows s = x ∧ toS rows s = t
  | 0, _, h => nomatch h
  | n + 1, hn, h => by
    have e : rows[n]? = some (rows[n]'(by omega)) := List.getElem?_eq_getElem (by omega)
    rcases List.mem_append.mp h with h | h
    · rcases List.mem_append.mp h with h | h
      · exact stp_of (by omega) h
      · unfold stp1 at h
        split at h
        · rename_i c
          obtain ⟨rfl, rfl⟩ := Prod.mk.inj (List.mem_singleton.mp h)
          rw [getD_of e] at c ⊢
          refine ⟨⟨_, e, .inl ⟨rfl, c.1⟩⟩, ?_, ?_⟩
          · unfold frS; rw [if_pos rfl, getD_of e]; exact c.2
          · unfold toS; rw [if_pos rfl, getD_of e]
        · exact nomatch h
    · unfold stp2 at h
      split at h
      · rename_i c
        obtain ⟨rfl, rfl⟩ := Prod.mk.inj (List.mem_singleton.mp h)
        rw [getD_of e] at c ⊢
        refine ⟨⟨_, e, .inr ⟨rfl, c.1⟩⟩, ?_, ?_⟩
        · unfold frS; rw [if_neg Bool.false_ne_true, getD_of e]; exact c.2
        · unfold toS; rw [if_neg Bool.false_ne_true, getD_of e]
      · exact nomatch h
theorem stp_has {rows : List Pipe} {flows : List Int} {s : PStep} (c : CanS rows flows s) : ∀ {n : Nat}, s.1 < n → (s, toS rows s) ∈ stp rows flows (frS rows s) n
  | 0, h => absurd h (Nat.not_lt_zero _)
  | n + 1, h => by
    show _ ∈ stp rows flows (frS rows s) n ++ stp1 rows flows (frS rows s) n ++ stp2 rows flows (frS rows s) n
    by_cases e : s.1 = n
    · subst e
      obtain ⟨row, e, ⟨h1, h3⟩ | ⟨h1, h3⟩⟩ := c
      · refine List.mem_append_left _ (List.mem_append_right _ ?_)
        unfold stp1 frS toS
        rw [if_pos h1, if_pos h1, getD_of e, if_pos ⟨h3, rfl⟩, ← h1]
        exact List.mem_singleton.mpr rfl
      · refine List.mem_append_right _ ?_
        have n1 : ¬ s.2 = true := by rw [h1]; exact Bool.false_ne_true
        unfold stp2 frS toS
        rw [if_neg n1, if_neg n1, getD_of e, if_pos ⟨h3, rfl⟩, ← h1]
        exact List.mem_singleton.mpr rfl
    · exact List.mem_append_left _ (List.mem_append_left _ (stp_has c (by omega)))
theorem reach_closed {rows : List Pipe} {flows : List Int} {z : Int} {S : Int → Prop} (h0 : S z) (hc : ∀ x, S x → ∀ s t, (s, t) ∈ stp rows flows x rows.length → S t) {y : Int} (h : Reach rows flows z y) : S y := by
  have key : ∀ s : PStep, CanS rows flows s → S (frS rows s) → S (toS rows s) := fun s c hs => hc _ hs s _ (stp_has c (can_lt c))
  induction h with
  | refl => exact h0
  | @along j r h e f ih =>
    have := key (j, true) ⟨r, e, .inl ⟨rfl, f⟩⟩
    unfold frS toS at this
    rw [if_pos rfl, if_pos rfl, getD_of e] at this
    exact this ih
  | @against j r h e f ih =>
    have := key (j, false) ⟨r, e, .inr ⟨rfl, f⟩⟩
    unfold frS toS at this
    rw [if_neg Bool.false_ne_true, if_neg Bool.false_ne_true, getD_of e] at this
    exact this ih
end Pw
set_option Elab.async false
set_option linter.all false
set_option maxRecDepth 100000
set_option maxHeartbeats 4000000
namespace Pw
open PySem L2
theorem smallM {n : Nat} (h : n ≤ 1000000) : n < sizeLine := Nat.lt_of_le_of_lt h (by decide)
def TRow (H : Hp) (u : Addr) (e : PStep × Int) : Prop := ∃ q, H u = some (.tup [.ref q, .int e.2]) ∧ SRow H q e.1
def StepTab (H : Hp) (kvs : List (Key × V)) (f : Int → List (PStep × Int)) : Prop :=
  ∀ x : Int, (valV kvs (Sum.inl x) = none ∧ f x = []) ∨ ∃ (l : Addr) (us : List Addr), valV kvs (Sum.inl x) = some (.ref l) ∧ H l = some (.lst (us.map V.ref)) ∧ Paired (TRow H) us (f x)
structure Tab (H Hi : Hp) (d : Addr) (kvs : List (Key × V)) (f : Int → List (PStep × Int)) : Prop where
  same : Same H Hi
  at_ : Hi d = some (.dK kvs)
  fresh : H d = none
  tab : StepTab Hi kvs f
  inj : ∀ (x y : Int) (l : Addr), valV kvs (Sum.inl x) = some (.ref l) → valV kvs (Sum.inl y) = some (.ref l) → x = y
  new : ∀ (x : Int) (l : Addr), valV kvs (Sum.inl x) = some (.ref l) → H l = none
theorem trow_same {H H' : Hp} (s : Same H H') {us : List Addr} {es : List (PStep × Int)} (h : Paired (TRow H) us es) : Paired (TRow H') us es := pairedMap (fun _ _ ⟨q, e1, e2⟩ => ⟨q, s _ _ e1, s _ _ e2⟩) h
theorem tup_upd {H : Hp} {d p : Addr} {o o' : HO} {xs : List V} (hd : H d = some o) (hno : ∀ ys, o ≠ .tup ys) (h : H p = some (.tup xs)) : (upd H d o') p = some (.tup xs) := by
  rw [upd_ne (ne_of h hd (fun z => hno xs z.symm))]; exact h
theorem trow_upd {H : Hp} {d : Addr} {o o' : HO} (hd : H d = some o) (hno : ∀ ys, o ≠ .tup ys) {us : List Addr} {es : List (PStep × Int)} (h : Paired (TRow H) us es) : Paired (TRow (upd H d o')) us es :=
  pairedMap (fun _ _ ⟨q, e1, e2⟩ => ⟨q, tup_upd hd hno e1, tup_upd hd hno e2⟩) h
theorem srow_upd {H : Hp} {d : Addr} {o o' : HO} (hd : H d = some o) (hno : ∀ ys, o ≠ .tup ys) {qs : List Addr} {sts : List PStep} (h : Paired (SRow H) qs sts) : Paired (SRow (upd H d o')) qs sts :=
  pairedMap (fun _ _ e => tup_upd hd hno e) h
theorem lst_no {xs : List V} : ∀ ys, HO.lst xs ≠ .tup ys := fun _ z => nomatch z
theorem dK_no {kvs : List (Key × V)} : ∀ ys, HO.dK kvs ≠ .tup ys := fun _ z => nomatch z
section
variable {H Hi : Hp} {d : Addr} {kvs : List (Key × V)} {f g : Int → List (PStep × Int)}
theorem Tab.congr (T : Tab H Hi d kvs f) (h : ∀ x, f x = g x) : Tab H Hi d kvs g := by
  have e : f = g := funext h
  exact e ▸ T
theorem Tab.alloc {p : Addr} {o : HO} (T : Tab H Hi d kvs f) (hp : Hi p = none) : Tab H (upd Hi p o) d kvs f :=
  have s : Same Hi (upd Hi p o) := same_upd (Same.refl Hi) hp
  { same := T.same.trans s, at_ := s _ _ T.at_, fresh := T.fresh, inj := T.inj, new := T.new,
    tab := fun x => by
      rcases T.tab x with h | ⟨l, us, h1, h2, h3⟩
      · exact .inl h
      · exact .inr ⟨l, us, h1, s _ _ h2, trow_same s h3⟩ }
theorem Tab.ne {e : Addr} (T : Tab H Hi d kvs f) (he : Hi e = none) : ∀ (y : Int) (l : Addr), valV kvs (Sum.inl y) = some (.ref l) → l ≠ e := fun y l h => by
  rcases T.tab y with ⟨h1, _⟩ | ⟨l', us, h1, h2, h3⟩
  · rw [h1] at h; cases h
  · rw [h1] at h
    cases h
    exact ne_of_none h2 he
theorem Tab.nil {x : Int} (T : Tab H Hi d kvs f) (hx : valV kvs (Sum.inl x) = none) : f x = [] := by
  rcases T.tab x with ⟨_, h⟩ | ⟨l, us, h1, _⟩
  · exact h
  · rw [hx] at h1; cases h1
theorem Tab.setd {x : Int} {e : Addr} (T : Tab H Hi d kvs f) (he : Hi e = some (.lst [])) (hn : H e = none) (hne : ∀ (y : Int) (l : Addr), valV kvs (Sum.inl y) = some (.ref l) → l ≠ e) (hx : valV kvs (Sum.inl x) = none) :
    Tab H (upd Hi d (.dK (putK kvs (Sum.inl x) (.ref e)))) d (putK kvs (Sum.inl x) (.ref e)) f where
  same := same_upd' T.same T.fresh
  at_ := upd_same
  fresh := T.fresh
  tab := fun y => by
    rw [valV_put]
    by_cases ey : y = x
    · subst ey
      rw [if_pos rfl, T.nil hx]
      refine .inr ⟨e, [], rfl, ?_, .nil⟩
      rw [upd_ne (ne_of he T.at_ (fun z => nomatch z))]
      exact he
    · rw [if_neg (fun q => ey (Sum.inl.inj q))]
      rcases T.tab y with h | ⟨l, us, h1, h2, h3⟩
      · exact .inl h
      · refine .inr ⟨l, us, h1, ?_, trow_upd T.at_ dK_no h3⟩
        rw [upd_ne (ne_of h2 T.at_ (fun z => nomatch z))]
        exact h2
  inj := fun a b l ha hb => by
    rw [valV_put] at ha hb
    by_cases ea : a = x <;> by_cases eb : b = x
    · rw [ea, eb]
    · rw [if_pos (by rw [ea])] at ha
      rw [if_neg (fun q => eb (Sum.inl.inj q))] at hb
      cases ha
      exact absurd rfl (hne b _ hb)
    · rw [if_pos (by rw [eb])] at hb
      rw [if_neg (fun q => ea (Sum.inl.inj q))] at ha
      cases hb
      exact absurd rfl (hne a _ ha)
    · rw [if_neg (fun q => ea (Sum.inl.inj q))] at ha
      rw [if_neg (fun q => eb (Sum.inl.inj q))] at hb
      exact T.inj a b l ha hb
  new := fun a l ha => by
    rw [valV_put] at ha
    by_cases ea : a = x
    · rw [if_pos (by rw [ea])] at ha
      cases ha
      exact hn
    · rw [if_neg (fun q => ea (Sum.inl.inj q))] at ha
      exact T.new a l ha
theorem Tab.push {x : Int} {l u : Addr} {us : List Addr} {s : PStep} {t : Int} (T : Tab H Hi d kvs f) (hv : valV kvs (Sum.inl x) = some (.ref l)) (hl : Hi l = some (.lst (us.map V.ref))) (hu : Paired (TRow Hi) us (f x)) (ht : TRow Hi u (s, t)) :
    Tab H (upd Hi l (.lst (us.map V.ref ++ [.ref u]))) d kvs (fun y => f y ++ (if x = y then [(s, t)] else [])) where
  same := same_upd' T.same (T.new x l hv)
  at_ := by rw [upd_ne (ne_of T.at_ hl (fun z => nomatch z))]; exact T.at_
  fresh := T.fresh
  inj := T.inj
  new := T.new
  tab := fun y => by
    by_cases ey : x = y
    · subst ey
      refine .inr ⟨l, us ++ [u], hv, by rw [upd_same, List.map_append]; rfl, ?_⟩
      show Paired _ (us ++ [u]) (f x ++ (if x = x then [(s, t)] else []))
      rw [if_pos rfl]
      refine pairedSnoc (trow_upd hl lst_no hu) ?_
      obtain ⟨q, e1, e2⟩ := ht
      exact ⟨q, tup_upd hl lst_no e1, tup_upd hl lst_no e2⟩
    · show (valV kvs (Sum.inl y) = none ∧ f y ++ (if x = y then [(s, t)] else []) = []) ∨ ∃ (l' : Addr) (us' : List Addr), valV kvs (Sum.inl y) = some (.ref l') ∧ _ ∧ Paired _ us' (f y ++ (if x = y then [(s, t)] else []))
      rw [if_neg ey, List.append_nil]
      rcases T.tab y with h | ⟨l', us', h1, h2, h3⟩
      · exact .inl h
      · refine .inr ⟨l', us', h1, ?_, trow_upd hl lst_no h3⟩
        rw [upd_ne (fun q : l' = l => ey (T.inj x y l hv (by rw [h1, q])))]
        exact h2
end
theorem push_ok {K : PySem.W.Frag} {σ : St} {D : Ends} {H H1 : Hp} {d : Addr} {kvs : List (Key × V)} {f : Int → List (PStep × Int)} {i : Nat} {x t : Int} {al : Bool} {t1 t2 : TE} (T : Tab H H1 d kvs f) (hk : kvs.length < sizeLine) (hf : (f x).length < sizeLine)
    (hd : σ[2]? = some (some (.ref d))) (hi : σ[3]? = some (some (.int i))) (h1 : ∀ (H' : Hp) (Q : VK), Same H H' → Q (.int x) H' → t1 σ H' Q) (h2 : ∀ (H' : Hp) (Q : VK), Same H H' → Q (.int t) H' → t2 σ H' Q)
    (k : ∀ (kvs' : List (Key × V)) (H' : Hp), Tab H H' d kvs' (fun y => f y ++ (if x = y then [((i, al), t)] else [])) → kvs'.length ≤ kvs.length + 1 → D.nx σ H') :
    tDrop (tBM K "list" rAppend (tBM K "dict" rSetd (tVar 2) (tCons t1 (tCons (tLst tNil) tNil))) (tCons (tTup (tCons (tTup (tCons (tVar 3) (tCons (tC (.str (way al))) tNil))) (tCons t2 tNil))) tNil)) D σ H1 := by
  have key : ∀ (Hs : Hp) (kvs' : List (Key × V)) (l : Addr) (us : List Addr), Tab H Hs d kvs' f → kvs'.length ≤ kvs.length + 1 → valV kvs' (Sum.inl x) = some (.ref l) → Hs l = some (.lst (us.map V.ref)) → Paired (TRow Hs) us (f x) →
      (tyV K "list" (.ref l) Hs ∧ tCons (tTup (tCons (tTup (tCons (tVar 3) (tCons (tC (.str (way al))) tNil))) (tCons t2 tNil))) tNil σ Hs fun xs H2 => rAppend (.ref l) xs H2 fun _ H3 => D.nx σ H3) := by
    intro Hs kvs' l us Ts hl' hv hl hus
    refine ⟨.inl ⟨rfl, _, SqL.of hl⟩, ?_⟩
    simp only [a_var, a_cons, a_nil, a_tup, a_c, a_append]
    refine ⟨_, hi, (show 2 ≤ sizeLine by decide), fun q1 nq1 => h2 _ _ (Ts.alloc nq1).same ⟨(show 2 ≤ sizeLine by decide), fun u nu => ?_⟩⟩
    have T3 := Ts.alloc (o := .tup [.int (i : Int), .str (way al)]) nq1
    have s3 := same_upd (o := .tup [.int (i : Int), .str (way al)]) (Same.refl _) nq1
    have T4 := T3.alloc (o := .tup [.ref q1, .int t]) nu
    have s4 := same_upd (o := .tup [.ref q1, .int t]) (Same.refl _) nu
    have hle := Paired.length hus
    refine ⟨l, _, _, rfl, rfl, s4 _ _ (s3 _ _ hl), by rw [List.length_map, hle]; exact hf, ?_⟩
    exact k kvs' _ (T4.push hv (s4 _ _ (s3 _ _ hl)) (trow_same s4 (trow_same s3 hus)) ⟨q1, upd_same, s4 _ _ upd_same⟩) hl'
  simp only [a_drop, a_bm, a_var, a_cons, a_nil, a_lst, a_setd]
  refine ⟨_, hd, .inr (.inr (.inl ⟨rfl, .inl ⟨_, T.at_⟩⟩)), h1 _ _ T.same ⟨Nat.zero_le _, fun e he => ?_⟩⟩
  have T2 := T.alloc (o := .lst []) he
  refine ⟨d, kvs, Sum.inl x, .ref e, rfl, rfl, T2.at_, hk, fun w hw => ?_, fun hw => ?_⟩
  · rcases T2.tab x with ⟨q, _⟩ | ⟨l, us, q, g2, g3⟩
    · rw [q] at hw; cases hw
    · rw [q] at hw
      cases hw
      exact key _ kvs l us T2 (Nat.le_succ _) q g2 g3
  · have Ts := T2.setd upd_same (T.same.free he) (T.ne he) hw
    refine key _ _ e [] Ts (length_putK _ _ _) (by rw [valV_put, if_pos rfl]) ?_ (by rw [T.nil hw]; exact .nil)
    rw [upd_ne (ne_of upd_same T2.at_ (fun z => nomatch z)), upd_same]
    rfl
def spSteps (K : PySem.W.Frag) : Sp := fun vs H Q _ => ∃ (a b : Addr) (ps : List Addr) (rows : List Pipe) (flows : List Int), vs = [.ref a, .ref b] ∧ SqL K H a (ps.map V.ref) ∧ SqL K H b (flows.map V.int) ∧ Paired (PRow H) ps rows ∧ ps.length = flows.length ∧ ps.length ≤ 1000 ∧
  ∀ (d : Addr) (kvs : List (Key × V)) (H' : Hp), H d = none → H' d = some (.dK kvs) → StepTab H' kvs (fun x => stp rows flows x rows.length) → Same H H' → Q (.ref d) H'
structure Rds (rows : List Pipe) (flows : List Int) (z : Int) (n : Nat) (H Hi : Hp) (d : Addr) (kvs : List (Key × V)) : Prop where
  same : Same H Hi
  at_ : Hi d = some (.dK kvs)
  fresh : H d = none
  st : (valV kvs (Sum.inl z)).isSome = true
  keys : ∃ ks : List Int, kvs.map (·.1) = ks.map Sum.inl ∧ ks.Nodup ∧ ∀ y, y ∈ ks ↔ (valV kvs (Sum.inl y)).isSome = true
  rng : ∀ y : Int, (valV kvs (Sum.inl y)).isSome = true → 0 ≤ y ∧ y < n
  cnt : kvs.length + cntN (fun y => (valV kvs (Sum.inl y)).isSome) n = n
  road : ∀ (y : Int) (v : V), valV kvs (Sum.inl y) = some v → ∃ (l : Addr) (qs : List Addr) (sts : List PStep), v = .ref l ∧ Hi l = some (.lst (qs.map V.ref)) ∧ Paired (SRow Hi) qs sts ∧ sts.length ≤ kvs.length ∧ Leads rows flows y sts z [z] ∧
    ∀ x ∈ sts, (valV kvs (Sum.inl (toS rows x))).isSome = true
def Apart (kvs : List (Key × V)) (nx : Addr) : Prop := ∀ (y : Int) (l : Addr), valV kvs (Sum.inl y) = some (.ref l) → l ≠ nx
section
variable {rows : List Pipe} {flows : List Int} {z : Int} {n : Nat} {H Hi : Hp} {d : Addr} {kvs : List (Key × V)}
theorem Rds.alloc {p : Addr} {o : HO} (R : Rds rows flows z n H Hi d kvs) (hp : Hi p = none) : Rds rows flows z n H (upd Hi p o) d kvs :=
  have s : Same Hi (upd Hi p o) := same_upd (Same.refl Hi) hp
  { R with
    same := R.same.trans s, at_ := s _ _ R.at_
    road := fun y v h => by
      obtain ⟨l, qs, sts, e, h1, h2, h3, h4, h5⟩ := R.road y v h
      exact ⟨l, qs, sts, e, s _ _ h1, srows_same s h2, h3, h4, h5⟩ }
theorem Rds.apart {p : Addr} (R : Rds rows flows z n H Hi d kvs) (hp : Hi p = none) : Apart kvs p := fun y l h => by
  obtain ⟨l', qs, sts, e, h1, _⟩ := R.road y _ h
  cases e
  exact ne_of_none h1 hp
theorem Rds.next {nx : Addr} {xs ys : List V} (R : Rds rows flows z n H Hi d kvs) (ap : Apart kvs nx) (hn : H nx = none) (hx : Hi nx = some (.lst xs)) : Rds rows flows z n H (upd Hi nx (.lst ys)) d kvs :=
  { R with
    same := same_upd' R.same hn
    at_ := by rw [upd_ne (ne_of R.at_ hx (fun z => nomatch z))]; exact R.at_
    road := fun y v h => by
      obtain ⟨l, qs, sts, e, h1, h2, h3, h4, h5⟩ := R.road y v h
      subst e
      exact ⟨l, qs, sts, rfl, by rw [upd_ne (ap y l h)]; exact h1, srow_upd hx lst_no h2, h3, h4, h5⟩ }
theorem isSome_put {k : Key} {v : V} {y : Int} (h : (valV kvs (Sum.inl y)).isSome = true) : (valV (putK kvs k v) (Sum.inl y)).isSome = true := by
  rw [valV_put]
  split
  · rfl
  · exact h
theorem isSome_put_iff {t y : Int} {v : V} : (valV (putK kvs (Sum.inl t) v) (Sum.inl y)).isSome = true ↔ y = t ∨ (valV kvs (Sum.inl y)).isSome = true := by
  rw [valV_put]
  by_cases e : y = t
  · rw [if_pos (by rw [e])]
    exact ⟨fun _ => .inl e, fun _ => rfl⟩
  · rw [if_neg (fun q => e (Sum.inl.inj q))]
    exact ⟨fun q => .inr q, fun q => q.resolve_left e⟩
theorem Rds.add {t : Int} {p : Addr} {qs : List Addr} {sts : List PStep} (R : Rds rows flows z n H Hi d kvs) (hp : Hi p = some (.lst (qs.map V.ref))) (hq : Paired (SRow Hi) qs sts) (hl : sts.length ≤ kvs.length + 1) (hL : Leads rows flows t sts z [z])
    (hv : ∀ x ∈ sts, toS rows x = t ∨ (valV kvs (Sum.inl (toS rows x))).isSome = true) (h0 : 0 ≤ t) (h1 : t < n) (hn : valV kvs (Sum.inl t) = none) :
    Rds rows flows z n H (upd Hi d (.dK (putK kvs (Sum.inl t) (.ref p)))) d (putK kvs (Sum.inl t) (.ref p)) := by
  have ep := putK_new (.ref p) hn
  have el : (putK kvs (Sum.inl t) (.ref p)).length = kvs.length + 1 := by rw [ep, List.length_append]; rfl
  have npd : p ≠ d := ne_of hp R.at_ (fun z => nomatch z)
  refine ⟨same_upd' R.same R.fresh, upd_same, R.fresh, isSome_put R.st, ?_, fun y hy => ?_, ?_, fun y v h => ?_⟩
  · obtain ⟨ks, k1, k2, k3⟩ := R.keys
    refine ⟨ks ++ [t], ?_, ?_, fun y => ?_⟩
    · rw [ep, List.map_append, List.map_append, k1]; rfl
    · refine List.nodup_append.mpr ⟨k2, List.nodup_cons.mpr ⟨(fun q => nomatch q), List.nodup_nil⟩, fun a ha b hb e => ?_⟩
      rw [List.mem_singleton.mp hb] at e
      have := (k3 a).mp ha
      rw [e, hn] at this
      cases this
    · rw [isSome_put_iff, List.mem_append, k3 y, List.mem_singleton]
      exact ⟨fun q => q.symm, fun q => q.symm⟩
  · rcases isSome_put_iff.mp hy with q | q
    · rw [q]; exact ⟨h0, h1⟩
    · exact R.rng y q
  · have e := cntN_put (p := fun y => (valV kvs (Sum.inl y)).isSome) (p' := fun y => (valV (putK kvs (Sum.inl t) (.ref p)) (Sum.inl y)).isSome) (t := t) (fun y => isSome_put_iff) (by show (valV kvs (Sum.inl t)).isSome = false; rw [hn]; rfl) h0 (n := n)
    rw [if_pos h1] at e
    have := R.cnt
    rw [el]
    omega
  · rw [valV_put] at h
    by_cases ey : y = t
    · rw [if_pos (by rw [ey])] at h
      cases h
      refine ⟨p, qs, sts, rfl, (by rw [upd_ne npd]; exact hp), srow_upd R.at_ dK_no hq, (by omega), (by rw [ey]; exact hL), fun x hx => isSome_put_iff.mpr (hv x hx)⟩
    · rw [if_neg (fun q => ey (Sum.inl.inj q))] at h
      obtain ⟨l, qs', sts', e, g1, g2, g3, g4, g5⟩ := R.road y v h
      exact ⟨l, qs', sts', e, by rw [upd_ne (ne_of g1 R.at_ (fun z => nomatch z))]; exact g1, srow_upd R.at_ dK_no g2, by omega, g4, fun x hx => isSome_put (g5 x hx)⟩
end
def SameX (x y : Addr) (H H' : Hp) : Prop := ∀ b u, b ≠ x → b ≠ y → H b = some u → H' b = some u
theorem SameX.refl {x y : Addr} {H : Hp} : SameX x y H H := fun _ _ _ _ e => e
theorem SameX.alloc {x y p : Addr} {H H' : Hp} {o : HO} (s : SameX x y H H') (h : H' p = none) : SameX x y H (upd H' p o) := fun b u n1 n2 e => by
  have e' := s b u n1 n2 e
  rw [upd_ne (ne_of_none e' h)]; exact e'
theorem SameX.left {x y : Addr} {H H' : Hp} {o : HO} (s : SameX x y H H') : SameX x y H (upd H' x o) := fun b u n1 n2 e => by rw [upd_ne n1]; exact s b u n1 n2 e
theorem SameX.right {x y : Addr} {H H' : Hp} {o : HO} (s : SameX x y H H') : SameX x y H (upd H' y o) := fun b u n1 n2 e => by rw [upd_ne n2]; exact s b u n1 n2 e
def Clo (rows : List Pipe) (flows : List Int) (kvs : List (Key × V)) (x : Int) : Prop := ∀ (s : PStep) (t : Int), (s, t) ∈ stp rows flows x rows.length → (valV kvs (Sum.inl t)).isSome = true
theorem Clo.put {rows : List Pipe} {flows : List Int} {kvs : List (Key × V)} {x : Int} {k : Key} {v : V} (h : Clo rows flows kvs x) : Clo rows flows (putK kvs k v) x := fun s t e => isSome_put (h s t e)
def spRoads (K : PySem.W.Frag) : Sp := fun vs H Q _ => ∃ (a b : Addr) (ps : List Addr) (rows : List Pipe) (flows : List Int) (n : Nat) (z : Int), vs = [.ref a, .ref b, .int z] ∧ Net K H a b ps rows flows n ∧ 0 ≤ z ∧ z < n ∧
  ∀ (d : Addr) (kvs : List (Key × V)) (H' : Hp), Rds rows flows z n H H' d kvs → (∀ y : Int, (valV kvs (Sum.inl y)).isSome = true ↔ Reach rows flows z y) → Q (.ref d) H'
theorem mem_take_one {α : Type} {xs : List α} {i : Nat} {y x : α} (h : xs[i]? = some y) (m : x ∈ xs.take (i + 1)) : x ∈ xs.take i ∨ x = y := by
  rw [List.take_add_one, h] at m
  rcases List.mem_append.mp m with q | q
  · exact .inl q
  · exact .inr (by simpa using q)
theorem sentL_snoc (amt : Int) (s : PStep) : ∀ (sts : List PStep) (fl : List Int), sentL amt (sts ++ [s]) fl = (sentL amt sts fl).set s.1 ((sentL amt sts fl).getD s.1 0 + (if s.2 = true then amt else -amt))
  | [], _ => rfl
  | x :: r, fl => sentL_snoc amt s r _
theorem take_snoc {α : Type} {xs : List α} {i : Nat} {y : α} (h : xs[i]? = some y) : xs.take (i + 1) = xs.take i ++ [y] := by rw [List.take_add_one, h]; rfl
def spRoom (K : PySem.W.Frag) : Sp := fun vs H Q _ => ∃ (a b f : Addr) (ps : List Addr) (rows : List Pipe) (flows : List Int) (qs : List Addr) (sts : List PStep), vs = [.ref a, .ref b, .ref f] ∧ SqL K H a (ps.map V.ref) ∧ SqL K H b (flows.map V.int) ∧ Paired (PRow H) ps rows ∧ ps.length = flows.length ∧
  SqL K H f (qs.map V.ref) ∧ Paired (SRow H) qs sts ∧ sts.length ≤ 1000 ∧ 0 < sts.length ∧ (∀ s ∈ sts, s.1 < rows.length) ∧
  ∀ (M : Int) (H' : Hp), Same H H' → (∃ s ∈ sts, M = roomS rows flows s) → (∀ s ∈ sts, M ≤ roomS rows flows s) → Q (.int M) H'
structure Kept (n : Nat) (rows : List Pipe) (s t : Int) (flows : List Int) : Prop where
  len : flows.length = rows.length
  fit : ∀ j r, rows[j]? = some r → 0 ≤ flows.getD j 0 ∧ flows.getD j 0 ≤ r.2.2
  kept : ∀ z : Nat, z < n → (z : Int) ≠ s → (z : Int) ≠ t → sumI (giv rows flows z) rows.length = 0
def spGreat (K : PySem.W.Frag) : Sp := fun vs H Q _ => ∃ (a : Addr) (ps : List Addr) (rows : List Pipe) (n : Nat) (s t : Int), vs = [.int n, .ref a, .int s, .int t] ∧ SqL K H a (ps.map V.ref) ∧ Paired (PRow H) ps rows ∧ ps.length ≤ 1000 ∧ n ≤ 63 ∧ Fit n rows ∧
  0 ≤ s ∧ s < n ∧ 0 ≤ t ∧ t < n ∧ s ≠ t ∧
  ∀ (f : Addr) (flows : List Int) (H' : Hp), H' f = some (.lst (flows.map V.int)) → Kept n rows s t flows → ¬ Reach rows flows s t → Same H H' → Q (.ref f) H'
theorem kept_zero {n : Nat} {rows : List Pipe} {s t : Int} (hF : Fit n rows) : Kept n rows s t (List.replicate rows.length 0) where
  len := List.length_replicate
  fit := fun j r e => by
    have hj := (List.getElem?_eq_some_iff.mp e).1
    rw [List.getD_eq_getElem?_getD, List.getElem?_replicate, if_pos hj]
    exact ⟨Int.le_refl 0, (hF r (List.mem_of_getElem? e)).2.2⟩
  kept := fun z _ _ _ => by
    have e : ∀ j, giv rows (List.replicate rows.length 0) z j = 0 := fun j => by
      have : (List.replicate rows.length (0 : Int)).getD j 0 = 0 := by
        rw [List.getD_eq_getElem?_getD, List.getElem?_replicate]
        split <;> rfl
      unfold giv
      rw [this]
      split <;> split <;> rfl
    have : ∀ m : Nat, sumI (giv rows (List.replicate rows.length 0) z) m = 0 := fun m => by
      induction m with
      | zero => rfl
      | succ m ih => show sumI _ m + giv _ _ _ m = 0; rw [ih, e]; rfl
    exact this _
theorem kept_sent {n : Nat} {rows : List Pipe} {s t amt : Int} {flows : List Int} {sts : List PStep} (K : Kept n rows s t flows) (hL : Leads rows flows t sts s [s]) (ha : 0 ≤ amt) (hr : ∀ x ∈ sts, amt ≤ roomS rows flows x) : Kept n rows s t (sentL amt sts flows) where
  len := by rw [sentL_len]; exact K.len
  fit := sent_fit ha (leads_nodup hL (List.mem_singleton.mpr rfl)) (fun x hx => ⟨by rw [K.len]; exact can_lt (leads_can hL x hx), hr x hx⟩) K.fit
  kept := fun z h1 h2 h3 => by
    rw [leads_net rfl hL K.len, K.kept z h1 h2 h3, if_neg (fun e => h2 e.symm), if_neg (fun e => h3 e.symm)]
    simp
theorem best_of {n : Nat} {rows : List Pipe} {s t : Int} {flows : List Int} {bs : List Bool} (hF : Fit n rows) (K : Kept n rows s t flows) (s0 : 0 ≤ s) (s1 : s < n) (t0 : 0 ≤ t) (t1 : t < n) (hst : ¬ Reach rows flows s t) (hb : ∀ y : Int, 0 ≤ y → y < n → (mk bs y = true ↔ Reach rows flows s y)) :
    Best n rows s t flows (lstT n bs) := by
  have hm : ∀ y : Int, y ∈ lstT n bs ↔ Reach rows flows s y := fun y => by
    rw [lstT_mem]
    constructor
    · rintro ⟨h0, h1, h2⟩; exact (hb y h0 h1).mp h2
    · intro h
      obtain ⟨h0, h1⟩ := Reach.rng hF s0 s1 h
      exact ⟨h0, h1, (hb y h0 h1).mpr h⟩
  have nd := nodup_lt (lstT_rise n bs)
  refine ⟨K.len, K.fit, K.kept, ris_of (lstT_rise n bs) (fun y hy => ?_), (hm s).mpr .refl, fun q => hst ((hm t).mp q), ?_⟩
  · obtain ⟨h0, h1, _⟩ := lstT_mem.mp hy
    exact ⟨by omega, h1⟩
  · refine tight_of nd ((hm s).mpr .refl) (fun y hy hne => ?_) K.fit (fun j r e a b c => ?_) (fun j r e a b c => ?_)
    · obtain ⟨h0, h1, _⟩ := lstT_mem.mp hy
      have e : ((y.toNat : Nat) : Int) = y := by omega
      have := K.kept y.toNat (by omega) (by rw [e]; exact hne) (by rw [e]; intro q; exact hst (q ▸ (hm y).mp hy))
      rw [e] at this
      exact this
    · exact b ((hm _).mpr (.along ((hm _).mp a) e c))
    · exact b ((hm _).mpr (.against ((hm _).mp a) e c))
end Pw
namespace Pw
open PySem L2
def endsL (s t : Int) (rows : List Pipe) : List Int := s :: t :: rows.flatMap fun r => [r.1, r.2.1]
theorem endsL_snoc (s t : Int) (rows : List Pipe) (r : Pipe) : endsL s t (rows ++ [r]) = endsL s t rows ++ [r.1, r.2.1] := by
  unfold endsL
  rw [List.flatMap_append]
  simp
theorem endsL_len (s t : Int) (rows : List Pipe) : (endsL s t rows).length = 2 * rows.length + 2 := by
  induction rows with
  | nil => rfl
  | cons r q ih =>
    show (s :: t :: (r.1 :: r.2.1 :: q.flatMap fun r => [r.1, r.2.1])).length = _
    have ih' : (s :: t :: (q.flatMap fun r => [r.1, r.2.1])).length = 2 * q.length + 2 := ih
    simp only [List.length_cons] at ih' ⊢
    omega
theorem endsL_mem {s t z : Int} {rows : List Pipe} : z ∈ endsL s t rows ↔ z = s ∨ z = t ∨ ∃ r ∈ rows, z = r.1 ∨ z = r.2.1 := by
  unfold endsL
  rw [List.mem_cons, List.mem_cons, List.mem_flatMap]
  simp
def InR (n : Int) (s t : Int) (rows : List Pipe) : Prop := ∀ z ∈ endsL s t rows, 0 ≤ z ∧ z < n
def spRefSt (K : PySem.W.Frag) : Sp := fun vs H Q _ => ∃ (a : Addr) (ps : List Addr) (rows : List Pipe) (n s t : Int), vs = [.int n, .ref a, .int s, .int t] ∧ SqL K H a (ps.map V.ref) ∧ Paired (PRow H) ps rows ∧ ps.length ≤ 400 ∧ InR n s t rows ∧ ∀ H', Same H H' → Q .non H'
def spRefW (K : PySem.W.Frag) : Sp := fun vs H Q _ => ∃ (a : Addr) (ps : List Addr) (rows : List Pipe), vs = [.ref a] ∧ SqL K H a (ps.map V.ref) ∧ Paired (PRow H) ps rows ∧ (∀ r ∈ rows, 0 ≤ r.2.2) ∧ ∀ H', Same H H' → Q .non H'
def spRef1 : Sp := fun vs H Q _ => ∃ s t : Int, vs = [.int s, .int t] ∧ s ≠ t ∧ ∀ H', Same H H' → Q .non H'
end Pw
set_option Elab.async false
set_option linter.all false
set_option maxRecDepth 100000
set_option maxHeartbeats 4000000
namespace L2
open PySem PySem.Spec PyProof.Rows
theorem ObjOk.ex {P : Program} {w : World} {H : Hp} {h : Heap} {a : Addr} {o : HO} (x : ObjOk P w H h a o) : ∃ ob, h.get? a = some ob := by
  cases o with
  | lst xs => obtain ⟨_, _, _, _, e⟩ := x; exact ⟨_, e⟩
  | tup xs => obtain ⟨_, _, _, _, e, _⟩ := x; exact ⟨_, e⟩
  | dK kvs => obtain ⟨_, _, _, _, _, _, _, e, _⟩ := x; exact ⟨_, e⟩
  | dT kvs => obtain ⟨_, _, _, _, _, _, _, e, _⟩ := x; exact ⟨_, e⟩
  | set S n => obtain ⟨_, _, _, _, e, _⟩ := x; exact ⟨_, e⟩
  | ins C dx fs => obtain ⟨_, _, _, e, _⟩ := x; exact ⟨_, e⟩
  | own y => exact x
  | xd fs => obtain ⟨_, ⟨_, _, _, e, _⟩, _⟩ := x; exact ⟨_, e⟩
  | rng lo hi => obtain ⟨_, _, _, e⟩ := x; exact ⟨_, e⟩
  | frz ob u => exact ⟨_, x.1⟩
  | tbl ps => exact ⟨_, (show h.get? a = some _ from x)⟩
  | met f y => exact ⟨_, (show h.get? a = some _ from x)⟩
  | ext φ => exact x.2.1
structure Bg (l : List Env) (H H' : Hp) (h h' B : Heap) : Prop where
  k1 : ∀ b o, h.get? b = some o → H b = none → b ∉ frs l → B.get? b = some o
  k2 : ∀ b o, H' b ≠ none → h'.get? b = some o → B.get? b = some o
  k3 : ∀ b o, h.get? b = some o → b ∉ frs l → ∃ o', B.get? b = some o'
def CXR (P : Program) (w : World) : CXT := fun outer H s E e s' => ∃ (ea t C : Addr) (H' : Hp) (B : Heap), e = .ref ea ∧ s'.os = s.os ∧ AllBare s'.gens ∧ Un (frs outer) [] H H' s.heap s'.heap ∧ HOk P w H' s'.heap ∧
  Heap.FlyingW B outer ea (.ref C) (.ref t) s'.heap ∧ Bg outer H H' s.heap s'.heap B ∧ E (.ref C) none H'
section
variable {X : Cx} {pins : List (Addr × Obj)} {σ : St} {H H' : Hp} {s s' : Shared} {B h2 : Heap}
theorem Inv.flown (I : Inv X pins σ H s) (ho : s'.os = s.os) (hg : AllBare s'.gens) (u : Un (frs X.stack) [] H H' s.heap s'.heap) (hok : HOk X.prog X.w H' s'.heap) (ff : s'.heap.FunFrames B X.stack) (bg : Bg X.stack H H' s.heap s'.heap B)
    (st : B.StaysIn h2) (up : s'.heap.UpToSlots h2) : Inv X pins σ H' { s' with heap := h2 } := by
  have fr : ∀ b, b ∈ frs X.stack → ∃ o, s'.heap.get? b = some o ∧ ∀ vs, o.data ≠ .fields vs := fun b hb => (ff.mem hb).2
  refine I.call' (s' := { s' with heap := h2 }) (ch := []) ho ⟨fun b o e n hb _ => st b o (bg.k1 b o e n hb), fun b o e n hb hx => ?_, u.free, fun b o e hx => ?_, u.tups, u.frzs, u.tbls⟩ ?_ hg (fun b hb => nomatch hb)
  · obtain ⟨sl, e1⟩ := u.slot b o e n hb hx
    obtain ⟨o1, e2, hd⟩ := fr b hb
    rw [e1] at e2
    cases e2
    obtain ⟨sl', e3⟩ := up b _ e1 hd
    exact ⟨sl', e3⟩
  · by_cases hb : b ∈ frs X.stack
    · obtain ⟨o1, e2, hd⟩ := fr b hb
      obtain ⟨sl', e3⟩ := up b _ e2 hd
      exact ⟨_, e3⟩
    · obtain ⟨o', e'⟩ := bg.k3 b o e hb
      exact ⟨o', st b o' e'⟩
  · intro b ob e
    refine (hok b ob e).stay (fun c v hc q => st c v (bg.k2 c v ?_ q)) (fun _ q => q) fun _ _ q => q
    rcases hc with rfl | hc
    · rw [e]; exact fun z => nomatch z
    · rw [hc]; exact fun z => nomatch z
end
section
variable {P : Program} {w : World} {K : PySem.W.Frag} {mg : Str → Option Value} {base : Heap} {N : List Str} {qual : Str} {scope : Scope} {f : Addr} {cd : Value} {A : Around} {outer : List Env} {s : Shared} {H : Hp} {E : XK}
theorem cxr_of {pins : List (Addr × Obj)} {σ : St} {H1 H' : Hp} {s1 s' : Shared} {B h2 : Heap} {ea t C : Addr} (I : Inv (cxOf (CXR P w) P w K mg base N qual scope f cd A outer s H E) pins σ H1 s1)
    (J : Inv (cxOf (CXR P w) P w K mg base N qual scope f cd A outer s H E) pins σ H' { s' with heap := h2 }) (hok : HOk P w H' s'.heap) (st : B.StaysIn h2)
    (bg : Bg (envOfC qual scope s.heap.objs.size f cd :: outer) H1 H' s1.heap s'.heap B) (fl : Heap.FlyingW B outer ea (.ref C) (.ref t) h2) (q : E (.ref C) none H') :
    CXR P w outer H s E (.ref ea) { s' with heap := h2 } := by
  have nl : ∀ b o, s.heap.get? b = some o → b ∉ frs outer → b ∉ frs (envOfC qual scope s.heap.objs.size f cd :: outer) := fun b o e hb m => by
    rcases List.mem_cons.mp (I.stkSub b m) with z | z
    · have h1 : s.heap.objs.size ≤ b := by rw [z]; exact I.ok.above
      exact absurd (Nat.lt_of_lt_of_le (Heap.lt_size e) h1) (Nat.lt_irrefl _)
    · exact hb z
  refine ⟨ea, t, C, H', B, rfl, J.os, J.bare, J.base, J.hok, fl, ⟨fun b o e n hb => ?_, fun b o n e => ?_, fun b o e hb => ?_⟩, q⟩
  · exact bg.k1 b o (I.base.keep b o e n hb (fun z => nomatch z)) (I.base.free b o e n (fun z => nomatch z)) (nl b o e hb)
  · cases e1 : H' b with
    | none => exact absurd e1 n
    | some u =>
      obtain ⟨ob, e2⟩ := (hok b u e1).ex
      have e3 := bg.k2 b ob n e2
      have e4 := st b ob e3
      have e5 : h2.get? b = some o := e
      rw [e5] at e4
      cases e4
      exact e3
  · obtain ⟨o1, e1⟩ := I.base.there b o e (fun z => nomatch z)
    exact bg.k3 b o1 e1 (nl b o e hb)
theorem passR : Passes (CXR P w) (cxOf (CXR P w) P w K mg base N qual scope f cd A outer s H E) E := by
  rintro pins σ H1 s1 e s' I ⟨ea, t, C, H', B, rfl, ho, hg, u, hok, fl, bg, q⟩
  refine wpAny_leaves_onW (base := B) I.ok.frames rfl fl fun h2 fl2 up => ?_
  have J := I.flown ho hg u hok fl.2.2.1 bg fl2.1 up
  exact cxr_of I J hok fl2.1 bg fl2 q
def RaisesTo (X : Cx) (E : XK) : Prop := ∀ (pins : List (Addr × Obj)) (σ : St) (H : Hp) (s : Shared) (ea C : Addr) (h' : Heap) (vs : List Value), Inv X pins σ H s → Heap.MadeExcOf s.heap h' ea (.ref C) vs → E (.ref C) none H → X.xe (.ref ea) { s with heap := h' }
theorem raisesR : RaisesTo (cxOf (CXR P w) P w K mg base N qual scope f cd A outer s H E) E := by
  intro pins σ H1 s1 ea C h' vs I hm q
  have hin : ∀ env ∈ (envOfC qual scope s.heap.objs.size f cd :: outer), ∀ b, env.frame = some b → b ∈ frs (envOfC qual scope s.heap.objs.size f cd :: outer) := fun env he b hb => List.mem_filterMap.mpr ⟨env, he, hb⟩
  have fr0 : s1.heap.FunFrames base (envOfC qual scope s.heap.objs.size f cd :: outer) := I.stack
  have fr1 := PySem.W.funFrames_hide fr0 hin
  have st0 : (PySem.W.hideAll s1.heap (frs (envOfC qual scope s.heap.objs.size f cd :: outer))).StaysIn s1.heap := fun b o e => PySem.W.of_hideAll _ e
  refine wpAny_leaves_madeW (s := { s1 with heap := h' }) I.ok.frames rfl st0 fr1 hm fun h2 t fl ht hnt up => ?_
  have bg : Bg (envOfC qual scope s.heap.objs.size f cd :: outer) H1 H1 s1.heap h' (PySem.W.hideAll s1.heap (frs (envOfC qual scope s.heap.objs.size f cd :: outer))) := by
    refine ⟨fun b o e n hb => PySem.W.hideAll_get _ e hb, fun b o n e => ?_, fun b o e hb => ⟨o, PySem.W.hideAll_get _ e hb⟩⟩
    cases e1 : H1 b with
    | none => exact absurd e1 n
    | some u =>
      obtain ⟨ob, e2⟩ := (I.hok b u e1).ex
      have e3 := hm.keeps b ob e2
      rw [e] at e3
      cases e3
      exact PySem.W.hideAll_get _ e2 fun hb => n (I.stkFree b hb)
  have hok1 : HOk P w H1 h' := I.hok.kept hm.keeps
  have ff : h'.FunFrames (PySem.W.hideAll s1.heap (frs (envOfC qual scope s.heap.objs.size f cd :: outer))) (envOfC qual scope s.heap.objs.size f cd :: outer) := fr1.of_keeps fun b o e _ => ⟨o, hm.keeps b o e, rfl⟩
  have J := I.flown (s' := { s1 with heap := h' }) rfl I.bare (Un.kept hm.keeps) hok1 ff bg fl.1 up
  exact cxr_of (s' := { s1 with heap := h' }) I J hok1 fl.1 bg fl q
end
theorem Fun.okR {P : Program} {w : World} {K : PySem.W.Frag} {mg : Str → Option Value} {base : Heap} {x qual : Str} {st : Stmt} {f : Addr} {fd : FuncData} {N ps : List Str} {k : Nat} {sp : Sp} (F : Fun K x qual st f fd) (S : FnScope N ps (defScope st)) (len : ∀ vs H Q E, sp vs H Q E → vs.length = ps.length)
    (hbody : ∀ (cdv : Value) (A : Around) (outer : List Env) (s : Shared) (H : Hp) (vs : List V) (Q : VK) (E : XK), Room k (A.deeper (envOfC qual (defScope st) s.heap.objs.size f cdv)) → sp vs H Q E →
      ∃ t, PSs (cxOf (CXR P w) P w K mg base N qual (defScope st) f cdv A outer s H E) (defBody st) t ∧ t { nx := fun _ H' => Q .non H', rt := Q } (start N vs) H) : FnOk P w K mg base (CXR P w) (k + 1) f fd ps sp := by
  obtain ⟨oc, od, kV, doc, pm, an, cdv, ct, osl, rfl, lk, hcd⟩ := F.ex
  exact fn_of lk hcd S len fun A outer s H vs Q E hr hsp => hbody cdv A outer s H vs Q E hr hsp
theorem exc_obj {K : PySem.W.Frag} {h : Heap} {C : Addr} {bmB : List Value} {newId : String} (X : K.In h) (e0 : PySem.W.excIn K C bmB newId = true) :
    ∃ bm N nm qn bs hdct sn sub ab col dd k0 k1 k2 k3 k5 mN, h.get? C = some (excClassObj nm qn C N bs bm hdct sn sub ab col dd k0 k1 k2 k3 k5 newId) ∧ h.Ns N mN ∧ mN "__init__" = none ∧ OwnTail h bmB bm := by
  unfold PySem.W.excIn at e0
  split at e0
  · rename_i d0 c0 s0 l0
    split at e0
    · rename_i C1 b1 x0 x1 x2 x3 n1 x5 m1 r1
      simp only [Bool.and_eq_true, beq_iff_eq, Bool.not_eq_true'] at e0
      obtain ⟨⟨⟨⟨⟨rfl, rfl⟩, g1⟩, g2⟩, g3⟩, g4⟩ := e0
      obtain ⟨y0, y1, y2, y3, y4, y5, y6, y7, y8, y9, y10⟩ := c0
      dsimp only at m1 g1 g3 g4
      subst m1 g1
      have r2 : s0 = #[x0, x1, x2, x3, some (.builtin n1), x5] := by
        obtain ⟨l⟩ := s0
        simp only at r1
        rw [r1]
      subst r2
      exact ⟨b1, y3, y0, y4, y1, y5, y6, y7, y8, y9, d0, x0, x1, x2, x3, x5, _, X _ _ l0, .of_isNs (PySem.W.isNs_of_in X g3), PySem.W.nsMap_none_of_in X g3 g4, PySem.W.tail_of_in X g2⟩
    · cases e0
  · cases e0
abbrev vErr : List Value := [.type "ValueError", .type "Exception", .type "BaseException", .type "object"]
def tRaise (C : Addr) (E : XK) : TS := fun _ _ H => E (.ref C) none H
theorem ps_raise {X : Cx} {E : XK} {x : Str} {C : Addr} {np cpos pos kp : Pos} {msg : Str} {j : Nat} (hx : RaisesTo X E) (hc : X.calm = true) (hg : Gl X x) (hm : X.mg x = some (.ref C)) (hq : PySem.W.excIn X.K C vErr "ValueError.__new__" = true) (hd : (x == ("__debug__" : Str)) = false := by decide) :
    PS X (.Raise (some (.Call (.Name x np) [.Constant (.str msg) j kp] [] cpos)) none pos) (tRaise C E) := by
  intro pins s σ H D I h
  obtain ⟨tl, N, nm, qn, bs, hdct, sn, sub, ab, col, dd, k0, k1, k2, k3, k5, mN, hC, hN, hni, T⟩ := exc_obj I.kIn hq
  refine wpAny_Raise_call_subT (C := C) (nm := nm) (q := qn) (N := N) (bs := bs) (bm := tl) (hdct := hdct) (sn := sn) (sub := sub) (ab := ab) (col := col) (dd := dd) (k0 := k0) (k1 := k1) (k2 := k2) (k3 := k3) (k5 := k5)
    PySem.F.excBase_ValueError (mN := mN) (T.hasType PySem.F.excBase_ValueError.hasBase) (I.ok.hd hc) rfl hni (ld_glob I hg hm ⟨rfl, ?_⟩ hd)
  refine Calls.evalArgs_plain (Calls.spliced_cons (Calls.Constant_str (pos := kp) (k := j) (Calls.spliced_nil ?_)))
  exact ⟨rfl, (show 1 ≤ sizeLine by decide), hC, hN, T, fun h' e hme => hx pins σ H { s with toks := s.toks + 1 } e C h' _ (I.tok _) hme h⟩
end L2
set_option Elab.async false
set_option linter.all false
set_option maxRecDepth 100000
set_option maxHeartbeats 4000000
namespace L2
open PySem PySem.Spec PyProof.Rows
structure ExcK (K : PySem.W.Frag) (C : Addr) : Prop where
  ob : PySem.W.excIn K C vErr "ValueError.__new__" = true
  ga : PySem.W.findIn K (.ref C) "__getattribute__" = some (some (.builtin "BaseException.__getattribute__"))
  na : PySem.W.findIn K (.ref C) "__getattr__" = some none
  cl : PySem.W.findIn K (.ref C) "__class__" = some (some (.builtin "object.__class__"))
section
variable {prog : Program} {w : World} {A : Around} {E : Value → Shared → Prop} {h : Heap} {g : Array GenState} {d : Drawn} {t : Nat} {os : OsState} {a C : Addr} {o : Obj} {K : PySem.W.Frag}
theorem xc_get {R : Result → Shared → Prop} (X : K.In h) (Z : ExcK K C) (hx : h.get? a = some o) (hc : o.cls = .ref C) (hq : R (.ok (.ret (.ref C))) ⟨h, g, d, t, os⟩) :
    codeAny (model prog w) A (.call (.builtin "getset_descriptor.__get__") ⟨[.builtin "object.__class__", .ref a, .ref C], []⟩) R ⟨h, g, d, t, os⟩ := by
  obtain ⟨bm, N, nm, qn, bs, hdct, sn, sub, ab, col, dd, k0, k1, k2, k3, k5, mN, hC, hN, hni, T⟩ := exc_obj X Z.ob
  have ty5 : (⟨h, g, d, t, os⟩ : Shared).TypeIs (.builtin "object.__class__") "getset_descriptor" := F.typeOf_object_class
  have hob : (Value.ref C :: bm).contains (.type (".".intercalate ("object.__class__".cutAt '.').dropLast)) = true := by
    rw [F.owner_object_class, List.contains_cons, T.hasType (show vErr.contains (.type "object") = true by decide +kernel), Bool.or_true]
  refine codeAny_call_builtin F.slot_gs_get.plain F.entry_gs_get (F.slot_gs_get.check _ _ _ _ _ _ _ _ ty5 (F.args_gs_get _ _ _) ?_)
  repeat (any_goals (first | assumption | (with_reducible refine wpAny_loadPart_at hx ?_; rw [hc]) | (with_reducible refine wpAny_isSubtype_exc hC ?_; rw [hob]) | wp_step))
  refine ⟨Code.quiet_builtin _ (by decide +kernel), codeAny_builtin F.entry_object_class ?_⟩
  repeat (any_goals (first | assumption | (with_reducible refine wpAny_loadPart_at hx ?_; rw [hc]) | wp_step))
theorem xc_entry {tk : Tok} {Q : Fin → Shared → Prop} (X : K.In h) (Z : ExcK K C) (hx : h.get? a = some o) (hc : o.cls = .ref C) (hq : Q (.done (.ret (.ref C))) ⟨h, g, d, t, os⟩) :
    wpAny (model prog w) A (Builtin.«object.__getattribute__» ⟨[.ref a, .str "__class__" tk], []⟩) Q E ⟨h, g, d, t, os⟩ := by
  have ty5 : (⟨h, g, d, t, os⟩ : Shared).TypeIs (.builtin "object.__class__") "getset_descriptor" := F.typeOf_object_class
  have f5 := F.typeOf_object_class
  have f6 := F.slot_gs_get.lookup
  have f7 := F.slot_gs_set.lookup
  have L := PySem.W.looks_findIn (M := model prog w) X Z.cl
  repeat (any_goals (first | assumption | (with_reducible refine wpAny_loadPart_at hx ?_; rw [hc]) | with_reducible refine L.at ?_ | wp_step))
  refine xc_get X Z hx hc ?_
  repeat (any_goals (first | assumption | wp_step))
theorem xc_check {M : Model} {nameV : Value} {Q : Unit → Shared → Prop} (X : K.In h) (Z : ExcK K C) (hx : h.get? a = some o) (hc : o.cls = .ref C) (hq : Q () ⟨h, g, d, t, os⟩) :
    wpAny M A (checkBuiltinCall "BaseException.__getattribute__" ⟨[.ref a, nameV], []⟩) Q E ⟨h, g, d, t, os⟩ := by
  obtain ⟨bm, N, nm, qn, bs, hdct, sn, sub, ab, col, dd, k0, k1, k2, k3, k5, mN, hC, hN, hni, T⟩ := exc_obj X Z.ob
  have b1 : builtinKind "BaseException.__getattribute__" = some .slot := by decide +kernel
  have b2 : splitId "BaseException.__getattribute__" = some ("BaseException", "__getattribute__") := by decide +kernel
  have hcb : (Value.ref C :: bm).contains (.type "BaseException") = true := by rw [List.contains_cons, T.hasType PySem.F.excBase_ValueError.hasBase, Bool.or_true]
  have b3 := F.args_bexc_ga (.ref a) nameV
  simp only [checkBuiltinCall, b1, b2]
  refine wpAny_bind ?_
  unfold isInstance
  repeat (first | (with_reducible refine wpAny_loadPart_at hx ?_; rw [hc]) | (with_reducible refine wpAny_isSubtype_exc hC ?_; rw [hcb]) | wp_step)
  exact hq
theorem xc_by {tk : Tok} {Q : Value → Shared → Prop} (X : K.In h) (Z : ExcK K C) (hx : h.get? a = some o) (hc : o.cls = .ref C) (hq : Q (.ref C) ⟨h, g, d, t, os⟩) :
    wpAny (model prog w) A (getAttrBy (.ref a) (.str "__class__" tk) false) Q E ⟨h, g, d, t, os⟩ := by
  have f3 := PySem.F.attr_ValueError.ga.bind (.ref a)
  have e2 : (Value.builtin "BaseException.__getattribute__" == Value.builtin "object.__getattribute__") = false := by decide +kernel
  have e1 : (onTheHeap (Value.ref C) && Value.builtin "BaseException.__getattribute__" == Value.builtin "object.__getattribute__") = false := by rw [e2]; rfl
  have L1 := PySem.W.looks_findIn (M := model prog w) X Z.ga
  have L2' := PySem.W.looks_findIn (M := model prog w) X Z.na
  repeat (any_goals (first | assumption | (with_reducible refine wpAny_loadPart_at hx ?_; rw [hc]) | with_reducible refine L1.at ?_ | with_reducible refine L2'.at ?_ | wp_step))
  refine codeAny_call_builtin PySem.F.attr_ValueError.ga.plain F.entry_bexc_ga (xc_check X Z hx hc (xc_entry X Z hx hc ?_))
  repeat (any_goals (first | assumption | wp_step))
theorem xc_attr {Q : Option Value → Shared → Prop} (X : K.In h) (Z : ExcK K C) (hx : h.get? a = some o) (hc : o.cls = .ref C) (hq : Q (some (.ref C)) ⟨h, g, d, t + 1, os⟩) :
    wpAny (model prog w) A (getAttr? (.ref a) "__class__") Q E ⟨h, g, d, t, os⟩ := by
  unfold getAttr? getAttrBy?
  repeat (any_goals (first | assumption | with_reducible apply xc_by X Z hx hc | wp_step))
theorem xc_kit (Z : ExcK K C) : PySem.W.KitX K (.ref a) (.ref C) (fun h => ∃ o, h.get? a = some o ∧ o.cls = .ref C) where
  ty := fun M h X p => by
    obtain ⟨o, e, hc⟩ := p
    exact hc ▸ (PySem.W.Looks.ld e).andThen .now
  it := fun M h X p => by
    obtain ⟨bm, N, nm, qn, bs, hdct, sn, sub, ab, col, dd, k0, k1, k2, k3, k5, mN, hC, hN, hni, T⟩ := exc_obj X Z.ob
    intro A' Q' E' s' k q
    unfold isType loadHead
    exact wpAny_bind (wpAny_loadPart (k _ _ hC) (wpAny_pure q))
  ne := fun h tp dd' its n sl X e => by
    obtain ⟨bm, N, nm, qn, bs, hdct, sn, sub, ab, col, dd, k0, k1, k2, k3, k5, mN, hC, hN, hni, T⟩ := exc_obj X Z.ob
    refine beq_eq_false_iff_ne.mpr fun z => ?_
    cases z
    rw [hC] at e
    exact absurd (Value.type.inj (congrArg Obj.cls (Option.some.inj e))) (by decide)
  ca := fun {_ _ _ _ _ s} X p q => by
    obtain ⟨o, e, hc⟩ := p
    obtain ⟨h, g, d, t, os⟩ := s
    exact xc_attr X Z e hc q
end
section
variable {X : Cx}
def rIsE (K : PySem.W.Frag) (ea C : Addr) : List V → Hp → VK → Prop := fun xs H Q => ∃ (c : V) (cv : Value) (b : Bool), xs = [.ref ea, c] ∧ RelV c cv ∧ (∀ u, RelV c u → u = cv) ∧ PySem.W.kitOne K (.ref C) cv = some b ∧ Q (.bl b) H
theorem call_isE {K : PySem.W.Frag} {ea C : Addr} {oe : Obj} (hK : X.K = K) (hp : (ea, oe) ∈ X.pn) (hc : oe.cls = .ref C) (Z : ExcK K C) : CallR X (.builtin "isinstance") (rIsE K ea C) := by
  subst hK
  intro pins s σ H xs us Q I r h
  obtain ⟨c, cv, b, rfl, rc, un, e, q⟩ := h
  obtain ⟨u, w', rfl, r1, r2⟩ := vals2 r
  cases r1
  rw [un w' r2]
  obtain ⟨hob, _⟩ := I.pin (ea, oe) (List.mem_append_left _ hp)
  exact PySem.W.kia_one (xc_kit Z) I.kIn ⟨oe, hob, hc⟩ e (fun z => nomatch z) fun tk => ⟨.bl b, H, I.tok tk, rfl, q⟩
theorem a_isE {K : PySem.W.Frag} {ea C : Addr} {xs : List V} {H : Hp} {Q : VK} : rIsE K ea C xs H Q = ∃ (c : V) (cv : Value) (b : Bool), xs = [.ref ea, c] ∧ RelV c cv ∧ (∀ u, RelV c u → u = cv) ∧ PySem.W.kitOne K (.ref C) cv = some b ∧ Q (.bl b) H := rfl
end
section
variable {X : Cx} {pins : List (Addr × Obj)} {σ : St} {H : Hp} {s : Shared}
theorem goes_ok {M : Model} {A : Around} {E : Value → Shared → Prop} {i : Nat} {n : Str} {pos : Pos} {Q : Unit → Shared → Prop} (I : Inv X pins σ H s) (hN : X.N.Nodup) (hi : X.N[i]? = some n) (hk : X.env.scope.names.lookup n = some .local)
    (h : ∀ s', Inv X pins (σ.set i none) H s' → Q () s') : wpAny M A (do bindName X.env n .none; unbindBehindTheSuite X.env n pos) Q E s := by
  obtain ⟨m, hn, hl⟩ := id I.loc
  have hcls : (X.env.scope.kind == .class || (X.env.scope.kind == .module && X.env.locals != X.env.globals)) = false := by rw [I.ok.kind]; rfl
  have hiσ : i < σ.length := by rw [I.len]; exact (List.getElem?_eq_some_iff.mp hi).1
  have cne := I.cne
  refine wpAny_nameGoes_keeps hk hn hcls fun h' v hn' hs => ?_
  obtain ⟨oL, _, _, hoL, _⟩ := id hn
  refine h _ ⟨I.ok, I.os, I.bare, ⟨fun b o e n hb hx => ?_, fun b o e n hb hx => ?_, I.base.free, fun b o e hx => ?_, I.base.tups, I.base.frzs, I.base.tbls⟩, ⟨_, hn', fun j y v' e1 e2 e3 => ?_⟩, fun y c e => ?_, I.free, I.freeC, fun p hp => ?_, fun b ob e => ?_, by simpa using I.len⟩
  · exact (hs.2 b (Nat.ne_of_lt (Nat.lt_of_lt_of_le (Heap.lt_size e) I.ok.above))).trans (I.base.keep b o e n hb hx)
  · obtain ⟨sl, e1⟩ := I.base.slot b o e n hb hx
    exact ⟨sl, (hs.2 b (Nat.ne_of_lt (Nat.lt_of_lt_of_le (Heap.lt_size e) I.ok.above))).trans e1⟩
  · obtain ⟨o', e1⟩ := I.base.there b o e hx
    exact ⟨o', (hs.2 b (Nat.ne_of_lt (Nat.lt_of_lt_of_le (Heap.lt_size e) I.ok.above))).trans e1⟩
  · by_cases hj : j = i
    · subst hj
      rw [List.getElem?_set_self hiσ] at e2
      cases e2
    · rw [List.getElem?_set_ne (Ne.symm hj)] at e2
      obtain ⟨u', r', q⟩ := hl j y v' e1 e2 e3
      refine ⟨u', r', ?_⟩
      rcases q with ⟨k, e⟩ | ⟨k, c, e, z⟩
      · refine .inl ⟨k, ?_⟩
        have : y ≠ n := fun e => hj (nodup_ix hN e1 (e ▸ hi))
        simp [this, e]
      · exact .inr ⟨k, c, e, z.sameBut hs (cne y c e)⟩
  · obtain ⟨w', z⟩ := I.cell y c e
    exact ⟨w', z.sameBut hs (cne y c e)⟩
  · obtain ⟨e, n, ne, nf, d⟩ := I.pin p hp
    exact ⟨(hs.2 p.1 ne).trans e, n, ne, nf, d⟩
  · refine (I.hok b ob e).stay (fun c w' hc q => (hs.2 c ?_).trans q) (fun _ q => q) fun _ _ q => q
    rintro rfl
    rcases hc with rfl | hc
    · rw [I.free] at e; cases e
    · rw [I.free] at hc; cases hc
abbrev Cx.suite (X : Cx) (A : Around) (xe : Value → Shared → Prop) (pn : List (Addr × Obj)) : Cx := { X with A := A, calm := false, xe := xe, pn := X.pn ++ pn }
theorem Inv.suite {A : Around} {xe : Value → Shared → Prop} {pn : List (Addr × Obj)} (I : Inv X pins σ H s) (hf : A.frames = X.A.frames) (hp : ∀ p ∈ pn, s.heap.get? p.1 = some p.2 ∧ H p.1 = none ∧ p.1 ≠ X.env.locals ∧ p.1 ∉ X.fs ∧ ∀ v, p.2.data ≠ .cell v) :
    Inv (X.suite A xe pn) pins σ H s :=
  ⟨⟨I.ok.mod, I.ok.kind, I.ok.glob, I.ok.blt, I.ok.above, I.ok.inj, I.ok.has, I.ok.cab, (fun z => nomatch z), hf.trans I.ok.frames, I.ok.stk, I.ok.exf, I.ok.bs, I.ok.bsz, I.ok.noex, I.ok.exfs, I.ok.funs, I.ok.frf⟩, I.os, I.bare, I.base, I.loc, I.cell, I.free, I.freeC,
    fun p hpp => by
      rcases List.mem_append.mp hpp with q | q
      · rcases List.mem_append.mp q with q | q
        · exact I.pin p (List.mem_append_left _ q)
        · exact hp p q
      · exact I.pin p (List.mem_append_right _ q), I.hok, I.len⟩
theorem Inv.unsuite {A : Around} {xe : Value → Shared → Prop} {pn : List (Addr × Obj)} (ok : X.Ok) (I : Inv (X.suite A xe pn) pins σ H s) : Inv X pins σ H s :=
  ⟨ok, I.os, I.bare, I.base, I.loc, I.cell, I.free, I.freeC, fun p hp => I.pin p (by
    rcases List.mem_append.mp hp with q | q
    · exact List.mem_append_left _ (List.mem_append_left _ q)
    · exact List.mem_append_right _ q), I.hok, I.len⟩
end
def tTry (K : PySem.W.Frag) (sp : Sp) (CF : Addr) (i : Nat) (ta : TA) (ts : Addr → Addr → TS) : TS := fun D σ H => ta σ H fun vs H1 => sp vs H1 (fun _ H2 => D.nx σ H2)
  (fun cls _ H2 => ∃ C, cls = .ref C ∧ ExcK K C ∧ PySem.W.exmOne K (.ref C) (.ref CF) = some true ∧ ∀ ea, H2 ea = none → ts ea C { nx := fun σ' H' => D.nx (σ'.set i none) H', rt := fun _ _ => False } (σ.set i (some (.ref ea))) H2)
theorem ps_try {X : Cx} {k : Nat} {f CF : Addr} {fd : FuncData} {ps : List Str} {sp : Sp} {x cls n : Str} {i : Nat} {ta : TA} {ts : Addr → Addr → TS} {e : Expr} {es : List Expr} {b0 : Stmt} {suite : List Stmt} {np cpos epos hp hpos pos : Pos}
    (F : FnOk X.prog X.w X.K X.mg X.base (CXR X.prog X.w) k f fd ps sp) (hr : Room k X.A) (hg : Gl X x) (hm : X.mg x = some (.ref f)) (hk : PySem.W.keepIn X.K (.ref f) = true) (hb : Binds X.K fd ps [])
    (ha : ∀ xe, PA (X.wish xe) (e :: es) ta) (hgc : Gl X cls) (hmc : X.mg cls = some (.ref CF)) (hN : X.N.Nodup) (hi : X.N[i]? = some n) (hl : X.env.scope.names.lookup n = some .local)
    (hs : ∀ A xe ea C oe, oe.cls = .ref C → ExcK X.K C → PSs (X.suite A xe [(ea, oe)]) (b0 :: suite) (ts ea C))
    (hstk : X.stack = X.env :: X.outer := by rfl) (hfr : X.env.frame = some X.env.locals := by rfl) (hdb : (x == ("__debug__" : Str)) = false := by decide) (hdc : (cls == ("__debug__" : Str)) = false := by decide)
    (he : starEach (e :: es) X.env = (false, eval e X.env) :: starEach es X.env := by rfl) (hpl : (backTo cpos (starEach es X.env)).any (·.1) = false := by rfl)
    (hsw : swapsWith (.Call (.Name x np) (e :: es) [] cpos) none epos.line X.env = pure false := by rfl) :
    PS X (.Try [.Expr (.Call (.Name x np) (e :: es) [] cpos) epos] [.ExceptHandler (some (.Name cls hp)) (some n) (b0 :: suite) hpos] [] [] pos) (tTry X.K sp CF i ta ts) := by
  intro pins s σ H D I h
  refine wpAny_Try_except ?_
  generalize hXE : (fun (e : Value) (s₁ : Shared) => wpAny (model X.prog X.w) X.A (noteFrame e X.env) (fun _ s₂ => wpAny (model X.prog X.w) X.A (setFlight e none) (fun _ s₃ => wpAny (model X.prog X.w) X.A (handleBy e X.env [.ExceptHandler (some (.Name cls hp)) (some n) (b0 :: suite) hpos]) (SP X pins D) X.xe s₃) X.xe s₂) X.xe s₁) = XE
  have IB : Inv (X.wish XE) pins σ H s := I.wish XE
  have body : wpAny (model X.prog X.w) X.A (eval (.Call (.Name x np) (e :: es) [] cpos) X.env) (fun _ s1 => SP X pins D .next s1) XE s := by
    refine wpAny_Call_Name_kw (ld_glob (X := X.wish XE) IB hg hm ?_ hdb)
    refine PySem.W.callWith_K (h₀ := X.base) I.ok.mod.kin hk (thn (ha XE cpos pins s σ H _ IB h) fun us s1 ⟨vs, H1, I1, r, q⟩ => ⟨I1.kIn, ?_⟩) he hpl
    have hlv : us.length = ps.length := by rw [← r.length]; exact F.len _ _ _ _ q
    refine wpAny_call (codeAny_mono (F.run X.A X.stack s1 H1 ⟨us, []⟩ us vs _ _ hr I1.env0 (by have z := hb s1 us I1.kIn (by rw [List.append_nil]; exact hlv); rw [List.append_nil] at z; exact z) r q) fun r s' hq => ?_)
    cases r with
    | ok fl =>
      cases fl with
      | ret u =>
        obtain ⟨v, H', J, rv, q'⟩ := I1.after hq
        exact ⟨σ, H', J.unwish, q'⟩
      | next => exact False.elim hq
      | brk => exact False.elim hq
      | cont => exact False.elim hq
    | error er =>
      obtain ⟨ea, t, C, H', B, rfl, ho, hgn, u, hok, fl, bg, C', eC, Z, hex, qs⟩ := hq
      cases eC
      have I0 : Inv X pins σ H1 s1 := I1.unwish
      have fl' : Heap.FlyingW B X.stack ea (.ref C) (.ref t) s'.heap := fl
      have bg' : Bg X.stack H1 H' s1.heap s'.heap B := bg
      have fl0 : Heap.FlyingW B (X.env :: X.outer) ea (.ref C) (.ref t) s'.heap := by rw [← hstk]; exact fl'
      have hfrm : X.A.frames = some (X.env :: X.outer) := by rw [← hstk]; exact I.ok.frames
      show XE (.ref ea) s'
      rw [← hXE]
      refine wpAny_looks_onW (base := B) hfrm hfr fl0 fun h4 held4 up4 => ?_
      refine wpAny_landsW held4 fun h5 fl5 up5 => ?_
      have J5 : Inv X pins σ H' { s' with heap := h5 } := I0.flown ho hgn u hok fl'.2.2.1 bg' fl5.1 (up4.trans up5)
      refine wpAny_handleBy_cons (codeAny_handlers_test ?_) (by intro q; cases q)
      have M5 := J5.suite (A := X.A.mark (some (.ref ea))) (xe := X.xe) (pn := []) rfl (fun p hp => nomatch hp)
      refine ld_glob (X := X.suite (X.A.mark (some (.ref ea))) X.xe []) M5 hgc hmc ?_ hdc
      obtain ⟨ob, hob, hobc⟩ := fl5.there
      have LT : PySem.W.Looks (model X.prog X.w) h5 (typeOf (.ref ea)) (.ref C) := hobc ▸ (PySem.W.Looks.ld hob).andThen .now
      refine (PySem.W.exm_one (M := model X.prog X.w) (K := X.K) J5.kIn LT hex) _ _ _ _ (fun _ _ z => z) ?_
      refine codeAny_handlers_suite_as ?_
      refine lands_againW fl5 fun h6 fl6 up6 => ?_
      have J6 : Inv X pins σ H' { s' with heap := h6 } := I0.flown ho hgn u hok fl'.2.2.1 bg' fl6.1 ((up4.trans up5).trans up6)
      obtain ⟨oe, ws, hoe, hoec, hoed, _⟩ := fl6.first
      have hea : H' ea = none := by
        cases e1 : H' ea with
        | none => rfl
        | some u1 =>
          obtain ⟨ob1, e2⟩ := (hok ea u1 e1).ex
          have e3 := bg'.k2 ea ob1 (by rw [e1]; exact fun z => nomatch z) e2
          rw [fl6.2.1] at e3
          cases e3
      have nfr : ea ∉ frs (X.env :: X.outer) := fun hmem => by
        obtain ⟨_, o1, e1, e2⟩ := fl6.2.2.1.mem hmem
        rw [hoe] at e1
        cases e1
        exact e2 ws hoed
      have nloc : ea ≠ X.env.locals := fun z => nfr (by unfold frs; rw [List.filterMap_cons, hfr, z]; exact List.mem_cons_self)
      have nfs : ea ∉ X.fs := fun z => nfr (by unfold frs; rw [List.filterMap_cons, hfr]; exact List.mem_cons_of_mem _ z)
      refine store_ok2 J6 hN hi (.inl hl) (v := .ref ea) (u := .ref ea) rfl (fun s7 J7 ⟨a7, sb, ha7⟩ => ?_) (.inr hl)
      have na : ea ≠ a7 := by
        rcases ha7 with z | z
        · rw [z]; exact nloc
        · intro z2
          obtain ⟨v, o1, e1, e2⟩ := J6.cell n a7 z
          have e3 : h6.get? a7 = some o1 := e1
          rw [← z2, hoe] at e3
          cases e3
          rw [hoed] at e2
          cases e2
      have hoe7 : s7.heap.get? ea = some oe := (sb.2 ea na).trans hoe
      have J7s := fun xe => J7.suite (A := X.A.mark (some (.ref ea))) (xe := xe) (pn := [(ea, oe)]) rfl (fun p hp => by
        rw [List.mem_singleton.mp hp]
        exact ⟨hoe7, hea, nloc, nfs, fun v z => by rw [hoed] at z; cases z⟩)
      refine thn (hs _ _ ea C oe hoec Z pins s7 _ H' _ (J7s _) (qs ea hea)) fun fl8 s8 hs8 => ?_
      cases fl8 with
      | next =>
        obtain ⟨σ8, H8, J8, q8⟩ := hs8
        exact goes_ok (J8.unsuite I.ok) hN hi hl fun s9 J9 => ⟨_, H8, J9, q8⟩
      | brk => obtain ⟨_, _, _, z⟩ := hs8; exact False.elim z
      | cont => obtain ⟨_, _, _, z⟩ := hs8; exact False.elim z
      | ret u => obtain ⟨_, _, _, _, _, z⟩ := hs8; exact False.elim z
  refine wpAny_execs_cons (thn (wpAny_Expr_any (Q := fun f s1 => f = Flow.next ∧ SP X pins D .next s1) (thn body fun v s1 q => ⟨rfl, q⟩) IB.quiet hsw) fun f s1 ⟨ef, q⟩ => ?_)
  subst ef
  exact wpAny_execs_nil (wpAny_execs_nil q)
end L2
set_option Elab.async false
set_option linter.all false
set_option maxRecDepth 100000
set_option maxHeartbeats 4000000
namespace L2
open PySem PySem.Spec PyProof.Rows
section
variable {X : Cx}
def rCountB : V → List V → Hp → VK → Prop := fun x vs H Q => ∃ (l : Addr) (bs : List Bool) (k : Bool), x = .ref l ∧ vs = [.bl k] ∧ H l = some (.lst (bs.map V.bl)) ∧ Q (.int ((bs.countP (· == k) : Nat) : Int)) H
theorem boolVals : ∀ {bs : List Bool} {us : List Value}, Vals (bs.map V.bl) us → us = bs.map Value.bool
  | [], _, r => by rw [List.map_nil] at r; cases r; rfl
  | b :: bs, _, r => by
    rw [List.map_cons] at r
    cases r with
    | cons h t =>
      cases h
      rw [boolVals t, List.map_cons]
theorem countBools (k : Bool) (bs : List Bool) : (bs.map Value.bool).countP (isBoolOf k) = bs.countP (· == k) := by
  induction bs with
  | nil => rfl
  | cons b bs ih => rw [List.map_cons, List.countP_cons, List.countP_cons, ih]; rfl
theorem mt_countB : MtM X "list.count" rCountB := by
  intro pins s σ H x vs v us Q I rx rv h
  obtain ⟨l, bs, k, rfl, rfl, hH, q⟩ := h
  cases rx
  obtain ⟨u, rfl, ru⟩ := rv.one
  cases ru
  obtain ⟨z, its, n, r, hl, e⟩ := I.lstM hH
  have hi := boolVals r
  subst hi
  refine call_meets F.slot_list_count ⟨_, e, rfl⟩ F.entry_list_count (F.args_list_count_2 _ _) (SeqAt.list_countAt l _ n none #[] (.bool k) (isBoolOf k)) ⟨e, fun y hy => ?_, ?_⟩
  · obtain ⟨b, _, rfl⟩ := List.mem_map.mp (show y ∈ bs.map Value.bool by simpa using hy)
    exact SeqAt.EqAt.bool_bool b k
  · rw [show (bs.map Value.bool).toArray.toList = bs.map Value.bool from rfl, countBools]
    exact ⟨.int _, H, I.tok _, ⟨_, rfl⟩, q⟩
theorem pe_countB {K : PySem.W.Frag} {o e : Expr} {to : TE} {t : TA} {apos cpos : Pos} (hK : X.K = K) (ho : PE X o to) (ha : PA X [e] t) (hbase : attributeBase o "count" X.env (eval o X.env) = eval o X.env := by rfl)
    (hfew : ((backTo cpos (starEach [e] X.env)).all (fun x => !x.1) && (backToKw cpos (keywordEach [] X.env)).all (fun x => x.1.isSome) && decide (([e] : List Expr).length + ([] : List Keyword).length + (if ([] : List Keyword).isEmpty then 0 else 1) < 30)) = true := by rfl)
    (hline : (apos.endLine == cpos.line) = true := by rfl) (hs : starEach [e] X.env = [(false, eval e X.env)] := by rfl) :
    PE X (.Call (.Attribute o "count" apos) [e] [] cpos) (tBM K "list" rCountB to t) := by
  subst hK
  exact pe_bm PySem.F.plainAttrs_list PySem.F.slot_list_count PySem.F.type_list_count mt_countB ho ha hbase hfew hline hs rfl
theorem a_countB {x : V} {vs : List V} {H : Hp} {Q : VK} : rCountB x vs H Q = ∃ (l : Addr) (bs : List Bool) (k : Bool), x = .ref l ∧ vs = [.bl k] ∧ H l = some (.lst (bs.map V.bl)) ∧ Q (.int ((bs.countP (· == k) : Nat) : Int)) H := rfl
end
theorem a_raise {C : Addr} {E : XK} {D : Ends} {σ : St} {H : Hp} : tRaise C E D σ H = E (.ref C) none H := rfl
theorem a_try {K : PySem.W.Frag} {sp : Sp} {CF : Addr} {i : Nat} {ta : TA} {ts : Addr → Addr → TS} {D : Ends} {σ : St} {H : Hp} : tTry K sp CF i ta ts D σ H = ta σ H fun vs H1 => sp vs H1 (fun _ H2 => D.nx σ H2)
  (fun cls _ H2 => ∃ C, cls = .ref C ∧ ExcK K C ∧ PySem.W.exmOne K (.ref C) (.ref CF) = some true ∧ ∀ ea, H2 ea = none → ts ea C { nx := fun σ' H' => D.nx (σ'.set i none) H', rt := fun _ _ => False } (σ.set i (some (.ref ea))) H2) := rfl
end L2
namespace Pw
open PySem L2
structure FOkR (P : Program) (w : World) (K : PySem.W.Frag) (mg : Str → Option Value) (base : Heap) (x : Str) (k : Nat) (ps : List Str) (sp : Sp) (f : Addr) (fd : FuncData) : Prop where
  G : FnOk P w K mg base (CXR P w) k f fd ps sp
  m : mg x = some (.ref f)
  kp : PySem.W.keepIn K (.ref f) = true
  b : Binds K fd ps []
structure Ref (K : PySem.W.Frag) (cF cN cW c1 C : Addr) (n w o : Bool) : Prop where
  z : ExcK K C
  ex : PySem.W.exmOne K (.ref C) (.ref cF) = some true
  kN : PySem.W.kitOne K (.ref C) (.ref cN) = some n
  kW : PySem.W.kitOne K (.ref C) (.ref cW) = some w
  k1 : PySem.W.kitOne K (.ref C) (.ref c1) = some o
  kV : PySem.W.kitOne K (.ref C) (.type "ValueError") = some true
structure Cls (K : PySem.W.Frag) (mg : Str → Option Value) (cF cN cW c1 : Addr) : Prop where
  mF : mg "FlowError" = some (.ref cF)
  mN : mg "NoStation" = some (.ref cN)
  mW : mg "NoWidth" = some (.ref cW)
  m1 : mg "OneStation" = some (.ref c1)
  rN : Ref K cF cN cW c1 cN true false false
  rW : Ref K cF cN cW c1 cW false true false
  r1 : Ref K cF cN cW c1 c1 false false true
theorem exm_of {K : PySem.W.Frag} {C CF : Addr} (h1 : PySem.W.subIn K (.ref CF) (.type "BaseException") = some true) (h2 : C ≠ CF) (h3 : PySem.W.kitOne K (.ref C) (.ref CF) = some true) : PySem.W.exmOne K (.ref C) (.ref CF) = some true := by
  unfold PySem.W.exmOne
  rw [h1, if_pos (by decide)]
  unfold PySem.W.kitOne at h3
  rw [if_neg (fun z => h2 (Value.ref.inj (beq_iff_eq.mp z)))] at h3
  exact h3
def Verd (n s t : Int) (rows : List Pipe) (word : Str) : Prop :=
  (¬ InR n s t rows ∧ word = "no station") ∨ (InR n s t rows ∧ (∃ r ∈ rows, r.2.2 < 0) ∧ word = "no width") ∨ (InR n s t rows ∧ (∀ r ∈ rows, 0 ≤ r.2.2) ∧ s = t ∧ word = "one station") ∨ (InR n s t rows ∧ (∀ r ∈ rows, 0 ≤ r.2.2) ∧ s ≠ t ∧ word = "done")
theorem no_both {rows : List Pipe} (h : ∃ r ∈ rows, r.2.2 < 0) (h' : ∀ r ∈ rows, 0 ≤ r.2.2) : False := by
  obtain ⟨r, hr, e⟩ := h
  have := h' r hr
  omega
theorem verd_one {n s t : Int} {rows : List Pipe} {w w' : Str} (h : Verd n s t rows w) (h' : Verd n s t rows w') : w = w' := by
  rcases h with ⟨a, rfl⟩ | ⟨a, b, rfl⟩ | ⟨a, b, c, rfl⟩ | ⟨a, b, c, rfl⟩ <;> rcases h' with ⟨a', rfl⟩ | ⟨a', b', rfl⟩ | ⟨a', b', c', rfl⟩ | ⟨a', b', c', rfl⟩ <;> first
    | rfl
    | exact absurd a' a
    | exact absurd a a'
    | exact (no_both b b').elim
    | exact (no_both b' b).elim
    | exact absurd c c'
    | exact absurd c' c
def spRefStR (K : PySem.W.Frag) (cN : Addr) : Sp := fun vs H Q E => ∃ (a : Addr) (ps : List Addr) (rows : List Pipe) (n s t : Int), vs = [.int n, .ref a, .int s, .int t] ∧ SqL K H a (ps.map V.ref) ∧ Paired (PRow H) ps rows ∧ ps.length ≤ 400 ∧
  (InR n s t rows → ∀ H', Same H H' → Q .non H') ∧ (¬ InR n s t rows → ∀ H', Same H H' → E (.ref cN) none H')
def spRefWR (K : PySem.W.Frag) (cW : Addr) : Sp := fun vs H Q E => ∃ (a : Addr) (ps : List Addr) (rows : List Pipe), vs = [.ref a] ∧ SqL K H a (ps.map V.ref) ∧ Paired (PRow H) ps rows ∧
  ((∀ r ∈ rows, 0 ≤ r.2.2) → ∀ H', Same H H' → Q .non H') ∧ ((∃ r ∈ rows, r.2.2 < 0) → ∀ H', Same H H' → E (.ref cW) none H')
def spRef1R (c1 : Addr) : Sp := fun vs H Q E => ∃ s t : Int, vs = [.int s, .int t] ∧ (s ≠ t → ∀ H', Same H H' → Q .non H') ∧ (s = t → ∀ H', Same H H' → E (.ref c1) none H')
def spBestR (K : PySem.W.Frag) (cN cW c1 : Addr) : Sp := fun vs H Q E => ∃ (a : Addr) (ps : List Addr) (rows : List Pipe) (n : Nat) (s t : Int), vs = [.int n, .ref a, .int s, .int t] ∧ SqL K H a (ps.map V.ref) ∧ Paired (PRow H) ps rows ∧ ps.length ≤ 400 ∧ n ≤ 63 ∧
  (¬ InR n s t rows → ∀ H', Same H H' → E (.ref cN) none H') ∧ (InR n s t rows → (∃ r ∈ rows, r.2.2 < 0) → ∀ H', Same H H' → E (.ref cW) none H') ∧ (InR n s t rows → (∀ r ∈ rows, 0 ≤ r.2.2) → s = t → ∀ H', Same H H' → E (.ref c1) none H') ∧
  (InR n s t rows → (∀ r ∈ rows, 0 ≤ r.2.2) → s ≠ t → ∀ v H', Same H H' → Q v H')
def spSaid (K : PySem.W.Frag) : Sp := fun vs H Q _ => ∃ (a : Addr) (ps : List Addr) (rows : List Pipe) (n : Nat) (s t : Int), vs = [.int n, .ref a, .int s, .int t] ∧ SqL K H a (ps.map V.ref) ∧ Paired (PRow H) ps rows ∧ ps.length ≤ 400 ∧ n ≤ 63 ∧
  ∀ word H', Verd n s t rows word → Same H H' → Q (.str word) H'
def spJudged (K : PySem.W.Frag) : Sp := fun vs H Q _ => ∃ (a : Addr) (ps : List Addr) (rows : List Pipe) (n s t : Int), vs = [.int n, .ref a, .int s, .int t] ∧ SqL K H a (ps.map V.ref) ∧ Paired (PRow H) ps rows ∧ ps.length ≤ 400 ∧
  ∀ word H', Verd n s t rows word → Same H H' → Q (.str word) H'
def spRoomL (K : PySem.W.Frag) : Sp := fun vs H Q _ => ∃ (a : Addr) (xs : List V) (m b : Int), vs = [.ref a, .int m, .int b] ∧ SqL K H a xs ∧ xs.length ≤ 63 ∧ Q (.int m) H
theorem fit_of {n : Int} {s t : Int} {rows : List Pipe} (h : InR n s t rows) (hw : ∀ r ∈ rows, 0 ≤ r.2.2) : Fit n rows := fun r hr =>
  ⟨h _ (endsL_mem.mpr (.inr (.inr ⟨r, hr, .inl rfl⟩))), h _ (endsL_mem.mpr (.inr (.inr ⟨r, hr, .inr rfl⟩))), hw r hr⟩
theorem cut_to {α : Type} (f : α → V) (l : List α) (k : Nat) : cutV (l.map f) none (some (k : Int)) = (l.take k).map f := by
  unfold cutV
  rw [List.length_map, HT.sIx_nat]
  show ((l.map f).drop 0).take (min k l.length - 0) = _
  rw [List.drop_zero, Nat.sub_zero, ← List.map_take]
  by_cases h : k ≤ l.length
  · rw [Nat.min_eq_left h]
  · rw [Nat.min_eq_right (by omega), List.take_of_length_le (Nat.le_refl _), List.take_of_length_le (by omega)]
theorem cut_rest {α : Type} (f : α → V) (l : List α) (k : Nat) : cutV (l.map f) (some (k : Int)) none = (l.drop k).map f := by
  unfold cutV
  rw [List.length_map, HT.sIx_nat]
  show ((l.map f).drop (min k l.length)).take (l.length - min k l.length) = _
  rw [List.take_of_length_le (by rw [List.length_drop, List.length_map]; omega), ← List.map_drop]
  by_cases h : k ≤ l.length
  · rw [Nat.min_eq_left h]
  · rw [List.drop_of_length_le (by omega), List.drop_of_length_le (by omega)]
theorem pairedTake {α β : Type} {F : α → β → Prop} : ∀ {l₁ : List α} {l₂ : List β} (k : Nat), Paired F l₁ l₂ → Paired F (l₁.take k) (l₂.take k)
  | _, _, 0, _ => by rw [List.take_zero, List.take_zero]; exact .nil
  | _, _, _ + 1, .nil => by rw [List.take_nil, List.take_nil]; exact .nil
  | _, _, k + 1, .cons r t => .cons r (pairedTake k t)
theorem pairedDrop {α β : Type} {F : α → β → Prop} : ∀ {l₁ : List α} {l₂ : List β} (k : Nat), Paired F l₁ l₂ → Paired F (l₁.drop k) (l₂.drop k)
  | _, _, 0, h => by rw [List.drop_zero, List.drop_zero]; exact h
  | _, _, _ + 1, .nil => by rw [List.drop_nil, List.drop_nil]; exact .nil
  | _, _, k + 1, .cons _ t => pairedDrop k t
theorem ins_ok {K : PySem.W.Frag} {σ : St} {H : Hp} {Q : VK} {l : Addr} {ps : List Addr} {rows : List Pipe} {k : Nat} {x y z : Int} {t1 t2 t3 : TE} (hv : σ[10]? = some (some (.ref l))) (hk : σ[6]? = some (some (.int (k : Int)))) (hl : H l = some (.lst (ps.map V.ref))) (hP : Paired (PRow H) ps rows) (hz : ps.length ≤ 1000)
    (h1 : ∀ (H' : Hp) (Q : VK), Q (.int x) H' → t1 σ H' Q) (h2 : ∀ (H' : Hp) (Q : VK), Q (.int y) H' → t2 σ H' Q) (h3 : ∀ (H' : Hp) (Q : VK), Q (.int z) H' → t3 σ H' Q)
    (kk : ∀ (l' : Addr) (ps' : List Addr) (rows' : List Pipe) (H' : Hp), H' l' = some (.lst (ps'.map V.ref)) → Paired (PRow H') ps' rows' → ps'.length = ps.length + 1 → Same H H' → Q (.ref l') H') :
    tOp rCat (tOp rCat (tSl (rSlL K) (tVar 10) tNoPart (tPart (tVar 6))) (tLst (tCons (tTup (tCons t1 (tCons t2 (tCons t3 tNil)))) tNil))) (tSl (rSlL K) (tVar 10) (tPart (tVar 6)) tNoPart) σ H Q := by
  have hsz : sizeLine = 16777216 := sizeLine_eq
  simp only [a_op, a_sl, a_var, a_noPart, a_part, a_rSlL, a_lst, a_cons, a_tup, a_nil, a_rCat]
  refine ⟨_, hv, _, hk, _, rfl, l, _, rfl, SqL.of hl, fun p1 n1 => ?_⟩
  refine h1 _ _ (h2 _ _ (h3 _ _ ⟨(show 3 ≤ sizeLine by decide), fun q nq => ⟨(show 1 ≤ sizeLine by decide), fun p2 n2 => ?_⟩⟩))
  have e1 : cutV (ps.map V.ref) none (some (k : Int)) = (ps.take k).map V.ref := cut_to V.ref ps k
  have e2 : cutV (ps.map V.ref) (some (k : Int)) none = (ps.drop k).map V.ref := cut_rest V.ref ps k
  rw [e1] at nq n2 ⊢
  have s1 := same_upd (o := .lst ((ps.take k).map V.ref)) (Same.refl H) n1
  have s2 := same_upd (o := .tup [.int x, .int y, .int z]) (Same.refl _) nq
  have s3 := same_upd (o := .lst [.ref q]) (Same.refl _) n2
  have lt : (ps.take k).length ≤ ps.length := List.length_take_le' k ps
  refine ⟨p1, p2, _, _, rfl, rfl, s3 _ _ (s2 _ _ upd_same), upd_same, by rw [List.length_map]; show _ + 1 ≤ sizeLine; omega, fun p3 n3 => ?_⟩
  have s4 := same_upd (o := .lst ((ps.take k).map V.ref ++ [.ref q])) (Same.refl _) n3
  have s14 := s1.trans (s2.trans (s3.trans s4))
  refine ⟨_, hv, _, hk, _, rfl, l, _, rfl, SqL.of (s14 _ _ hl), fun p4 n4 => ?_⟩
  rw [e2]
  have s5 := same_upd (o := .lst ((ps.drop k).map V.ref)) (Same.refl _) n4
  refine ⟨p3, p4, _, _, rfl, rfl, s5 _ _ upd_same, upd_same, by rw [List.length_append, List.length_map, List.length_map, List.length_drop]; show _ + 1 + _ ≤ sizeLine; omega, fun p5 n5 => ?_⟩
  have s6 := same_upd (o := .lst ((ps.take k).map V.ref ++ [.ref q] ++ (ps.drop k).map V.ref)) (Same.refl _) n5
  have s16 := s14.trans (s5.trans s6)
  have hq : PRow _ q (x, y, z) := (s3.trans (s4.trans (s5.trans s6))) _ _ upd_same
  refine kk p5 (ps.take k ++ [q] ++ ps.drop k) (rows.take k ++ [(x, y, z)] ++ rows.drop k) _ (by rw [upd_same, List.map_append, List.map_append]; rfl) ?_ ?_ s16
  · have hR := rows_same s16 hP
    exact pairedApp (pairedSnoc (pairedTake k hR) hq) (pairedDrop k hR)
  · rw [List.length_append, List.length_append, List.length_take, List.length_drop]
    show min k ps.length + 1 + _ = _
    omega
theorem cut_ints (ns : List Int) (a b : Option Int) : ∃ cs : List Int, cutV (ns.map V.int) a b = cs.map V.int ∧ cs.length ≤ ns.length := by
  unfold cutV
  rw [List.length_map]
  exact ⟨(ns.drop _).take _, by rw [List.map_take, List.map_drop], Nat.le_trans (List.length_take_le' _ _) (by rw [List.length_drop]; omega)⟩
end Pw
set_option Elab.async false
set_option linter.all false
set_option maxRecDepth 100000
set_option maxHeartbeats 4000000
namespace Lw
open PySem L2 Pw
def top (i : Nat) : Stmt := PySem.Challenge.pw_pipeworks_k08_refused.main.body.getD i (.Pass ⟨0, 0, 0, 0⟩)
structure Txt (K : PySem.W.Frag) (mg : Str → Option Value) : Prop where
  z_ValueError : mg "ValueError" = none
  z_bool : mg "bool" = none
  z_enumerate : mg "enumerate" = none
  z_int : mg "int" = none
  z_isinstance : mg "isinstance" = none
  z_len : mg "len" = none
  z_list : mg "list" = none
  z_max : mg "max" = none
  z_min : mg "min" = none
  z_range : mg "range" = none
  z_sorted : mg "sorted" = none
  z_tuple : mg "tuple" = none
  c_AGAINST : ∃ t, mg "AGAINST" = some (.str "against" t)
  c_ALONG : ∃ t, mg "ALONG" = some (.str "along" t)
  c_GOAL : ∃ t, mg "GOAL" = some (.int 1 t)
  c_START : ∃ t, mg "START" = some (.int 0 t)
  c_WIDTH : ∃ t, mg "WIDTH" = some (.int 2 t)
abbrev s_room : Stmt := top 24
theorem sc_room : FnScope ["_law_script", "_law_most", "_law_bound"] ["_law_script", "_law_most", "_law_bound"] (defScope s_room) := ⟨rfl, rfl, rfl, by decide +kernel, rfl, by decide +kernel, by decide +kernel⟩
section
variable {P : Program} {w : World} {K : PySem.W.Frag} {mg : Str → Option Value} {base : Heap}
theorem ok_room {f : Addr} {fd : FuncData} (F : Fun K "_law_room" "_law_room" s_room f fd) (T : Txt K mg) {cF cN cW c1 : Addr} (CL : Cls K mg cF cN cW c1)  :
    FnOk P w K mg base CX0 1 f fd ["_law_script", "_law_most", "_law_bound"] (spRoomL K) := by
  refine F.ok sc_room (fun vs H Q E h => ?_) (fun cdv A outer s H vs Q E hr h => ?_)
  · obtain ⟨a, xs, m, b, rfl, hA, hl, k⟩ := h
    rfl
  · obtain ⟨a, xs, m, b, rfl, hA, hl, k⟩ := h
    have SC := sc_room
    have hu := hu_of hr
    have hu0 := hr.units0
    refine ⟨_, (pss_cons (ps_if (pt_cmpR op_gt (pe_callB call_len_seq rfl T.z_len PySem.boot_len (pa_cons (pv 0) pa_nil)) pe_int (nomark _))
  (pss_one (ps_ret (pv 2)))
  pss_nil)
  (pss_one (ps_ret (pv 1)))), ?_⟩
    rw [show start ["_law_script", "_law_most", "_law_bound"] [V.ref a, V.int m, V.int b] = [some (V.ref a), some (V.int m), some (V.int b)] from rfl]
    simp only [a_var,a_c,a_op,a_un,a_rI,a_rI0,a_rU,a_rEq,a_rNe,s_ii,s_bb,s_ss,a_test,a_tB,a_and,a_or,a_not,a_andV,a_orV,a_notV,a_if,a_next,a_seq,a_brk,a_cont,a_drop,a_ret,a_retN,a_ifS,a_gName,a_gNil,a_gCons,a_gTup,a_gSub,a_asg,a_par,a_aug,a_ipI,a_nil,a_cons,a_tup,a_lst,a_dnew,a_call,a_cb,a_bm,a_bm0,a_noPart,a_part,a_sl,a_rSlL,a_rIxL,a_rIxT,a_rSetL,a_append,a_insert,a_rIn,a_din,a_dnotin,a_dput,a_for,a_iList,a_iTup,a_iRng1,a_iZip,a_rRep,a_rCat,cxK,List.getElem?_cons_zero,List.getElem?_cons_succ,List.set_cons_zero,List.set_cons_succ,Option.some.injEq,V.int.injEq,V.ref.injEq,V.bl.injEq,V.str.injEq,V.ty.injEq,List.cons.injEq,exists_eq_left',exists_eq_left,exists_and_left,and_assoc,and_true,true_and,List.append_nil,List.cons_append,List.nil_append,decide_eq_true_eq,decide_true,decide_false,eq_self,reduceIte,if_true,if_false,Bool.false_eq_true,Bool.not_true,Bool.not_false,Int.zero_add,reduceCtorEq,false_and,exists_false,false_or,or_false,a_slS,a_comp,a_emit,a_yes,a_iEnum,a_setd,a_sortK,a_dget1,a_dget2,a_disp,a_pairs0,a_pairs1,a_dget,a_augS,a_rGetL,a_raise,a_isE,a_countB]
    refine ⟨_, .inl hA, ?_⟩
    exact ite2 (fun e => absurd e (by omega)) (fun _ => k)
end
abbrev s_whole : Stmt := top 25
theorem sc_whole : FnScope ["_law_found"] ["_law_found"] (defScope s_whole) := ⟨rfl, rfl, rfl, by decide +kernel, rfl, by decide +kernel, by decide +kernel⟩
section
variable {P : Program} {w : World} {K : PySem.W.Frag} {mg : Str → Option Value} {base : Heap}
theorem ok_whole {f : Addr} {fd : FuncData} (F : Fun K "_law_whole" "_law_whole" s_whole f fd) (T : Txt K mg) {cF cN cW c1 : Addr} (CL : Cls K mg cF cN cW c1)  :
    FnOk P w K mg base CX0 1 f fd ["_law_found"] spWhole := by
  refine F.ok sc_whole (fun vs H Q E h => ?_) (fun cdv A outer s H vs Q E hr h => ?_)
  · obtain ⟨i, rfl, k⟩ := h
    rfl
  · obtain ⟨i, rfl, k⟩ := h
    have SC := sc_whole
    have hu := hu_of hr
    have hu0 := hr.units0
    refine ⟨_, (pss_one (ps_ret (pe_and (pe_callB call_isinst rfl T.z_isinstance PyProof.Rows.boot_isinstance (pa_cons (pv 0) (pa_cons (pe_bltn (v := .ty "int") rfl T.z_int PyProof.Rows.boot_int rfl) pa_nil))) (pe_one (pe_not (pe_callB call_isinst rfl T.z_isinstance PyProof.Rows.boot_isinstance (pa_cons (pv 0) (pa_cons (pe_bltn (v := .ty "bool") rfl T.z_bool PyProof.Rows.boot_bool rfl) pa_nil)))))))), ?_⟩
    rw [show start ["_law_found"] [V.int i] = [some (V.int i)] from rfl]
    simp only [a_var,a_c,a_op,a_un,a_rI,a_rI0,a_rU,a_rEq,a_rNe,s_ii,s_bb,s_ss,a_test,a_tB,a_and,a_or,a_not,a_andV,a_orV,a_notV,a_if,a_next,a_seq,a_brk,a_cont,a_drop,a_ret,a_retN,a_ifS,a_gName,a_gNil,a_gCons,a_gTup,a_gSub,a_asg,a_par,a_aug,a_ipI,a_nil,a_cons,a_tup,a_lst,a_dnew,a_call,a_cb,a_bm,a_bm0,a_noPart,a_part,a_sl,a_rSlL,a_rIxL,a_rIxT,a_rSetL,a_append,a_insert,a_rIn,a_din,a_dnotin,a_dput,a_for,a_iList,a_iTup,a_iRng1,a_iZip,a_rRep,a_rCat,cxK,List.getElem?_cons_zero,List.getElem?_cons_succ,List.set_cons_zero,List.set_cons_succ,Option.some.injEq,V.int.injEq,V.ref.injEq,V.bl.injEq,V.str.injEq,V.ty.injEq,List.cons.injEq,exists_eq_left',exists_eq_left,exists_and_left,and_assoc,and_true,true_and,List.append_nil,List.cons_append,List.nil_append,decide_eq_true_eq,decide_true,decide_false,eq_self,reduceIte,if_true,if_false,Bool.false_eq_true,Bool.not_true,Bool.not_false,Int.zero_add,reduceCtorEq,false_and,exists_false,false_or,or_false,a_slS,a_comp,a_emit,a_yes,a_iEnum,a_setd,a_sortK,a_dget1,a_dget2,a_disp,a_pairs0,a_pairs1,a_dget,a_augS,a_rGetL,a_raise,a_isE,a_countB]
    refine ⟨_, TyOf.int i, _, kit_self _ _, ?_⟩
    simp only [a_var,a_c,a_op,a_un,a_rI,a_rI0,a_rU,a_rEq,a_rNe,s_ii,s_bb,s_ss,a_test,a_tB,a_and,a_or,a_not,a_andV,a_orV,a_notV,a_if,a_next,a_seq,a_brk,a_cont,a_drop,a_ret,a_retN,a_ifS,a_gName,a_gNil,a_gCons,a_gTup,a_gSub,a_asg,a_par,a_aug,a_ipI,a_nil,a_cons,a_tup,a_lst,a_dnew,a_call,a_cb,a_bm,a_bm0,a_noPart,a_part,a_sl,a_rSlL,a_rIxL,a_rIxT,a_rSetL,a_append,a_insert,a_rIn,a_din,a_dnotin,a_dput,a_for,a_iList,a_iTup,a_iRng1,a_iZip,a_rRep,a_rCat,cxK,List.getElem?_cons_zero,List.getElem?_cons_succ,List.set_cons_zero,List.set_cons_succ,Option.some.injEq,V.int.injEq,V.ref.injEq,V.bl.injEq,V.str.injEq,V.ty.injEq,List.cons.injEq,exists_eq_left',exists_eq_left,exists_and_left,and_assoc,and_true,true_and,List.append_nil,List.cons_append,List.nil_append,decide_eq_true_eq,decide_true,decide_false,eq_self,reduceIte,if_true,if_false,Bool.false_eq_true,Bool.not_true,Bool.not_false,Int.zero_add,reduceCtorEq,false_and,exists_false,false_or,or_false,a_slS,a_comp,a_emit,a_yes,a_iEnum,a_setd,a_sortK,a_dget1,a_dget2,a_disp,a_pairs0,a_pairs1,a_dget,a_augS,a_rGetL,a_raise,a_isE,a_countB]
    refine ⟨_, TyOf.int i, _, kit_ib _, ?_⟩
    simp only [a_var,a_c,a_op,a_un,a_rI,a_rI0,a_rU,a_rEq,a_rNe,s_ii,s_bb,s_ss,a_test,a_tB,a_and,a_or,a_not,a_andV,a_orV,a_notV,a_if,a_next,a_seq,a_brk,a_cont,a_drop,a_ret,a_retN,a_ifS,a_gName,a_gNil,a_gCons,a_gTup,a_gSub,a_asg,a_par,a_aug,a_ipI,a_nil,a_cons,a_tup,a_lst,a_dnew,a_call,a_cb,a_bm,a_bm0,a_noPart,a_part,a_sl,a_rSlL,a_rIxL,a_rIxT,a_rSetL,a_append,a_insert,a_rIn,a_din,a_dnotin,a_dput,a_for,a_iList,a_iTup,a_iRng1,a_iZip,a_rRep,a_rCat,cxK,List.getElem?_cons_zero,List.getElem?_cons_succ,List.set_cons_zero,List.set_cons_succ,Option.some.injEq,V.int.injEq,V.ref.injEq,V.bl.injEq,V.str.injEq,V.ty.injEq,List.cons.injEq,exists_eq_left',exists_eq_left,exists_and_left,and_assoc,and_true,true_and,List.append_nil,List.cons_append,List.nil_append,decide_eq_true_eq,decide_true,decide_false,eq_self,reduceIte,if_true,if_false,Bool.false_eq_true,Bool.not_true,Bool.not_false,Int.zero_add,reduceCtorEq,false_and,exists_false,false_or,or_false,a_slS,a_comp,a_emit,a_yes,a_iEnum,a_setd,a_sortK,a_dget1,a_dget2,a_disp,a_pairs0,a_pairs1,a_dget,a_augS,a_rGetL,a_raise,a_isE,a_countB]
    exact k
end
abbrev s_at : Stmt := top 26
theorem sc_at : FnScope ["_law_script", "_law_k"] ["_law_script", "_law_k"] (defScope s_at) := ⟨rfl, rfl, rfl, by decide +kernel, rfl, by decide +kernel, by decide +kernel⟩
section
variable {P : Program} {w : World} {K : PySem.W.Frag} {mg : Str → Option Value} {base : Heap}
theorem ok_at {f : Addr} {fd : FuncData} (F : Fun K "_law_at" "_law_at" s_at f fd) (T : Txt K mg) {cF cN cW c1 : Addr} (CL : Cls K mg cF cN cW c1)  :
    FnOk P w K mg base CX0 1 f fd ["_law_script", "_law_k"] (spAt K) := by
  refine F.ok sc_at (fun vs H Q E h => ?_) (fun cdv A outer s H vs Q E hr h => ?_)
  · obtain ⟨a, ns, i, rfl, hS, h0, k⟩ := h
    rfl
  · obtain ⟨a, ns, i, rfl, hS, h0, k⟩ := h
    have SC := sc_at
    have hu := hu_of hr
    have hu0 := hr.units0
    refine ⟨_, (pss_cons (ps_if (pt_cmpR op_lt (pv 1) (pe_callB call_len_seq rfl T.z_len PySem.boot_len (pa_cons (pv 0) pa_nil)) (nomark _))
  (pss_one (ps_ret (pe_ix ix_list (pv 0) (pv 1) (fun _ _ => rfl))))
  pss_nil)
  (pss_one (ps_ret pe_int))), ?_⟩
    rw [show start ["_law_script", "_law_k"] [V.ref a, V.int i] = [some (V.ref a), some (V.int i)] from rfl]
    simp only [a_var,a_c,a_op,a_un,a_rI,a_rI0,a_rU,a_rEq,a_rNe,s_ii,s_bb,s_ss,a_test,a_tB,a_and,a_or,a_not,a_andV,a_orV,a_notV,a_if,a_next,a_seq,a_brk,a_cont,a_drop,a_ret,a_retN,a_ifS,a_gName,a_gNil,a_gCons,a_gTup,a_gSub,a_asg,a_par,a_aug,a_ipI,a_nil,a_cons,a_tup,a_lst,a_dnew,a_call,a_cb,a_bm,a_bm0,a_noPart,a_part,a_sl,a_rSlL,a_rIxL,a_rIxT,a_rSetL,a_append,a_insert,a_rIn,a_din,a_dnotin,a_dput,a_for,a_iList,a_iTup,a_iRng1,a_iZip,a_rRep,a_rCat,cxK,List.getElem?_cons_zero,List.getElem?_cons_succ,List.set_cons_zero,List.set_cons_succ,Option.some.injEq,V.int.injEq,V.ref.injEq,V.bl.injEq,V.str.injEq,V.ty.injEq,List.cons.injEq,exists_eq_left',exists_eq_left,exists_and_left,and_assoc,and_true,true_and,List.append_nil,List.cons_append,List.nil_append,decide_eq_true_eq,decide_true,decide_false,eq_self,reduceIte,if_true,if_false,Bool.false_eq_true,Bool.not_true,Bool.not_false,Int.zero_add,reduceCtorEq,false_and,exists_false,false_or,or_false,a_slS,a_comp,a_emit,a_yes,a_iEnum,a_setd,a_sortK,a_dget1,a_dget2,a_disp,a_pairs0,a_pairs1,a_dget,a_augS,a_rGetL,a_raise,a_isE,a_countB]
    refine ⟨ns.map V.int, .inl hS, ?_⟩
    rw [List.length_map]
    refine ite2 (fun hlt => ?_) (fun hge => ?_)
    · have hlt' : i.toNat < ns.length := by omega
      refine ⟨_, hS, _, ?_, k⟩
      have e := atMapInt hlt'
      rw [show ((i.toNat : Nat) : Int) = i by omega] at e
      exact e
    · have e : ns.getD i.toNat 0 = 0 := by
        rw [List.getD_eq_getElem?_getD, List.getElem?_eq_none_iff.mpr (by omega)]
        rfl
      rw [e] at k
      exact k
end
def IvRows (a b : Addr) (H : Hp) (_ : Nat) (σ : St) (H' : Hp) : Prop := ∃ v1 v2, σ = [some (.ref a), some (.ref b), v1, v2] ∧ H' = H
def IvRow (a b : Addr) (k : Int) (H : Hp) (_ : Nat) (σ : St) (H' : Hp) : Prop := ∃ v2, σ = [some (.ref a), some (.ref b), some (.int k), v2] ∧ H' = H
theorem int3 {x y z : Int} {j : Nat} {v : V} (h : [V.int x, V.int y, V.int z][j]? = some v) : ∃ m, v = V.int m := by
  match j, h with
  | 0, h => exact ⟨x, (Option.some.inj h).symm⟩
  | 1, h => exact ⟨y, (Option.some.inj h).symm⟩
  | 2, h => exact ⟨z, (Option.some.inj h).symm⟩
abbrev s_rows : Stmt := top 27
theorem sc_rows : FnScope ["_law_found", "_law_due", "_law_k", "_law_part"] ["_law_found", "_law_due"] (defScope s_rows) := ⟨rfl, rfl, rfl, by decide +kernel, rfl, by decide +kernel, by decide +kernel⟩
section
variable {P : Program} {w : World} {K : PySem.W.Frag} {mg : Str → Option Value} {base : Heap}
theorem ok_rows {f : Addr} {fd : FuncData} (F : Fun K "_law_rows" "_law_rows" s_rows f fd) (T : Txt K mg) {cF cN cW c1 : Addr} (CL : Cls K mg cF cN cW c1) {f_whole : Addr} {fd_whole : FuncData} (F__law_whole : FOk P w K mg base "_law_whole" 1 ["_law_found"] spWhole f_whole fd_whole) :
    FnOk P w K mg base CX0 2 f fd ["_law_found", "_law_due"] spRows := by
  refine F.ok sc_rows (fun vs H Q E h => ?_) (fun cdv A outer s H vs Q E hr h => ?_)
  · obtain ⟨a, b, ps, rows, rfl, hA, hB, hz, hP, k⟩ := h
    rfl
  · obtain ⟨a, b, ps, rows, rfl, hA, hB, hz, hP, k⟩ := h
    have SC := sc_rows
    have hu := hu_of hr
    have hu0 := hr.units0
    refine ⟨_, (pss_cons (ps_if (PW.pt (pw_or (pt_not (pt_val (pe_callB call_isinst rfl T.z_isinstance PyProof.Rows.boot_isinstance (pa_cons (pv 0) (pa_cons (pe_bltn (v := .ty "list") rfl T.z_list PyProof.Rows.boot_list rfl) pa_nil))))) (pw_or1 (pt_cmpR op_ne (pe_callB call_len_seq rfl T.z_len PySem.boot_len (pa_cons (pv 0) pa_nil)) (pe_callB call_len_seq rfl T.z_len PySem.boot_len (pa_cons (pv 1) pa_nil)) (nomark _)))))
  (pss_one (ps_ret pe_bl))
  pss_nil)
  (pss_cons (ps_for PassesOwn.never rfl (pi_range1 rfl T.z_range (pa_cons (pe_callB call_len_seq rfl T.z_len PySem.boot_len (pa_cons (pv 1) pa_nil)) pa_nil)) (pg_name (i := 2) SC.nd rfl (Or.inl rfl))
  (pss_cons (ps_if (PW.pt (pw_or (pt_not (pt_val (pe_callB call_isinst rfl T.z_isinstance PyProof.Rows.boot_isinstance (pa_cons (pe_ix ix_list (pv 0) (pv 2) (fun _ _ => rfl)) (pa_cons (pe_bltn (v := .ty "tuple") rfl T.z_tuple PyProof.Rows.boot_tuple rfl) pa_nil))))) (pw_or1 (pt_cmpR op_ne (pe_callB call_len_seq rfl T.z_len PySem.boot_len (pa_cons (pe_ix ix_list (pv 0) (pv 2) (fun _ _ => rfl)) pa_nil)) pe_int (nomark _)))))
  (pss_one (ps_ret pe_bl))
  pss_nil)
  (pss_cons (ps_for PassesOwn.never rfl (pi_tup (pe_ix ix_list (pv 0) (pv 2) (fun _ _ => rfl))) (pg_name (i := 3) SC.nd rfl (Or.inl rfl))
  (pss_one (ps_if (pt_not (pt_val (pe_call F__law_whole.G (hr.mono (by decide)) rfl F__law_whole.m F__law_whole.kp F__law_whole.b .nil pass0 (pa_cons (pv 3) pa_nil))))
  (pss_one (ps_ret pe_bl))
  pss_nil)))
  (pss_one (ps_if (pt_cmpR (op_ne_tup hu0) (pe_ix ix_list (pv 0) (pv 2) (fun _ _ => rfl)) (pe_ix ix_list (pv 1) (pv 2) (fun _ _ => rfl)) (nomark _))
  (pss_one (ps_ret pe_bl))
  pss_nil)))))
  (pss_one (ps_ret pe_bl)))), ?_⟩
    rw [show start ["_law_found", "_law_due", "_law_k", "_law_part"] [V.ref a, V.ref b] = [some (V.ref a), some (V.ref b), none, none] from rfl]
    simp only [a_var,a_c,a_op,a_un,a_rI,a_rI0,a_rU,a_rEq,a_rNe,s_ii,s_bb,s_ss,a_test,a_tB,a_and,a_or,a_not,a_andV,a_orV,a_notV,a_if,a_next,a_seq,a_brk,a_cont,a_drop,a_ret,a_retN,a_ifS,a_gName,a_gNil,a_gCons,a_gTup,a_gSub,a_asg,a_par,a_aug,a_ipI,a_nil,a_cons,a_tup,a_lst,a_dnew,a_call,a_cb,a_bm,a_bm0,a_noPart,a_part,a_sl,a_rSlL,a_rIxL,a_rIxT,a_rSetL,a_append,a_insert,a_rIn,a_din,a_dnotin,a_dput,a_for,a_iList,a_iTup,a_iRng1,a_iZip,a_rRep,a_rCat,cxK,List.getElem?_cons_zero,List.getElem?_cons_succ,List.set_cons_zero,List.set_cons_succ,Option.some.injEq,V.int.injEq,V.ref.injEq,V.bl.injEq,V.str.injEq,V.ty.injEq,List.cons.injEq,exists_eq_left',exists_eq_left,exists_and_left,and_assoc,and_true,true_and,List.append_nil,List.cons_append,List.nil_append,decide_eq_true_eq,decide_true,decide_false,eq_self,reduceIte,if_true,if_false,Bool.false_eq_true,Bool.not_true,Bool.not_false,Int.zero_add,reduceCtorEq,false_and,exists_false,false_or,or_false,a_slS,a_comp,a_emit,a_yes,a_iEnum,a_setd,a_sortK,a_dget1,a_dget2,a_disp,a_pairs0,a_pairs1,a_dget,a_augS,a_rGetL,a_raise,a_isE,a_countB]
    refine ⟨_, TyOf.lst hA, _, kit_self _ _, ?_⟩
    simp only [a_var,a_c,a_op,a_un,a_rI,a_rI0,a_rU,a_rEq,a_rNe,s_ii,s_bb,s_ss,a_test,a_tB,a_and,a_or,a_not,a_andV,a_orV,a_notV,a_if,a_next,a_seq,a_brk,a_cont,a_drop,a_ret,a_retN,a_ifS,a_gName,a_gNil,a_gCons,a_gTup,a_gSub,a_asg,a_par,a_aug,a_ipI,a_nil,a_cons,a_tup,a_lst,a_dnew,a_call,a_cb,a_bm,a_bm0,a_noPart,a_part,a_sl,a_rSlL,a_rIxL,a_rIxT,a_rSetL,a_append,a_insert,a_rIn,a_din,a_dnotin,a_dput,a_for,a_iList,a_iTup,a_iRng1,a_iZip,a_rRep,a_rCat,cxK,List.getElem?_cons_zero,List.getElem?_cons_succ,List.set_cons_zero,List.set_cons_succ,Option.some.injEq,V.int.injEq,V.ref.injEq,V.bl.injEq,V.str.injEq,V.ty.injEq,List.cons.injEq,exists_eq_left',exists_eq_left,exists_and_left,and_assoc,and_true,true_and,List.append_nil,List.cons_append,List.nil_append,decide_eq_true_eq,decide_true,decide_false,eq_self,reduceIte,if_true,if_false,Bool.false_eq_true,Bool.not_true,Bool.not_false,Int.zero_add,reduceCtorEq,false_and,exists_false,false_or,or_false,a_slS,a_comp,a_emit,a_yes,a_iEnum,a_setd,a_sortK,a_dget1,a_dget2,a_disp,a_pairs0,a_pairs1,a_dget,a_augS,a_rGetL,a_raise,a_isE,a_countB]
    refine ⟨_, .inl (SqL.of hA), _, .inl (SqL.of hB), ?_⟩
    refine iteNS rfl ?_
    refine ⟨_, .inl (SqL.of hB), rng_lo, ?_, ?_⟩
    · rw [List.length_map]; exact rng_hi hz
    refine ForOk.range (IvRows a b H) ⟨_, _, rfl, rfl⟩ ?_ ?_
    · rintro i σ H' hi ⟨v1, v2, rfl, rfl⟩
      have hi' : i < ps.length := by rw [List.length_map] at hi; omega
      obtain ⟨p, hp⟩ : ∃ p, ps[i]? = some p := ⟨ps[i], List.getElem?_eq_getElem hi'⟩
      obtain ⟨r, hr', h3⟩ := pairedAt hP hp
      simp only [a_var,a_c,a_op,a_un,a_rI,a_rI0,a_rU,a_rEq,a_rNe,s_ii,s_bb,s_ss,a_test,a_tB,a_and,a_or,a_not,a_andV,a_orV,a_notV,a_if,a_next,a_seq,a_brk,a_cont,a_drop,a_ret,a_retN,a_ifS,a_gName,a_gNil,a_gCons,a_gTup,a_gSub,a_asg,a_par,a_aug,a_ipI,a_nil,a_cons,a_tup,a_lst,a_dnew,a_call,a_cb,a_bm,a_bm0,a_noPart,a_part,a_sl,a_rSlL,a_rIxL,a_rIxT,a_rSetL,a_append,a_insert,a_rIn,a_din,a_dnotin,a_dput,a_for,a_iList,a_iTup,a_iRng1,a_iZip,a_rRep,a_rCat,cxK,List.getElem?_cons_zero,List.getElem?_cons_succ,List.set_cons_zero,List.set_cons_succ,Option.some.injEq,V.int.injEq,V.ref.injEq,V.bl.injEq,V.str.injEq,V.ty.injEq,List.cons.injEq,exists_eq_left',exists_eq_left,exists_and_left,and_assoc,and_true,true_and,List.append_nil,List.cons_append,List.nil_append,decide_eq_true_eq,decide_true,decide_false,eq_self,reduceIte,if_true,if_false,Bool.false_eq_true,Bool.not_true,Bool.not_false,Int.zero_add,reduceCtorEq,false_and,exists_false,false_or,or_false,a_slS,a_comp,a_emit,a_yes,a_iEnum,a_setd,a_sortK,a_dget1,a_dget2,a_disp,a_pairs0,a_pairs1,a_dget,a_augS,a_rGetL,a_raise,a_isE,a_countB]
      refine ⟨_, SqL.of hA, _, atMapRef hp, _, TyOf.tup h3, _, kit_self _ _, ?_⟩
      simp only [a_var,a_c,a_op,a_un,a_rI,a_rI0,a_rU,a_rEq,a_rNe,s_ii,s_bb,s_ss,a_test,a_tB,a_and,a_or,a_not,a_andV,a_orV,a_notV,a_if,a_next,a_seq,a_brk,a_cont,a_drop,a_ret,a_retN,a_ifS,a_gName,a_gNil,a_gCons,a_gTup,a_gSub,a_asg,a_par,a_aug,a_ipI,a_nil,a_cons,a_tup,a_lst,a_dnew,a_call,a_cb,a_bm,a_bm0,a_noPart,a_part,a_sl,a_rSlL,a_rIxL,a_rIxT,a_rSetL,a_append,a_insert,a_rIn,a_din,a_dnotin,a_dput,a_for,a_iList,a_iTup,a_iRng1,a_iZip,a_rRep,a_rCat,cxK,List.getElem?_cons_zero,List.getElem?_cons_succ,List.set_cons_zero,List.set_cons_succ,Option.some.injEq,V.int.injEq,V.ref.injEq,V.bl.injEq,V.str.injEq,V.ty.injEq,List.cons.injEq,exists_eq_left',exists_eq_left,exists_and_left,and_assoc,and_true,true_and,List.append_nil,List.cons_append,List.nil_append,decide_eq_true_eq,decide_true,decide_false,eq_self,reduceIte,if_true,if_false,Bool.false_eq_true,Bool.not_true,Bool.not_false,Int.zero_add,reduceCtorEq,false_and,exists_false,false_or,or_false,a_slS,a_comp,a_emit,a_yes,a_iEnum,a_setd,a_sortK,a_dget1,a_dget2,a_disp,a_pairs0,a_pairs1,a_dget,a_augS,a_rGetL,a_raise,a_isE,a_countB]
      refine ⟨_, SqL.of hA, _, atMapRef hp, ?_⟩
      simp only [a_var,a_c,a_op,a_un,a_rI,a_rI0,a_rU,a_rEq,a_rNe,s_ii,s_bb,s_ss,a_test,a_tB,a_and,a_or,a_not,a_andV,a_orV,a_notV,a_if,a_next,a_seq,a_brk,a_cont,a_drop,a_ret,a_retN,a_ifS,a_gName,a_gNil,a_gCons,a_gTup,a_gSub,a_asg,a_par,a_aug,a_ipI,a_nil,a_cons,a_tup,a_lst,a_dnew,a_call,a_cb,a_bm,a_bm0,a_noPart,a_part,a_sl,a_rSlL,a_rIxL,a_rIxT,a_rSetL,a_append,a_insert,a_rIn,a_din,a_dnotin,a_dput,a_for,a_iList,a_iTup,a_iRng1,a_iZip,a_rRep,a_rCat,cxK,List.getElem?_cons_zero,List.getElem?_cons_succ,List.set_cons_zero,List.set_cons_succ,Option.some.injEq,V.int.injEq,V.ref.injEq,V.bl.injEq,V.str.injEq,V.ty.injEq,List.cons.injEq,exists_eq_left',exists_eq_left,exists_and_left,and_assoc,and_true,true_and,List.append_nil,List.cons_append,List.nil_append,decide_eq_true_eq,decide_true,decide_false,eq_self,reduceIte,if_true,if_false,Bool.false_eq_true,Bool.not_true,Bool.not_false,Int.zero_add,reduceCtorEq,false_and,exists_false,false_or,or_false,a_slS,a_comp,a_emit,a_yes,a_iEnum,a_setd,a_sortK,a_dget1,a_dget2,a_disp,a_pairs0,a_pairs1,a_dget,a_augS,a_rGetL,a_raise,a_isE,a_countB]
      refine ⟨_, .inr (SqT.of h3), ?_⟩
      refine iteNS rfl ?_
      refine ⟨_, SqL.of hA, _, atMapRef hp, ?_⟩
      simp only [a_var,a_c,a_op,a_un,a_rI,a_rI0,a_rU,a_rEq,a_rNe,s_ii,s_bb,s_ss,a_test,a_tB,a_and,a_or,a_not,a_andV,a_orV,a_notV,a_if,a_next,a_seq,a_brk,a_cont,a_drop,a_ret,a_retN,a_ifS,a_gName,a_gNil,a_gCons,a_gTup,a_gSub,a_asg,a_par,a_aug,a_ipI,a_nil,a_cons,a_tup,a_lst,a_dnew,a_call,a_cb,a_bm,a_bm0,a_noPart,a_part,a_sl,a_rSlL,a_rIxL,a_rIxT,a_rSetL,a_append,a_insert,a_rIn,a_din,a_dnotin,a_dput,a_for,a_iList,a_iTup,a_iRng1,a_iZip,a_rRep,a_rCat,cxK,List.getElem?_cons_zero,List.getElem?_cons_succ,List.set_cons_zero,List.set_cons_succ,Option.some.injEq,V.int.injEq,V.ref.injEq,V.bl.injEq,V.str.injEq,V.ty.injEq,List.cons.injEq,exists_eq_left',exists_eq_left,exists_and_left,and_assoc,and_true,true_and,List.append_nil,List.cons_append,List.nil_append,decide_eq_true_eq,decide_true,decide_false,eq_self,reduceIte,if_true,if_false,Bool.false_eq_true,Bool.not_true,Bool.not_false,Int.zero_add,reduceCtorEq,false_and,exists_false,false_or,or_false,a_slS,a_comp,a_emit,a_yes,a_iEnum,a_setd,a_sortK,a_dget1,a_dget2,a_disp,a_pairs0,a_pairs1,a_dget,a_augS,a_rGetL,a_raise,a_isE,a_countB]
      refine ⟨⟨_, SqT.of h3⟩, ForOk.tup (xs := [.int r.1, .int r.2.1, .int r.2.2]) (IvRow a b i H') ⟨_, rfl, rfl⟩ (fun _ _ _ _ ⟨_, _, e⟩ => e ▸ SqT.of h3) ?_ ?_⟩
      · rintro j x σ H2 hx ⟨v, rfl, rfl⟩
        obtain ⟨m, rfl⟩ := int3 hx
        simp only [a_var,a_c,a_op,a_un,a_rI,a_rI0,a_rU,a_rEq,a_rNe,s_ii,s_bb,s_ss,a_test,a_tB,a_and,a_or,a_not,a_andV,a_orV,a_notV,a_if,a_next,a_seq,a_brk,a_cont,a_drop,a_ret,a_retN,a_ifS,a_gName,a_gNil,a_gCons,a_gTup,a_gSub,a_asg,a_par,a_aug,a_ipI,a_nil,a_cons,a_tup,a_lst,a_dnew,a_call,a_cb,a_bm,a_bm0,a_noPart,a_part,a_sl,a_rSlL,a_rIxL,a_rIxT,a_rSetL,a_append,a_insert,a_rIn,a_din,a_dnotin,a_dput,a_for,a_iList,a_iTup,a_iRng1,a_iZip,a_rRep,a_rCat,cxK,List.getElem?_cons_zero,List.getElem?_cons_succ,List.set_cons_zero,List.set_cons_succ,Option.some.injEq,V.int.injEq,V.ref.injEq,V.bl.injEq,V.str.injEq,V.ty.injEq,List.cons.injEq,exists_eq_left',exists_eq_left,exists_and_left,and_assoc,and_true,true_and,List.append_nil,List.cons_append,List.nil_append,decide_eq_true_eq,decide_true,decide_false,eq_self,reduceIte,if_true,if_false,Bool.false_eq_true,Bool.not_true,Bool.not_false,Int.zero_add,reduceCtorEq,false_and,exists_false,false_or,or_false,a_slS,a_comp,a_emit,a_yes,a_iEnum,a_setd,a_sortK,a_dget1,a_dget2,a_disp,a_pairs0,a_pairs1,a_dget,a_augS,a_rGetL,a_raise,a_isE,a_countB,spWhole]
        exact ⟨_, rfl, rfl⟩
      · rintro σ H2 ⟨v, rfl, rfl⟩
        simp only [a_var,a_c,a_op,a_un,a_rI,a_rI0,a_rU,a_rEq,a_rNe,s_ii,s_bb,s_ss,a_test,a_tB,a_and,a_or,a_not,a_andV,a_orV,a_notV,a_if,a_next,a_seq,a_brk,a_cont,a_drop,a_ret,a_retN,a_ifS,a_gName,a_gNil,a_gCons,a_gTup,a_gSub,a_asg,a_par,a_aug,a_ipI,a_nil,a_cons,a_tup,a_lst,a_dnew,a_call,a_cb,a_bm,a_bm0,a_noPart,a_part,a_sl,a_rSlL,a_rIxL,a_rIxT,a_rSetL,a_append,a_insert,a_rIn,a_din,a_dnotin,a_dput,a_for,a_iList,a_iTup,a_iRng1,a_iZip,a_rRep,a_rCat,cxK,List.getElem?_cons_zero,List.getElem?_cons_succ,List.set_cons_zero,List.set_cons_succ,Option.some.injEq,V.int.injEq,V.ref.injEq,V.bl.injEq,V.str.injEq,V.ty.injEq,List.cons.injEq,exists_eq_left',exists_eq_left,exists_and_left,and_assoc,and_true,true_and,List.append_nil,List.cons_append,List.nil_append,decide_eq_true_eq,decide_true,decide_false,eq_self,reduceIte,if_true,if_false,Bool.false_eq_true,Bool.not_true,Bool.not_false,Int.zero_add,reduceCtorEq,false_and,exists_false,false_or,or_false,a_slS,a_comp,a_emit,a_yes,a_iEnum,a_setd,a_sortK,a_dget1,a_dget2,a_disp,a_pairs0,a_pairs1,a_dget,a_augS,a_rGetL,a_raise,a_isE,a_countB]
        refine ⟨_, SqL.of hA, _, atMapRef hp, _, SqL.of hB, _, atMapRef hp, ?_⟩
        simp only [a_var,a_c,a_op,a_un,a_rI,a_rI0,a_rU,a_rEq,a_rNe,s_ii,s_bb,s_ss,a_test,a_tB,a_and,a_or,a_not,a_andV,a_orV,a_notV,a_if,a_next,a_seq,a_brk,a_cont,a_drop,a_ret,a_retN,a_ifS,a_gName,a_gNil,a_gCons,a_gTup,a_gSub,a_asg,a_par,a_aug,a_ipI,a_nil,a_cons,a_tup,a_lst,a_dnew,a_call,a_cb,a_bm,a_bm0,a_noPart,a_part,a_sl,a_rSlL,a_rIxL,a_rIxT,a_rSetL,a_append,a_insert,a_rIn,a_din,a_dnotin,a_dput,a_for,a_iList,a_iTup,a_iRng1,a_iZip,a_rRep,a_rCat,cxK,List.getElem?_cons_zero,List.getElem?_cons_succ,List.set_cons_zero,List.set_cons_succ,Option.some.injEq,V.int.injEq,V.ref.injEq,V.bl.injEq,V.str.injEq,V.ty.injEq,List.cons.injEq,exists_eq_left',exists_eq_left,exists_and_left,and_assoc,and_true,true_and,List.append_nil,List.cons_append,List.nil_append,decide_eq_true_eq,decide_true,decide_false,eq_self,reduceIte,if_true,if_false,Bool.false_eq_true,Bool.not_true,Bool.not_false,Int.zero_add,reduceCtorEq,false_and,exists_false,false_or,or_false,a_slS,a_comp,a_emit,a_yes,a_iEnum,a_setd,a_sortK,a_dget1,a_dget2,a_disp,a_pairs0,a_pairs1,a_dget,a_augS,a_rGetL,a_raise,a_isE,a_countB]
        refine ⟨[r.1, r.2.1, r.2.2], SqT.of h3, [r.1, r.2.1, r.2.2], SqT.of h3, ?_⟩
        refine iteNS rfl ?_
        exact ⟨_, _, rfl, rfl⟩
    · rintro σ H' ⟨v1, v2, rfl, rfl⟩
      simp only [a_var,a_c,a_op,a_un,a_rI,a_rI0,a_rU,a_rEq,a_rNe,s_ii,s_bb,s_ss,a_test,a_tB,a_and,a_or,a_not,a_andV,a_orV,a_notV,a_if,a_next,a_seq,a_brk,a_cont,a_drop,a_ret,a_retN,a_ifS,a_gName,a_gNil,a_gCons,a_gTup,a_gSub,a_asg,a_par,a_aug,a_ipI,a_nil,a_cons,a_tup,a_lst,a_dnew,a_call,a_cb,a_bm,a_bm0,a_noPart,a_part,a_sl,a_rSlL,a_rIxL,a_rIxT,a_rSetL,a_append,a_insert,a_rIn,a_din,a_dnotin,a_dput,a_for,a_iList,a_iTup,a_iRng1,a_iZip,a_rRep,a_rCat,cxK,List.getElem?_cons_zero,List.getElem?_cons_succ,List.set_cons_zero,List.set_cons_succ,Option.some.injEq,V.int.injEq,V.ref.injEq,V.bl.injEq,V.str.injEq,V.ty.injEq,List.cons.injEq,exists_eq_left',exists_eq_left,exists_and_left,and_assoc,and_true,true_and,List.append_nil,List.cons_append,List.nil_append,decide_eq_true_eq,decide_true,decide_false,eq_self,reduceIte,if_true,if_false,Bool.false_eq_true,Bool.not_true,Bool.not_false,Int.zero_add,reduceCtorEq,false_and,exists_false,false_or,or_false,a_slS,a_comp,a_emit,a_yes,a_iEnum,a_setd,a_sortK,a_dget1,a_dget2,a_disp,a_pairs0,a_pairs1,a_dget,a_augS,a_rGetL,a_raise,a_isE,a_countB]
      exact k
end
def IvSteps (a b d : Addr) (rows : List Pipe) (flows : List Int) (H : Hp) (i : Nat) (σ : St) (Hi : Hp) : Prop :=
  ∃ v3 v4 kvs, σ = [some (.ref a), some (.ref b), some (.ref d), v3, v4] ∧ Tab H Hi d kvs (fun x => stp rows flows x i) ∧ kvs.length ≤ 2 * i
abbrev s_steps_by_station : Stmt := top 15
theorem sc_steps_by_station : FnScope ["pipes", "plan", "steps", "number", "pipe"] ["pipes", "plan"] (defScope s_steps_by_station) := ⟨rfl, rfl, rfl, by decide +kernel, rfl, by decide +kernel, by decide +kernel⟩
section
variable {P : Program} {w : World} {K : PySem.W.Frag} {mg : Str → Option Value} {base : Heap}
theorem ok_steps_by_station {f : Addr} {fd : FuncData} (F : Fun K "steps_by_station" "steps_by_station" s_steps_by_station f fd) (T : Txt K mg) {cF cN cW c1 : Addr} (CL : Cls K mg cF cN cW c1)  :
    FnOk P w K mg base CX0 1 f fd ["pipes", "plan"] (spSteps K) := by
  refine F.ok sc_steps_by_station (fun vs H Q E h => ?_) (fun cdv A outer s H vs Q E hr h => ?_)
  · obtain ⟨a, b, ps, rows, flows, rfl, hA, hB, hP, hl, hz, k⟩ := h
    rfl
  · obtain ⟨a, b, ps, rows, flows, rfl, hA, hB, hP, hl, hz, k⟩ := h
    have SC := sc_steps_by_station
    have hu := hu_of hr
    have hu0 := hr.units0
    obtain ⟨t_AGAINST, c_AGAINST⟩ := T.c_AGAINST
    obtain ⟨t_ALONG, c_ALONG⟩ := T.c_ALONG
    obtain ⟨t_GOAL, c_GOAL⟩ := T.c_GOAL
    obtain ⟨t_START, c_START⟩ := T.c_START
    obtain ⟨t_WIDTH, c_WIDTH⟩ := T.c_WIDTH
    refine ⟨_, (pss_cons (ps_set (i := 2) SC.nd rfl (Or.inl rfl) pe_dnewK)
  (pss_cons (ps_for PassesOwn.never rfl (pi_enum rfl T.z_enumerate (pa_cons (pv 0) pa_nil)) (pg_tup rfl (pgs_cons (pg_name (i := 3) SC.nd rfl (Or.inl rfl)) (pgs_cons (pg_name (i := 4) SC.nd rfl (Or.inl rfl)) pgs_nil)))
  (pss_cons (ps_if (pt_cmpR op_lt (pe_ix ix_list (pv 1) (pv 3) (fun _ _ => rfl)) (pe_ix ix_tup (pv 4) (pe_glob (v := .int 2) rfl c_WIDTH ⟨_, rfl⟩) (fun _ _ => rfl)) (nomark _))
  (pss_one (ps_expr (pe_bm PySem.F.plainAttrs_list PySem.F.slot_list_append PySem.F.type_list_append mt_append (pe_bm PySem.F.plainAttrs_dict PySem.F.slot_dict_setdefault PySem.F.type_dict_setdefault mt_setd (pv 2) (pa_cons (pe_ix ix_tup (pv 4) (pe_glob (v := .int 0) rfl c_START ⟨_, rfl⟩) (fun _ _ => rfl)) (pa_cons (pe_lst pa_nil) pa_nil))) (pa_cons (pe_tup (pa_cons (pe_tup (pa_cons (pv 3) (pa_cons (pe_glob (v := .str "along") rfl c_ALONG ⟨_, rfl⟩) pa_nil))) (pa_cons (pe_ix ix_tup (pv 4) (pe_glob (v := .int 1) rfl c_GOAL ⟨_, rfl⟩) (fun _ _ => rfl)) pa_nil))) pa_nil))))
  pss_nil)
  (pss_one (ps_if (pt_cmpR op_gt (pe_ix ix_list (pv 1) (pv 3) (fun _ _ => rfl)) pe_int (nomark _))
  (pss_one (ps_expr (pe_bm PySem.F.plainAttrs_list PySem.F.slot_list_append PySem.F.type_list_append mt_append (pe_bm PySem.F.plainAttrs_dict PySem.F.slot_dict_setdefault PySem.F.type_dict_setdefault mt_setd (pv 2) (pa_cons (pe_ix ix_tup (pv 4) (pe_glob (v := .int 1) rfl c_GOAL ⟨_, rfl⟩) (fun _ _ => rfl)) (pa_cons (pe_lst pa_nil) pa_nil))) (pa_cons (pe_tup (pa_cons (pe_tup (pa_cons (pv 3) (pa_cons (pe_glob (v := .str "against") rfl c_AGAINST ⟨_, rfl⟩) pa_nil))) (pa_cons (pe_ix ix_tup (pv 4) (pe_glob (v := .int 0) rfl c_START ⟨_, rfl⟩) (fun _ _ => rfl)) pa_nil))) pa_nil))))
  pss_nil))))
  (pss_one (ps_ret (pv 2))))), ?_⟩
    rw [show start ["pipes", "plan", "steps", "number", "pipe"] [V.ref a, V.ref b] = [some (V.ref a), some (V.ref b), none, none, none] from rfl]
    refine seq_step fun N hN => ?_
    simp only [a_var,a_c,a_op,a_un,a_rI,a_rI0,a_rU,a_rEq,a_rNe,s_ii,s_bb,s_ss,a_test,a_tB,a_and,a_or,a_not,a_andV,a_orV,a_notV,a_if,a_next,a_seq,a_brk,a_cont,a_drop,a_ret,a_retN,a_ifS,a_gName,a_gNil,a_gCons,a_gTup,a_gSub,a_asg,a_par,a_aug,a_ipI,a_nil,a_cons,a_tup,a_lst,a_dnew,a_call,a_cb,a_bm,a_bm0,a_noPart,a_part,a_sl,a_rSlL,a_rIxL,a_rIxT,a_rSetL,a_append,a_insert,a_rIn,a_din,a_dnotin,a_dput,a_for,a_iList,a_iTup,a_iRng1,a_iZip,a_rRep,a_rCat,cxK,List.getElem?_cons_zero,List.getElem?_cons_succ,List.set_cons_zero,List.set_cons_succ,Option.some.injEq,V.int.injEq,V.ref.injEq,V.bl.injEq,V.str.injEq,V.ty.injEq,List.cons.injEq,exists_eq_left',exists_eq_left,exists_and_left,and_assoc,and_true,true_and,List.append_nil,List.cons_append,List.nil_append,decide_eq_true_eq,decide_true,decide_false,eq_self,reduceIte,if_true,if_false,Bool.false_eq_true,Bool.not_true,Bool.not_false,Int.zero_add,reduceCtorEq,false_and,exists_false,false_or,or_false,a_slS,a_comp,a_emit,a_yes,a_iEnum,a_setd,a_sortK,a_dget1,a_dget2,a_disp,a_pairs0,a_pairs1,a_dget,a_augS,a_rGetL,a_raise,a_isE,a_countB]
    intro d hd
    refine hN _ _ ?_
    clear hN N
    have T0 : Tab H (upd H d (.dK [])) d [] (fun x => stp rows flows x 0) := ⟨same_upd (Same.refl H) hd, upd_same, hd, fun x => .inl ⟨rfl, rfl⟩, (fun x y l h => nomatch h), (fun x l h => nomatch h)⟩
    refine seq_step fun N hN => ?_
    simp only [a_for, a_iEnum, a_cons, a_nil, a_var, cxK, List.getElem?_cons_zero, List.getElem?_cons_succ, Option.some.injEq, V.ref.injEq, List.cons.injEq, exists_eq_left', exists_eq_left, exists_and_left, and_assoc, and_true, true_and, eq_self]
    refine ⟨_, T0.same.seq hA, ?_⟩
    refine ForOk.enum (xs := ps.map V.ref) (IvSteps a b d rows flows H) ⟨_, _, [], rfl, T0, Nat.zero_le _⟩ (fun i σ Hi _ ⟨_, _, _, _, T, _⟩ => T.same.seq hA) ?_ ?_
    · rintro i x p σ Hi hx hp ⟨v3, v4, kvs, rfl, T, hk⟩
      have hi : i < ps.length := by
        have q := (List.getElem?_eq_some_iff.mp hx).1
        rw [List.length_map] at q; exact q
      obtain ⟨q, hq⟩ : ∃ q, ps[i]? = some q := ⟨ps[i], List.getElem?_eq_getElem hi⟩
      rw [List.getElem?_map, hq] at hx
      cases hx
      obtain ⟨r, hr', h3⟩ := pairedAt hP hq
      have er : rows.getD i (0, 0, 0) = r := getD_of hr'
      have T1 := T.alloc (o := .tup [.int (i : Int), .ref q]) hp
      simp only [a_gTup,a_gCons,a_gNil,a_gName,cxK,Option.some.injEq,V.int.injEq,V.ref.injEq,List.cons.injEq,exists_eq_left',exists_eq_left,exists_and_left,and_assoc,and_true,true_and,eq_self,List.set_cons_zero,List.set_cons_succ]
      refine ⟨_, SqT.of upd_same, rfl, ?_⟩
      simp only [a_gTup,a_gCons,a_gNil,a_gName,cxK,Option.some.injEq,V.int.injEq,V.ref.injEq,List.cons.injEq,exists_eq_left',exists_eq_left,exists_and_left,and_assoc,and_true,true_and,eq_self,List.set_cons_zero,List.set_cons_succ]
      refine seq_step fun N hN => ?_
      suffices key : ∀ (kvs' : List (Key × V)) (H' : Hp), Tab H H' d kvs' (fun x => stp rows flows x i ++ stp1 rows flows x i) → kvs'.length ≤ 2 * i + 1 → N [some (.ref a), some (.ref b), some (.ref d), some (.int (i : Int)), some (.ref q)] H' by
        simp only [a_ifS,a_test,a_tB,a_op,a_cb,a_cons,a_nil,a_var,a_c,a_rI0,a_rIxL,a_rIxT,a_dnotin,cxK,List.getElem?_cons_zero,List.getElem?_cons_succ,Option.some.injEq,V.int.injEq,V.ref.injEq,V.bl.injEq,V.str.injEq,List.cons.injEq,exists_eq_left',exists_eq_left,exists_and_left,and_assoc,and_true,true_and,eq_self,decide_eq_true_eq,decide_true,decide_false,Bool.not_true,Bool.not_false,reduceCtorEq,if_true,if_false,Bool.false_eq_true,reduceIte]
        refine ⟨_, T1.same.seq hB, _, atMapInt (by omega), ?_⟩
        simp only [a_ifS,a_test,a_tB,a_op,a_cb,a_cons,a_nil,a_var,a_c,a_rI0,a_rIxL,a_rIxT,a_dnotin,cxK,List.getElem?_cons_zero,List.getElem?_cons_succ,Option.some.injEq,V.int.injEq,V.ref.injEq,V.bl.injEq,V.str.injEq,List.cons.injEq,exists_eq_left',exists_eq_left,exists_and_left,and_assoc,and_true,true_and,eq_self,decide_eq_true_eq,decide_true,decide_false,Bool.not_true,Bool.not_false,reduceCtorEq,if_true,if_false,Bool.false_eq_true,reduceIte]
        refine ⟨_, SqT.of (T1.same _ _ h3), _, rfl, ?_⟩
        simp only [a_ifS,a_test,a_tB,a_op,a_cb,a_cons,a_nil,a_var,a_c,a_rI0,a_rIxL,a_rIxT,a_dnotin,cxK,List.getElem?_cons_zero,List.getElem?_cons_succ,Option.some.injEq,V.int.injEq,V.ref.injEq,V.bl.injEq,V.str.injEq,List.cons.injEq,exists_eq_left',exists_eq_left,exists_and_left,and_assoc,and_true,true_and,eq_self,decide_eq_true_eq,decide_true,decide_false,Bool.not_true,Bool.not_false,reduceCtorEq,if_true,if_false,Bool.false_eq_true,reduceIte]
        refine ite2 (fun e1 => ?_) (fun e1 => ?_)
        · have hll := stp_len rows flows r.1 i
          refine push_ok (al := true) (x := r.1) (t := r.2.1) (i := i) T1 (smallM (by omega)) (smallM (by omega)) rfl rfl (fun H' Q s q => ?_) (fun H' Q s q => ?_) fun kvs' H' T' hk' => key kvs' H' (T'.congr fun y => ?_) (by omega)
          · simp only [a_ifS,a_test,a_tB,a_op,a_cb,a_cons,a_nil,a_var,a_c,a_rI0,a_rIxL,a_rIxT,a_dnotin,cxK,List.getElem?_cons_zero,List.getElem?_cons_succ,Option.some.injEq,V.int.injEq,V.ref.injEq,V.bl.injEq,V.str.injEq,List.cons.injEq,exists_eq_left',exists_eq_left,exists_and_left,and_assoc,and_true,true_and,eq_self,decide_eq_true_eq,decide_true,decide_false,Bool.not_true,Bool.not_false,reduceCtorEq,if_true,if_false,Bool.false_eq_true,reduceIte]
            exact ⟨_, SqT.of (s _ _ h3), _, rfl, q⟩
          · simp only [a_ifS,a_test,a_tB,a_op,a_cb,a_cons,a_nil,a_var,a_c,a_rI0,a_rIxL,a_rIxT,a_dnotin,cxK,List.getElem?_cons_zero,List.getElem?_cons_succ,Option.some.injEq,V.int.injEq,V.ref.injEq,V.bl.injEq,V.str.injEq,List.cons.injEq,exists_eq_left',exists_eq_left,exists_and_left,and_assoc,and_true,true_and,eq_self,decide_eq_true_eq,decide_true,decide_false,Bool.not_true,Bool.not_false,reduceCtorEq,if_true,if_false,Bool.false_eq_true,reduceIte]
            exact ⟨_, SqT.of (s _ _ h3), _, rfl, q⟩
          · unfold stp1
            rw [er]
            by_cases e : r.1 = y
            · rw [if_pos e, if_pos ⟨e1, e⟩]
            · rw [if_neg e, if_neg (fun z => e z.2)]
        · refine key kvs _ (T1.congr fun y => ?_) (by omega)
          unfold stp1
          rw [er, if_neg (fun z => e1 z.1), List.append_nil]
      clear T1 T
      intro kvs1 H1 T1 hk1
      refine hN _ _ ?_
      clear hN N
      simp only [a_ifS,a_test,a_tB,a_op,a_cb,a_cons,a_nil,a_var,a_c,a_rI0,a_rIxL,a_rIxT,a_dnotin,cxK,List.getElem?_cons_zero,List.getElem?_cons_succ,Option.some.injEq,V.int.injEq,V.ref.injEq,V.bl.injEq,V.str.injEq,List.cons.injEq,exists_eq_left',exists_eq_left,exists_and_left,and_assoc,and_true,true_and,eq_self,decide_eq_true_eq,decide_true,decide_false,Bool.not_true,Bool.not_false,reduceCtorEq,if_true,if_false,Bool.false_eq_true,reduceIte]
      refine ⟨_, T1.same.seq hB, _, atMapInt (by omega), ?_⟩
      simp only [a_ifS,a_test,a_tB,a_op,a_cb,a_cons,a_nil,a_var,a_c,a_rI0,a_rIxL,a_rIxT,a_dnotin,cxK,List.getElem?_cons_zero,List.getElem?_cons_succ,Option.some.injEq,V.int.injEq,V.ref.injEq,V.bl.injEq,V.str.injEq,List.cons.injEq,exists_eq_left',exists_eq_left,exists_and_left,and_assoc,and_true,true_and,eq_self,decide_eq_true_eq,decide_true,decide_false,Bool.not_true,Bool.not_false,reduceCtorEq,if_true,if_false,Bool.false_eq_true,reduceIte]
      refine ite2 (fun e1 => ?_) (fun e1 => ?_)
      · have hll := stp_len rows flows r.2.1 i
        have hl1 : (stp1 rows flows r.2.1 i).length ≤ 1 := by unfold stp1; split <;> simp
        refine push_ok (al := false) (x := r.2.1) (t := r.1) (i := i) T1 (smallM (by omega)) (smallM (by rw [List.length_append]; omega)) rfl rfl (fun H' Q s q => ?_) (fun H' Q s q => ?_) fun kvs' H' T' hk' => ⟨_, _, kvs', rfl, T'.congr fun y => ?_, by omega⟩
        · simp only [a_ifS,a_test,a_tB,a_op,a_cb,a_cons,a_nil,a_var,a_c,a_rI0,a_rIxL,a_rIxT,a_dnotin,cxK,List.getElem?_cons_zero,List.getElem?_cons_succ,Option.some.injEq,V.int.injEq,V.ref.injEq,V.bl.injEq,V.str.injEq,List.cons.injEq,exists_eq_left',exists_eq_left,exists_and_left,and_assoc,and_true,true_and,eq_self,decide_eq_true_eq,decide_true,decide_false,Bool.not_true,Bool.not_false,reduceCtorEq,if_true,if_false,Bool.false_eq_true,reduceIte]
          exact ⟨_, SqT.of (s _ _ h3), _, rfl, q⟩
        · simp only [a_ifS,a_test,a_tB,a_op,a_cb,a_cons,a_nil,a_var,a_c,a_rI0,a_rIxL,a_rIxT,a_dnotin,cxK,List.getElem?_cons_zero,List.getElem?_cons_succ,Option.some.injEq,V.int.injEq,V.ref.injEq,V.bl.injEq,V.str.injEq,List.cons.injEq,exists_eq_left',exists_eq_left,exists_and_left,and_assoc,and_true,true_and,eq_self,decide_eq_true_eq,decide_true,decide_false,Bool.not_true,Bool.not_false,reduceCtorEq,if_true,if_false,Bool.false_eq_true,reduceIte]
          exact ⟨_, SqT.of (s _ _ h3), _, rfl, q⟩
        · show _ = stp rows flows y i ++ stp1 rows flows y i ++ stp2 rows flows y i
          unfold stp2
          rw [er]
          by_cases e : r.2.1 = y
          · rw [if_pos e, if_pos ⟨e1, e⟩]
          · rw [if_neg e, if_neg (fun z => e z.2)]
      · simp only [a_next]
        refine ⟨_, _, kvs1, rfl, T1.congr fun y => ?_, by omega⟩
        show _ = stp rows flows y i ++ stp1 rows flows y i ++ stp2 rows flows y i
        unfold stp2
        rw [er, if_neg (fun z => e1 z.1), List.append_nil]
    · rintro σ Hi ⟨v3, v4, kvs, rfl, T, hk⟩
      have en : (ps.map V.ref).length = rows.length := by rw [List.length_map, Paired.length hP]
      rw [en] at T
      refine hN _ _ ?_
      clear hN N
      simp only [a_var,a_c,a_op,a_un,a_rI,a_rI0,a_rU,a_rEq,a_rNe,s_ii,s_bb,s_ss,a_test,a_tB,a_and,a_or,a_not,a_andV,a_orV,a_notV,a_if,a_next,a_seq,a_brk,a_cont,a_drop,a_ret,a_retN,a_ifS,a_gName,a_gNil,a_gCons,a_gTup,a_gSub,a_asg,a_par,a_aug,a_ipI,a_nil,a_cons,a_tup,a_lst,a_dnew,a_call,a_cb,a_bm,a_bm0,a_noPart,a_part,a_sl,a_rSlL,a_rIxL,a_rIxT,a_rSetL,a_append,a_insert,a_rIn,a_din,a_dnotin,a_dput,a_for,a_iList,a_iTup,a_iRng1,a_iZip,a_rRep,a_rCat,cxK,List.getElem?_cons_zero,List.getElem?_cons_succ,List.set_cons_zero,List.set_cons_succ,Option.some.injEq,V.int.injEq,V.ref.injEq,V.bl.injEq,V.str.injEq,V.ty.injEq,List.cons.injEq,exists_eq_left',exists_eq_left,exists_and_left,and_assoc,and_true,true_and,List.append_nil,List.cons_append,List.nil_append,decide_eq_true_eq,decide_true,decide_false,eq_self,reduceIte,if_true,if_false,Bool.false_eq_true,Bool.not_true,Bool.not_false,Int.zero_add,reduceCtorEq,false_and,exists_false,false_or,or_false,a_slS,a_comp,a_emit,a_yes,a_iEnum,a_setd,a_sortK,a_dget1,a_dget2,a_disp,a_pairs0,a_pairs1,a_dget,a_augS,a_rGetL,a_raise,a_isE,a_countB]
      exact k d kvs Hi T.fresh T.at_ T.tab T.same
end
def IvRw (a b sd d : Addr) (z : Int) (rows : List Pipe) (flows : List Int) (n : Nat) (H : Hp) (m : Nat) (σ : St) (Hi : Hp) : Prop :=
  ∃ (v6 v7 v8 v9 : Option V) (la : Addr) (last : List Int) (kvs : List (Key × V)), σ = [some (.ref a), some (.ref b), some (.int z), some (.ref sd), some (.ref d), some (.ref la), v6, v7, v8, v9] ∧ Rds rows flows z n H Hi d kvs ∧ Hi la = some (.lst (last.map V.int)) ∧
    (∀ x ∈ last, (valV kvs (Sum.inl x)).isSome = true) ∧ (∀ x, (valV kvs (Sum.inl x)).isSome = true → x ∈ last ∨ Clo rows flows kvs x) ∧ m = cntN (fun y => (valV kvs (Sum.inl y)).isSome) n + last.length
structure Rnd (rows : List Pipe) (flows : List Int) (z : Int) (n : Nat) (H Hs : Hp) (d nx : Addr) (last : List Int) (c0 i : Nat) (Hi : Hp) (kvs : List (Key × V)) (nxt : List Int) : Prop where
  R : Rds rows flows z n H Hi d kvs
  sx : SameX nx d Hs Hi
  nx_ : Hi nx = some (.lst (nxt.map V.int))
  ap : Apart kvs nx
  ls : ∀ x ∈ last, (valV kvs (Sum.inl x)).isSome = true
  ns : ∀ x ∈ nxt, (valV kvs (Sum.inl x)).isSome = true
  cl : ∀ x, (valV kvs (Sum.inl x)).isSome = true → x ∈ last.drop i ∨ x ∈ nxt ∨ Clo rows flows kvs x
  ct : cntN (fun y => (valV kvs (Sum.inl y)).isSome) n + nxt.length = c0
theorem Rnd.alloc {rows : List Pipe} {flows : List Int} {z : Int} {n : Nat} {H Hs : Hp} {d nx : Addr} {last : List Int} {c0 i : Nat} {Hi : Hp} {kvs : List (Key × V)} {nxt : List Int} {p : Addr} {o : HO} (G : Rnd rows flows z n H Hs d nx last c0 i Hi kvs nxt) (hp : Hi p = none) :
    Rnd rows flows z n H Hs d nx last c0 i (upd Hi p o) kvs nxt :=
  { G with R := G.R.alloc hp, sx := G.sx.alloc hp, nx_ := same_upd (Same.refl Hi) hp _ _ G.nx_ }
def IvRf (a b sd d la nx : Addr) (z : Int) (rows : List Pipe) (flows : List Int) (n : Nat) (H Hs : Hp) (last : List Int) (c0 i : Nat) (σ : St) (Hi : Hp) : Prop :=
  ∃ v7 v8 v9 kvs nxt, σ = [some (.ref a), some (.ref b), some (.int z), some (.ref sd), some (.ref d), some (.ref la), some (.ref nx), v7, v8, v9] ∧ Rnd rows flows z n H Hs d nx last c0 i Hi kvs nxt
def IvRi (a b sd d la nx : Addr) (z h : Int) (rows : List Pipe) (flows : List Int) (n : Nat) (H Hs Ht : Hp) (last : List Int) (c0 i j : Nat) (σ : St) (Hi : Hp) : Prop :=
  ∃ v8 v9 kvs nxt, σ = [some (.ref a), some (.ref b), some (.int z), some (.ref sd), some (.ref d), some (.ref la), some (.ref nx), some (.int h), v8, v9] ∧ Rnd rows flows z n H Hs d nx last c0 i Hi kvs nxt ∧ SameX nx d Ht Hi ∧
    ∀ e ∈ (stp rows flows h rows.length).take j, (valV kvs (Sum.inl e.2)).isSome = true
abbrev s_roads_from : Stmt := top 14
theorem sc_roads_from : FnScope ["pipes", "plan", "start", "steps", "roads", "last_reached", "next_reached", "here", "step", "there"] ["pipes", "plan", "start"] (defScope s_roads_from) := ⟨rfl, rfl, rfl, by decide +kernel, rfl, by decide +kernel, by decide +kernel⟩
section
variable {P : Program} {w : World} {K : PySem.W.Frag} {mg : Str → Option Value} {base : Heap}
theorem ok_roads_from {f : Addr} {fd : FuncData} (F : Fun K "roads_from" "roads_from" s_roads_from f fd) (T : Txt K mg) {cF cN cW c1 : Addr} (CL : Cls K mg cF cN cW c1) {f_steps_by_station : Addr} {fd_steps_by_station : FuncData} (F_steps_by_station : FOk P w K mg base "steps_by_station" 1 ["pipes", "plan"] (spSteps K) f_steps_by_station fd_steps_by_station) :
    FnOk P w K mg base CX0 2 f fd ["pipes", "plan", "start"] (spRoads K) := by
  refine F.ok sc_roads_from (fun vs H Q E h => ?_) (fun cdv A outer s H vs Q E hr h => ?_)
  · obtain ⟨a, b, ps, rows, flows, n, z, rfl, ⟨hA, hB, hP, hl, hz, hn, hF, hfit⟩, hz0, hz1, k⟩ := h
    rfl
  · obtain ⟨a, b, ps, rows, flows, n, z, rfl, ⟨hA, hB, hP, hl, hz, hn, hF, hfit⟩, hz0, hz1, k⟩ := h
    have SC := sc_roads_from
    have hu := hu_of hr
    have hu0 := hr.units0
    refine ⟨_, (pss_cons (ps_set (i := 3) SC.nd rfl (Or.inl rfl) (pe_call F_steps_by_station.G (hr.mono (by decide)) rfl F_steps_by_station.m F_steps_by_station.kp F_steps_by_station.b .nil pass0 (pa_cons (pv 0) (pa_cons (pv 1) pa_nil))))
  (pss_cons (ps_set (i := 4) SC.nd rfl (Or.inl rfl) (pe_disp (pps_cons (pv 2) (pe_lst pa_nil) pps_nil) rfl rfl (List.cons_ne_nil _ _) (by decide)))
  (pss_cons (ps_set (i := 5) SC.nd rfl (Or.inl rfl) (pe_lst (pa_cons (pv 2) pa_nil)))
  (pss_cons (ps_while PassesOwn.never (pt_cmpR op_gt (pe_callB call_len_seq rfl T.z_len PySem.boot_len (pa_cons (pv 5) pa_nil)) pe_int (nomark _))
  (pss_cons (ps_set (i := 6) SC.nd rfl (Or.inl rfl) (pe_lst pa_nil))
  (pss_cons (ps_for PassesOwn.never rfl (pi_list (pv 5)) (pg_name (i := 7) SC.nd rfl (Or.inl rfl))
  (pss_one (ps_for PassesOwn.never rfl (pi_list (pe_dget2 hu (pv 3) (pv 7) (pe_lst pa_nil) ⟨rfl, rfl, rfl, rfl⟩)) (pg_tup rfl (pgs_cons (pg_name (i := 8) SC.nd rfl (Or.inl rfl)) (pgs_cons (pg_name (i := 9) SC.nd rfl (Or.inl rfl)) pgs_nil)))
  (pss_one (ps_if (pt_cmp (pc_dnotin hu (pv 9) (pv 4)))
  (pss_cons (ps_dput hu (pv 4) (pv 9) (pe_op op_cat (pe_dget hu (pv 4) (pv 7) (fun _ _ => rfl)) (pe_lst (pa_cons (pv 8) pa_nil))) rfl)
  (pss_one (ps_expr (pe_bm PySem.F.plainAttrs_list PySem.F.slot_list_append PySem.F.type_list_append mt_append (pv 6) (pa_cons (pv 9) pa_nil)))))
  pss_nil)))))
  (pss_one (ps_set (i := 5) SC.nd rfl (Or.inl rfl) (pv 6))))))
  (pss_one (ps_ret (pv 4))))))), ?_⟩
    rw [show start ["pipes", "plan", "start", "steps", "roads", "last_reached", "next_reached", "here", "step", "there"] [V.ref a, V.ref b, V.int z] = [some (V.ref a), some (V.ref b), some (V.int z), none, none, none, none, none, none, none] from rfl]
    have hsz : sizeLine = 16777216 := sizeLine_eq
    refine seq_step fun N hN => ?_
    simp only [a_var,a_c,a_op,a_un,a_rI,a_rI0,a_rU,a_rEq,a_rNe,s_ii,s_bb,s_ss,a_test,a_tB,a_and,a_or,a_not,a_andV,a_orV,a_notV,a_if,a_next,a_seq,a_brk,a_cont,a_drop,a_ret,a_retN,a_ifS,a_gName,a_gNil,a_gCons,a_gTup,a_gSub,a_asg,a_par,a_aug,a_ipI,a_nil,a_cons,a_tup,a_lst,a_dnew,a_call,a_cb,a_bm,a_bm0,a_noPart,a_part,a_sl,a_rSlL,a_rIxL,a_rIxT,a_rSetL,a_append,a_insert,a_rIn,a_din,a_dnotin,a_dput,a_for,a_iList,a_iTup,a_iRng1,a_iZip,a_rRep,a_rCat,cxK,List.getElem?_cons_zero,List.getElem?_cons_succ,List.set_cons_zero,List.set_cons_succ,Option.some.injEq,V.int.injEq,V.ref.injEq,V.bl.injEq,V.str.injEq,V.ty.injEq,List.cons.injEq,exists_eq_left',exists_eq_left,exists_and_left,and_assoc,and_true,true_and,List.append_nil,List.cons_append,List.nil_append,decide_eq_true_eq,decide_true,decide_false,eq_self,reduceIte,if_true,if_false,Bool.false_eq_true,Bool.not_true,Bool.not_false,Int.zero_add,reduceCtorEq,false_and,exists_false,false_or,or_false,a_slS,a_comp,a_emit,a_yes,a_iEnum,a_setd,a_sortK,a_dget1,a_dget2,a_disp,a_pairs0,a_pairs1,a_dget,a_augS,a_rGetL,a_raise,a_isE,a_countB]
    refine ⟨a, b, ps, rows, flows, rfl, hA, hB, hP, hl, hz, fun sd kvs2 H1 nsd hsd hTab s1 => ?_⟩
    refine hN _ _ ?_
    clear hN N
    refine seq_step fun N hN => ?_
    simp only [a_var,a_c,a_op,a_un,a_rI,a_rI0,a_rU,a_rEq,a_rNe,s_ii,s_bb,s_ss,a_test,a_tB,a_and,a_or,a_not,a_andV,a_orV,a_notV,a_if,a_next,a_seq,a_brk,a_cont,a_drop,a_ret,a_retN,a_ifS,a_gName,a_gNil,a_gCons,a_gTup,a_gSub,a_asg,a_par,a_aug,a_ipI,a_nil,a_cons,a_tup,a_lst,a_dnew,a_call,a_cb,a_bm,a_bm0,a_noPart,a_part,a_sl,a_rSlL,a_rIxL,a_rIxT,a_rSetL,a_append,a_insert,a_rIn,a_din,a_dnotin,a_dput,a_for,a_iList,a_iTup,a_iRng1,a_iZip,a_rRep,a_rCat,cxK,List.getElem?_cons_zero,List.getElem?_cons_succ,List.set_cons_zero,List.set_cons_succ,Option.some.injEq,V.int.injEq,V.ref.injEq,V.bl.injEq,V.str.injEq,V.ty.injEq,List.cons.injEq,exists_eq_left',exists_eq_left,exists_and_left,and_assoc,and_true,true_and,List.append_nil,List.cons_append,List.nil_append,decide_eq_true_eq,decide_true,decide_false,eq_self,reduceIte,if_true,if_false,Bool.false_eq_true,Bool.not_true,Bool.not_false,Int.zero_add,reduceCtorEq,false_and,exists_false,false_or,or_false,a_slS,a_comp,a_emit,a_yes,a_iEnum,a_setd,a_sortK,a_dget1,a_dget2,a_disp,a_pairs0,a_pairs1,a_dget,a_augS,a_rGetL,a_raise,a_isE,a_countB]
    refine fun d nd => ⟨Nat.zero_le _, fun e ne => ⟨?_, [(Sum.inl z, .ref e)], rfl, (show 1 ≤ 15 by decide), ?_⟩⟩
    · exact same_upd (Same.refl _) ne _ _ upd_same
    refine hN _ _ ?_
    clear hN N
    have hed : e ≠ d := (ne_of_none upd_same ne).symm
    have vz : ∀ y : Int, valV (mergeK [] [((Sum.inl z : Key), V.ref e)]) (Sum.inl y) = if y = z then some (.ref e) else none := fun y => by
      show valV (putK [] (Sum.inl z) (V.ref e)) (Sum.inl y) = _
      rw [valV_put]
      by_cases q : y = z
      · rw [if_pos (by rw [q]), if_pos q]
      · rw [if_neg (fun w => q (Sum.inl.inj w)), if_neg q]; rfl
    have ez : ∀ y : Int, (valV (mergeK [] [((Sum.inl z : Key), V.ref e)]) (Sum.inl y)).isSome = true ↔ y = z := fun y => by
      rw [vz]
      by_cases q : y = z
      · rw [if_pos q]; exact ⟨fun _ => q, fun _ => rfl⟩
      · rw [if_neg q]; exact ⟨fun w => (Bool.false_ne_true w).elim, fun w => absurd w q⟩
    have R0 : Rds rows flows z n H1 (upd (upd (upd H1 d (.dK [])) e (.lst [])) d (.dK (mergeK [] [(Sum.inl z, .ref e)]))) d (mergeK [] [(Sum.inl z, .ref e)]) := by
      refine ⟨same_upd' (same_upd (same_upd (Same.refl _) nd) ne) nd, upd_same, nd, (ez z).mpr rfl, ⟨[z], rfl, List.nodup_cons.mpr ⟨(fun q => nomatch q), List.nodup_nil⟩, fun y => ?_⟩, fun y hy => ?_, ?_, fun y v hv => ?_⟩
      · rw [ez, List.mem_singleton]
      · rw [(ez y).mp hy]; exact ⟨hz0, hz1⟩
      · have c := cntN_put (p := fun _ => false) (p' := fun y => (valV (mergeK [] [((Sum.inl z : Key), V.ref e)]) (Sum.inl y)).isSome) (t := z) (fun y => ⟨fun q => .inl ((ez y).mp q), fun q => (ez y).mpr (q.resolve_right Bool.false_ne_true)⟩) rfl hz0 (n := n)
        rw [if_pos hz1, cntN_none (fun _ => rfl)] at c
        show 1 + _ = n
        omega
      · rw [vz] at hv
        by_cases q : y = z
        · rw [if_pos q] at hv
          cases hv
          exact ⟨e, [], [], rfl, by rw [upd_ne hed, upd_same]; rfl, .nil, Nat.zero_le _, q.symm, fun x hx => nomatch hx⟩
        · rw [if_neg q] at hv; cases hv
    generalize hk0 : mergeK [] [((Sum.inl z : Key), V.ref e)] = kvs0 at R0 ez
    generalize upd (upd (upd H1 d (.dK [])) e (.lst [])) d (.dK kvs0) = H2 at R0
    clear vz hk0 hed
    refine seq_step fun N hN => ?_
    simp only [a_var,a_c,a_op,a_un,a_rI,a_rI0,a_rU,a_rEq,a_rNe,s_ii,s_bb,s_ss,a_test,a_tB,a_and,a_or,a_not,a_andV,a_orV,a_notV,a_if,a_next,a_seq,a_brk,a_cont,a_drop,a_ret,a_retN,a_ifS,a_gName,a_gNil,a_gCons,a_gTup,a_gSub,a_asg,a_par,a_aug,a_ipI,a_nil,a_cons,a_tup,a_lst,a_dnew,a_call,a_cb,a_bm,a_bm0,a_noPart,a_part,a_sl,a_rSlL,a_rIxL,a_rIxT,a_rSetL,a_append,a_insert,a_rIn,a_din,a_dnotin,a_dput,a_for,a_iList,a_iTup,a_iRng1,a_iZip,a_rRep,a_rCat,cxK,List.getElem?_cons_zero,List.getElem?_cons_succ,List.set_cons_zero,List.set_cons_succ,Option.some.injEq,V.int.injEq,V.ref.injEq,V.bl.injEq,V.str.injEq,V.ty.injEq,List.cons.injEq,exists_eq_left',exists_eq_left,exists_and_left,and_assoc,and_true,true_and,List.append_nil,List.cons_append,List.nil_append,decide_eq_true_eq,decide_true,decide_false,eq_self,reduceIte,if_true,if_false,Bool.false_eq_true,Bool.not_true,Bool.not_false,Int.zero_add,reduceCtorEq,false_and,exists_false,false_or,or_false,a_slS,a_comp,a_emit,a_yes,a_iEnum,a_setd,a_sortK,a_dget1,a_dget2,a_disp,a_pairs0,a_pairs1,a_dget,a_augS,a_rGetL,a_raise,a_isE,a_countB]
    refine ⟨(show 1 ≤ sizeLine by decide), fun la nla => ?_⟩
    refine hN _ _ ?_
    clear hN N
    refine seq_step fun N hN => ?_
    refine while_w (IvRw a b sd d z rows flows n H1) ⟨_, _, _, _, _, la, [z], kvs0, rfl, R0.alloc nla, upd_same, fun x hx => ?_, fun x hx => .inl ?_, rfl⟩ ?_
    · rw [List.mem_singleton.mp hx]; exact (ez z).mpr rfl
    · rw [(ez x).mp hx]; exact List.mem_singleton.mpr rfl
    clear R0 ez nla
    rintro m σ Hi ⟨v6, v7, v8, v9, la, last, kvs, rfl, R, hla, hls, hcl, rfl⟩
    have hcn := R.cnt
    simp only [a_ifS,a_test,a_tB,a_op,a_cb,a_cons,a_nil,a_var,a_c,a_rI0,a_rIxL,a_rIxT,a_dnotin,cxK,List.getElem?_cons_zero,List.getElem?_cons_succ,Option.some.injEq,V.int.injEq,V.ref.injEq,V.bl.injEq,V.str.injEq,List.cons.injEq,exists_eq_left',exists_eq_left,exists_and_left,and_assoc,and_true,true_and,eq_self,decide_eq_true_eq,decide_true,decide_false,Bool.not_true,Bool.not_false,reduceCtorEq,if_true,if_false,Bool.false_eq_true,reduceIte]
    refine ⟨_, .inl (SqL.of hla), ?_⟩
    try simp only [a_ifS,a_test,a_tB,a_op,a_cb,a_cons,a_nil,a_var,a_c,a_rI0,a_rIxL,a_rIxT,a_dnotin,cxK,List.getElem?_cons_zero,List.getElem?_cons_succ,Option.some.injEq,V.int.injEq,V.ref.injEq,V.bl.injEq,V.str.injEq,List.cons.injEq,exists_eq_left',exists_eq_left,exists_and_left,and_assoc,and_true,true_and,eq_self,decide_eq_true_eq,decide_true,decide_false,Bool.not_true,Bool.not_false,reduceCtorEq,if_true,if_false,Bool.false_eq_true,reduceIte]
    refine ite2 (fun e1 => ?_) (fun e1 => ?_)
    · rw [List.length_map] at e1
      refine ⟨_, fun _ _ h => h, ?_⟩
      refine seq_step fun N hN => ?_
      simp only [a_var,a_c,a_op,a_un,a_rI,a_rI0,a_rU,a_rEq,a_rNe,s_ii,s_bb,s_ss,a_test,a_tB,a_and,a_or,a_not,a_andV,a_orV,a_notV,a_if,a_next,a_seq,a_brk,a_cont,a_drop,a_ret,a_retN,a_ifS,a_gName,a_gNil,a_gCons,a_gTup,a_gSub,a_asg,a_par,a_aug,a_ipI,a_nil,a_cons,a_tup,a_lst,a_dnew,a_call,a_cb,a_bm,a_bm0,a_noPart,a_part,a_sl,a_rSlL,a_rIxL,a_rIxT,a_rSetL,a_append,a_insert,a_rIn,a_din,a_dnotin,a_dput,a_for,a_iList,a_iTup,a_iRng1,a_iZip,a_rRep,a_rCat,cxK,List.getElem?_cons_zero,List.getElem?_cons_succ,List.set_cons_zero,List.set_cons_succ,Option.some.injEq,V.int.injEq,V.ref.injEq,V.bl.injEq,V.str.injEq,V.ty.injEq,List.cons.injEq,exists_eq_left',exists_eq_left,exists_and_left,and_assoc,and_true,true_and,List.append_nil,List.cons_append,List.nil_append,decide_eq_true_eq,decide_true,decide_false,eq_self,reduceIte,if_true,if_false,Bool.false_eq_true,Bool.not_true,Bool.not_false,Int.zero_add,reduceCtorEq,false_and,exists_false,false_or,or_false,a_slS,a_comp,a_emit,a_yes,a_iEnum,a_setd,a_sortK,a_dget1,a_dget2,a_disp,a_pairs0,a_pairs1,a_dget,a_augS,a_rGetL,a_raise,a_isE,a_countB]
      refine ⟨Nat.zero_le _, fun nx nnx => ?_⟩
      refine hN _ _ ?_
      clear hN N
      have hn1 : H1 nx = none := R.same.free nnx
      have hax : la ≠ nx := ne_of_none hla nnx
      have had : la ≠ d := ne_of hla R.at_ (fun z => nomatch z)
      have G0 : Rnd rows flows z n H1 (upd Hi nx (.lst [])) d nx last (cntN (fun y => (valV kvs (Sum.inl y)).isSome) n) 0 (upd Hi nx (.lst [])) kvs [] :=
        ⟨R.alloc nnx, SameX.refl, upd_same, R.apart nnx, hls, (fun x hx => nomatch hx), (fun x hx => (hcl x hx).elim (fun q => .inl q) fun q => .inr (.inr q)), rfl⟩
      have hls0 : (upd Hi nx (.lst [])) la = some (.lst (last.map V.int)) := by rw [upd_ne hax]; exact hla
      generalize upd Hi nx (.lst []) = Hs at G0 hls0
      have hc0 : cntN (fun y => (valV kvs (Sum.inl y)).isSome) n ≤ 63 := by omega
      generalize cntN (fun y => (valV kvs (Sum.inl y)).isSome) n = c0 at G0 hc0 ⊢
      have hxd : nx ≠ d := ne_of G0.nx_ G0.R.at_ (fun z => nomatch z)
      clear R hla hls hcl hcn nnx
      refine seq_step fun N hN => ?_
      simp only [a_for, a_iList, a_var, cxK, List.getElem?_cons_zero, List.getElem?_cons_succ, Option.some.injEq, V.ref.injEq, exists_eq_left', exists_eq_left]
      refine ⟨⟨_, SqL.of hls0⟩, ?_⟩
      refine ForOk.list (xs := last.map V.int) (IvRf a b sd d la nx z rows flows n H1 Hs last c0) ⟨_, _, _, kvs, [], rfl, G0⟩ (fun i σ Hi _ ⟨_, _, _, _, _, _, G⟩ => SqL.of (G.sx _ _ hax had hls0)) ?_ ?_
      · clear G0
        rintro i x σ Hi hx ⟨v7, v8, v9, kvs, nxt, rfl, G⟩
        have hi : i < last.length := by
          have q := (List.getElem?_eq_some_iff.mp hx).1
          rw [List.length_map] at q; exact q
        rw [getMapInt hi] at hx
        cases hx
        have hmem : last.getD i 0 ∈ last := by rw [List.getD_eq_getElem?_getD, List.getElem?_eq_getElem hi]; exact List.getElem_mem hi
        have hdr : ∀ x, x ∈ last.drop i → x = last.getD i 0 ∨ x ∈ last.drop (i + 1) := fun x hx => by
          rw [List.drop_eq_getElem_cons hi] at hx
          rcases List.mem_cons.mp hx with q | q
          · left; rw [List.getD_eq_getElem?_getD, List.getElem?_eq_getElem hi]; exact q
          · exact .inr q
        generalize last.getD i 0 = h at hmem hdr
        simp only [a_gName, List.set_cons_zero, List.set_cons_succ, Int.zero_add]
        simp only [a_for, a_iList, a_dget2, a_lst, a_nil, a_var, cxK, List.getElem?_cons_zero, List.getElem?_cons_succ, Option.some.injEq, V.ref.injEq, exists_eq_left', exists_eq_left]
        have hsdi : Hi sd = some (.dK kvs2) := G.R.same _ _ hsd
        refine ⟨.inl ⟨_, .inl hsdi⟩, Nat.zero_le _, fun e ne => ?_⟩
        have Ge := G.alloc (o := .lst []) ne
        have se := same_upd (o := .lst []) (Same.refl Hi) ne
        refine ⟨_, DGet.k (k := Sum.inl h) (se _ _ hsdi), ?_⟩
        obtain ⟨l, us, hgl, hlu, hus, hlx⟩ : ∃ (l : Addr) (us : List Addr), (valV kvs2 (Sum.inl h)).getD (.ref e) = .ref l ∧ (upd Hi e (.lst [])) l = some (.lst (us.map V.ref)) ∧ Paired (TRow (upd Hi e (.lst []))) us (stp rows flows h rows.length) ∧ l ≠ nx := by
          rcases hTab h with ⟨q1, q2⟩ | ⟨l, us, q1, q2, q3⟩
          · refine ⟨e, [], by rw [q1]; rfl, by rw [upd_same]; rfl, by rw [show stp rows flows h rows.length = [] from q2]; exact .nil, (ne_of_none G.nx_ ne).symm⟩
          · have s' := G.R.same.trans se
            exact ⟨l, us, by rw [q1]; rfl, s' _ _ q2, trow_same s' q3, ne_of_none q2 hn1⟩
        have hld : l ≠ d := ne_of hlu Ge.R.at_ (fun z => nomatch z)
        have hul := Paired.length hus
        rw [hgl]
        simp only [V.ref.injEq, exists_eq_left', exists_eq_left]
        refine ⟨⟨_, SqL.of hlu⟩, ?_⟩
        generalize upd Hi e (.lst []) = Ht at Ge hlu hus
        refine ForOk.list (xs := us.map V.ref) (IvRi a b sd d la nx z h rows flows n H1 Hs Ht last c0 i) ⟨_, _, kvs, nxt, rfl, Ge, SameX.refl, fun x hx => nomatch hx⟩ (fun j σ Hi _ ⟨_, _, _, _, _, _, sx, _⟩ => SqL.of (sx _ _ hlx hld hlu)) ?_ ?_
        · clear G ne se hsdi
          rintro j x σ Hi hx ⟨v8, v9, kvs, nxt, rfl, G, sx, hcov⟩
          have hj : j < us.length := by
            have q := (List.getElem?_eq_some_iff.mp hx).1
            rw [List.length_map] at q; exact q
          obtain ⟨u, hu⟩ : ∃ u, us[j]? = some u := ⟨us[j], List.getElem?_eq_getElem hj⟩
          rw [List.getElem?_map, hu] at hx
          cases hx
          obtain ⟨⟨s, t⟩, hst, q, hu2, hq2⟩ := pairedAt hus hu
          have hup : Hi u = some (.tup [.ref q, .int t]) := sx _ _ (ne_of hu2 Ge.nx_ (fun z => nomatch z)) (ne_of hu2 Ge.R.at_ (fun z => nomatch z)) hu2
          have hqp : SRow Hi q s := sx _ _ (ne_of hq2 Ge.nx_ (fun z => nomatch z)) (ne_of hq2 Ge.R.at_ (fun z => nomatch z)) hq2
          obtain ⟨c1, c2, c3⟩ := stp_of (Nat.le_refl _) (List.mem_of_getElem? hst)
          have ht01 : 0 ≤ t ∧ t < n := by
            obtain ⟨row, er, _⟩ := c1
            have := hF row (List.mem_of_getElem? er)
            unfold toS at c3
            rw [getD_of er] at c3
            rw [← c3]
            split
            · exact this.2.1
            · exact this.1
          have next : ∀ (kvs' : List (Key × V)) (nxt' : List Int) (H' : Hp) (w8 w9 : Option V), Rnd rows flows z n H1 Hs d nx last c0 i H' kvs' nxt' → SameX nx d Ht H' → (∀ y, (valV kvs (Sum.inl y)).isSome = true → (valV kvs' (Sum.inl y)).isSome = true) → (valV kvs' (Sum.inl t)).isSome = true →
              IvRi a b sd d la nx z h rows flows n H1 Hs Ht last c0 i (j + 1) [some (.ref a), some (.ref b), some (.int z), some (.ref sd), some (.ref d), some (.ref la), some (.ref nx), some (.int h), w8, w9] H' := fun kvs' nxt' H' w8 w9 G' sx' mono ht => by
            refine ⟨_, _, kvs', nxt', rfl, G', sx', fun x hx => ?_⟩
            rcases mem_take_one hst hx with q | q
            · exact mono _ (hcov x q)
            · rw [q]; exact ht
          simp only [a_gTup,a_gCons,a_gNil,a_gName,cxK,Option.some.injEq,V.int.injEq,V.ref.injEq,List.cons.injEq,exists_eq_left',exists_eq_left,exists_and_left,and_assoc,and_true,true_and,eq_self,List.set_cons_zero,List.set_cons_succ]
          refine ⟨_, SqT.of hup, rfl, ?_⟩
          simp only [a_gTup,a_gCons,a_gNil,a_gName,cxK,Option.some.injEq,V.int.injEq,V.ref.injEq,List.cons.injEq,exists_eq_left',exists_eq_left,exists_and_left,and_assoc,and_true,true_and,eq_self,List.set_cons_zero,List.set_cons_succ]
          simp only [a_ifS,a_test,a_tB,a_op,a_cb,a_cons,a_nil,a_var,a_c,a_rI0,a_rIxL,a_rIxT,a_dnotin,cxK,List.getElem?_cons_zero,List.getElem?_cons_succ,Option.some.injEq,V.int.injEq,V.ref.injEq,V.bl.injEq,V.str.injEq,List.cons.injEq,exists_eq_left',exists_eq_left,exists_and_left,and_assoc,and_true,true_and,eq_self,decide_eq_true_eq,decide_true,decide_false,Bool.not_true,Bool.not_false,reduceCtorEq,if_true,if_false,Bool.false_eq_true,reduceIte]
          refine ⟨_, DGet.k (k := Sum.inl t) G.R.at_, ?_⟩
          cases et : valV kvs (Sum.inl t) with
          | some v =>
            simp only [Option.isSome_some]
            simp only [a_ifS,a_test,a_tB,a_op,a_cb,a_cons,a_nil,a_var,a_c,a_rI0,a_rIxL,a_rIxT,a_dnotin,cxK,List.getElem?_cons_zero,List.getElem?_cons_succ,Option.some.injEq,V.int.injEq,V.ref.injEq,V.bl.injEq,V.str.injEq,List.cons.injEq,exists_eq_left',exists_eq_left,exists_and_left,and_assoc,and_true,true_and,eq_self,decide_eq_true_eq,decide_true,decide_false,Bool.not_true,Bool.not_false,reduceCtorEq,if_true,if_false,Bool.false_eq_true,reduceIte]
            simp only [a_next]
            exact next kvs nxt Hi _ _ G sx (fun _ q => q) (by rw [et]; rfl)
          | none =>
            simp only [Option.isSome_none]
            simp only [a_ifS,a_test,a_tB,a_op,a_cb,a_cons,a_nil,a_var,a_c,a_rI0,a_rIxL,a_rIxT,a_dnotin,cxK,List.getElem?_cons_zero,List.getElem?_cons_succ,Option.some.injEq,V.int.injEq,V.ref.injEq,V.bl.injEq,V.str.injEq,List.cons.injEq,exists_eq_left',exists_eq_left,exists_and_left,and_assoc,and_true,true_and,eq_self,decide_eq_true_eq,decide_true,decide_false,Bool.not_true,Bool.not_false,reduceCtorEq,if_true,if_false,Bool.false_eq_true,reduceIte]
            have hkh := G.ls h hmem
            obtain ⟨v, hv⟩ := Option.isSome_iff_exists.mp hkh
            obtain ⟨lr, qs, sts, rfl, g1, g2, g3, g4, g5⟩ := G.R.road h v hv
            have hcnt := G.R.cnt
            have hlq := Paired.length g2
            have hcn : 0 < cntN (fun y => (valV kvs (Sum.inl y)).isSome) n := by
              have c := cntN_put (p := fun y => (valV kvs (Sum.inl y)).isSome) (p' := fun y => (valV (putK kvs (Sum.inl t) (.ref 0)) (Sum.inl y)).isSome) (t := t) (fun y => isSome_put_iff) (by show (valV kvs (Sum.inl t)).isSome = false; rw [et]; rfl) ht01.1 (n := n)
              rw [if_pos ht01.2] at c
              omega
            refine seq_step fun N hN => ?_
            simp only [a_var,a_c,a_op,a_un,a_rI,a_rI0,a_rU,a_rEq,a_rNe,s_ii,s_bb,s_ss,a_test,a_tB,a_and,a_or,a_not,a_andV,a_orV,a_notV,a_if,a_next,a_seq,a_brk,a_cont,a_drop,a_ret,a_retN,a_ifS,a_gName,a_gNil,a_gCons,a_gTup,a_gSub,a_asg,a_par,a_aug,a_ipI,a_nil,a_cons,a_tup,a_lst,a_dnew,a_call,a_cb,a_bm,a_bm0,a_noPart,a_part,a_sl,a_rSlL,a_rIxL,a_rIxT,a_rSetL,a_append,a_insert,a_rIn,a_din,a_dnotin,a_dput,a_for,a_iList,a_iTup,a_iRng1,a_iZip,a_rRep,a_rCat,cxK,List.getElem?_cons_zero,List.getElem?_cons_succ,List.set_cons_zero,List.set_cons_succ,Option.some.injEq,V.int.injEq,V.ref.injEq,V.bl.injEq,V.str.injEq,V.ty.injEq,List.cons.injEq,exists_eq_left',exists_eq_left,exists_and_left,and_assoc,and_true,true_and,List.append_nil,List.cons_append,List.nil_append,decide_eq_true_eq,decide_true,decide_false,eq_self,reduceIte,if_true,if_false,Bool.false_eq_true,Bool.not_true,Bool.not_false,Int.zero_add,reduceCtorEq,false_and,exists_false,false_or,or_false,a_slS,a_comp,a_emit,a_yes,a_iEnum,a_setd,a_sortK,a_dget1,a_dget2,a_disp,a_pairs0,a_pairs1,a_dget,a_augS,a_rGetL,a_raise,a_isE,a_countB]
            refine ⟨_, (by have := DGet.k (k := Sum.inl h) G.R.at_; rw [hv] at this; exact this), ?_⟩
            try simp only [a_var,a_c,a_op,a_un,a_rI,a_rI0,a_rU,a_rEq,a_rNe,s_ii,s_bb,s_ss,a_test,a_tB,a_and,a_or,a_not,a_andV,a_orV,a_notV,a_if,a_next,a_seq,a_brk,a_cont,a_drop,a_ret,a_retN,a_ifS,a_gName,a_gNil,a_gCons,a_gTup,a_gSub,a_asg,a_par,a_aug,a_ipI,a_nil,a_cons,a_tup,a_lst,a_dnew,a_call,a_cb,a_bm,a_bm0,a_noPart,a_part,a_sl,a_rSlL,a_rIxL,a_rIxT,a_rSetL,a_append,a_insert,a_rIn,a_din,a_dnotin,a_dput,a_for,a_iList,a_iTup,a_iRng1,a_iZip,a_rRep,a_rCat,cxK,List.getElem?_cons_zero,List.getElem?_cons_succ,List.set_cons_zero,List.set_cons_succ,Option.some.injEq,V.int.injEq,V.ref.injEq,V.bl.injEq,V.str.injEq,V.ty.injEq,List.cons.injEq,exists_eq_left',exists_eq_left,exists_and_left,and_assoc,and_true,true_and,List.append_nil,List.cons_append,List.nil_append,decide_eq_true_eq,decide_true,decide_false,eq_self,reduceIte,if_true,if_false,Bool.false_eq_true,Bool.not_true,Bool.not_false,Int.zero_add,reduceCtorEq,false_and,exists_false,false_or,or_false,a_slS,a_comp,a_emit,a_yes,a_iEnum,a_setd,a_sortK,a_dget1,a_dget2,a_disp,a_pairs0,a_pairs1,a_dget,a_augS,a_rGetL,a_raise,a_isE,a_countB]
            refine ⟨(show 1 ≤ sizeLine by decide), fun p0 n0 => ?_⟩
            have sp0 := same_upd (o := .lst [.ref q]) (Same.refl Hi) n0
            have Gp := G.alloc (o := .lst [.ref q]) n0
            have sxp := sx.alloc (o := .lst [.ref q]) n0
            refine ⟨_, sp0 _ _ g1, _, upd_same, by rw [List.length_map]; show qs.length + 1 ≤ sizeLine; omega, fun p1 n1 => ?_⟩
            have sp1 := same_upd (o := .lst (qs.map V.ref ++ [.ref q])) (Same.refl _) n1
            have Gq := Gp.alloc (o := .lst (qs.map V.ref ++ [.ref q])) n1
            have sxq := sxp.alloc (o := .lst (qs.map V.ref ++ [.ref q])) n1
            have hp1 : (upd (upd Hi p0 (.lst [.ref q])) p1 (.lst (qs.map V.ref ++ [.ref q]))) p1 = some (.lst ((qs ++ [q]).map V.ref)) := by rw [upd_same, List.map_append]; rfl
            have s01 := sp0.trans sp1
            have hpr : Paired (SRow (upd (upd Hi p0 (.lst [.ref q])) p1 (.lst (qs.map V.ref ++ [.ref q])))) (qs ++ [q]) (sts ++ [s]) := pairedSnoc (srows_same s01 g2) (s01 _ _ hqp)
            have np1 : p1 ≠ nx := (ne_of_none Gp.nx_ n1).symm
            generalize upd (upd Hi p0 (.lst [.ref q])) p1 (.lst (qs.map V.ref ++ [.ref q])) = H5 at Gq sxq hp1 hpr
            refine ⟨_, DPut.k (k := Sum.inl t) Gq.R.at_ (smallM (by omega)), ?_⟩
            have hLs : Leads rows flows t (sts ++ [s]) z [z] := by
              rw [← c3]
              refine leads_snoc (by rw [c2]; exact g4) c1 (fun q => ?_) (fun x hx e => ?_)
              · have := G.R.st
                rw [← List.mem_singleton.mp q, c3, et] at this
                cases this
              · have := g5 x hx
                rw [e, c3, et] at this
                cases this
            have R6 := Gq.R.add (p := p1) (t := t) hp1 hpr (by rw [List.length_append]; show sts.length + 1 ≤ _; omega) hLs (fun x hx => by
              rcases List.mem_append.mp hx with q | q
              · exact .inr (g5 x q)
              · rw [List.mem_singleton.mp q]; exact .inl c3) ht01.1 ht01.2 et
            have sx6 := sxq.right (o := .dK (putK kvs (Sum.inl t) (.ref p1)))
            have hx6 : (upd H5 d (.dK (putK kvs (Sum.inl t) (.ref p1)))) nx = some (.lst (nxt.map V.int)) := by rw [upd_ne hxd]; exact Gq.nx_
            have ap6 : Apart (putK kvs (Sum.inl t) (.ref p1)) nx := fun y l hy => by
              rw [valV_put] at hy
              by_cases ey : y = t
              · rw [if_pos (by rw [ey])] at hy
                cases hy
                exact np1
              · rw [if_neg (fun q => ey (Sum.inl.inj q))] at hy
                exact G.ap y l hy
            have cnt6 := cntN_put (p := fun y => (valV kvs (Sum.inl y)).isSome) (p' := fun y => (valV (putK kvs (Sum.inl t) (.ref p1)) (Sum.inl y)).isSome) (t := t) (fun y => isSome_put_iff) (by show (valV kvs (Sum.inl t)).isSome = false; rw [et]; rfl) ht01.1 (n := n)
            rw [if_pos ht01.2] at cnt6
            have sxs6 := Gq.sx.right (o := .dK (putK kvs (Sum.inl t) (.ref p1)))
            generalize upd H5 d (.dK (putK kvs (Sum.inl t) (.ref p1))) = H6 at R6 sx6 hx6 sxs6
            refine hN _ _ ?_
            clear hN N
            simp only [a_var,a_c,a_op,a_un,a_rI,a_rI0,a_rU,a_rEq,a_rNe,s_ii,s_bb,s_ss,a_test,a_tB,a_and,a_or,a_not,a_andV,a_orV,a_notV,a_if,a_next,a_seq,a_brk,a_cont,a_drop,a_ret,a_retN,a_ifS,a_gName,a_gNil,a_gCons,a_gTup,a_gSub,a_asg,a_par,a_aug,a_ipI,a_nil,a_cons,a_tup,a_lst,a_dnew,a_call,a_cb,a_bm,a_bm0,a_noPart,a_part,a_sl,a_rSlL,a_rIxL,a_rIxT,a_rSetL,a_append,a_insert,a_rIn,a_din,a_dnotin,a_dput,a_for,a_iList,a_iTup,a_iRng1,a_iZip,a_rRep,a_rCat,cxK,List.getElem?_cons_zero,List.getElem?_cons_succ,List.set_cons_zero,List.set_cons_succ,Option.some.injEq,V.int.injEq,V.ref.injEq,V.bl.injEq,V.str.injEq,V.ty.injEq,List.cons.injEq,exists_eq_left',exists_eq_left,exists_and_left,and_assoc,and_true,true_and,List.append_nil,List.cons_append,List.nil_append,decide_eq_true_eq,decide_true,decide_false,eq_self,reduceIte,if_true,if_false,Bool.false_eq_true,Bool.not_true,Bool.not_false,Int.zero_add,reduceCtorEq,false_and,exists_false,false_or,or_false,a_slS,a_comp,a_emit,a_yes,a_iEnum,a_setd,a_sortK,a_dget1,a_dget2,a_disp,a_pairs0,a_pairs1,a_dget,a_augS,a_rGetL,a_raise,a_isE,a_countB]
            have hct := G.ct
            refine ⟨.inl ⟨rfl, _, SqL.of hx6⟩, _, hx6, smallM (by rw [List.length_map]; omega), ?_⟩
            refine next (putK kvs (Sum.inl t) (.ref p1)) (nxt ++ [t]) _ _ _ ⟨R6.next ap6 hn1 hx6, sxs6.left, by rw [upd_same, List.map_append]; rfl, ap6, fun x hx => isSome_put (G.ls x hx), fun x hx => ?_, fun x hx => ?_, by rw [List.length_append]; show _ + (nxt.length + 1) = _; omega⟩ sx6.left (fun y hy => isSome_put hy) (isSome_put_iff.mpr (.inl rfl))
            · rcases List.mem_append.mp hx with q | q
              · exact isSome_put (G.ns x q)
              · rw [List.mem_singleton.mp q]; exact isSome_put_iff.mpr (.inl rfl)
            · rcases isSome_put_iff.mp hx with q | q
              · rw [q]; exact .inr (.inl (List.mem_append_right _ (List.mem_singleton.mpr rfl)))
              · rcases G.cl x q with q | q | q
                · exact .inl q
                · exact .inr (.inl (List.mem_append_left _ q))
                · exact .inr (.inr q.put)
        · rintro σ Hi ⟨v8, v9, kvs, nxt, rfl, G, sx, hcov⟩
          refine ⟨_, _, _, kvs, nxt, rfl, { G with cl := fun x hx => ?_ }⟩
          rcases G.cl x hx with q | q | q
          · rcases hdr x q with q | q
            · refine .inr (.inr fun s t hst => ?_)
              rw [q] at hst
              refine hcov (s, t) ?_
              rw [List.length_map, hul, List.take_length]
              exact hst
            · exact .inl q
          · exact .inr (.inl q)
          · exact .inr (.inr q)
      · rintro σ H3 ⟨v7, v8, v9, kvs3, nxt, rfl, G⟩
        refine hN _ _ ?_
        clear hN N
        simp only [a_var,a_c,a_op,a_un,a_rI,a_rI0,a_rU,a_rEq,a_rNe,s_ii,s_bb,s_ss,a_test,a_tB,a_and,a_or,a_not,a_andV,a_orV,a_notV,a_if,a_next,a_seq,a_brk,a_cont,a_drop,a_ret,a_retN,a_ifS,a_gName,a_gNil,a_gCons,a_gTup,a_gSub,a_asg,a_par,a_aug,a_ipI,a_nil,a_cons,a_tup,a_lst,a_dnew,a_call,a_cb,a_bm,a_bm0,a_noPart,a_part,a_sl,a_rSlL,a_rIxL,a_rIxT,a_rSetL,a_append,a_insert,a_rIn,a_din,a_dnotin,a_dput,a_for,a_iList,a_iTup,a_iRng1,a_iZip,a_rRep,a_rCat,cxK,List.getElem?_cons_zero,List.getElem?_cons_succ,List.set_cons_zero,List.set_cons_succ,Option.some.injEq,V.int.injEq,V.ref.injEq,V.bl.injEq,V.str.injEq,V.ty.injEq,List.cons.injEq,exists_eq_left',exists_eq_left,exists_and_left,and_assoc,and_true,true_and,List.append_nil,List.cons_append,List.nil_append,decide_eq_true_eq,decide_true,decide_false,eq_self,reduceIte,if_true,if_false,Bool.false_eq_true,Bool.not_true,Bool.not_false,Int.zero_add,reduceCtorEq,false_and,exists_false,false_or,or_false,a_slS,a_comp,a_emit,a_yes,a_iEnum,a_setd,a_sortK,a_dget1,a_dget2,a_disp,a_pairs0,a_pairs1,a_dget,a_augS,a_rGetL,a_raise,a_isE,a_countB]
        refine ⟨_, ?_, _, _, _, _, nx, nxt, kvs3, rfl, G.R, G.nx_, G.ns, fun x hx => ?_, rfl⟩
        · have := G.ct
          omega
        · rcases G.cl x hx with q | q | q
          · rw [List.length_map, List.drop_of_length_le (Nat.le_refl _)] at q; exact nomatch q
          · exact .inl q
          · exact .inr q
    · have hl0 : last = [] := by
        cases last with
        | nil => rfl
        | cons x r => exact absurd (by rw [List.length_map, List.length_cons]; omega) e1
      subst hl0
      refine hN _ _ ?_
      clear hN N
      simp only [a_var,a_c,a_op,a_un,a_rI,a_rI0,a_rU,a_rEq,a_rNe,s_ii,s_bb,s_ss,a_test,a_tB,a_and,a_or,a_not,a_andV,a_orV,a_notV,a_if,a_next,a_seq,a_brk,a_cont,a_drop,a_ret,a_retN,a_ifS,a_gName,a_gNil,a_gCons,a_gTup,a_gSub,a_asg,a_par,a_aug,a_ipI,a_nil,a_cons,a_tup,a_lst,a_dnew,a_call,a_cb,a_bm,a_bm0,a_noPart,a_part,a_sl,a_rSlL,a_rIxL,a_rIxT,a_rSetL,a_append,a_insert,a_rIn,a_din,a_dnotin,a_dput,a_for,a_iList,a_iTup,a_iRng1,a_iZip,a_rRep,a_rCat,cxK,List.getElem?_cons_zero,List.getElem?_cons_succ,List.set_cons_zero,List.set_cons_succ,Option.some.injEq,V.int.injEq,V.ref.injEq,V.bl.injEq,V.str.injEq,V.ty.injEq,List.cons.injEq,exists_eq_left',exists_eq_left,exists_and_left,and_assoc,and_true,true_and,List.append_nil,List.cons_append,List.nil_append,decide_eq_true_eq,decide_true,decide_false,eq_self,reduceIte,if_true,if_false,Bool.false_eq_true,Bool.not_true,Bool.not_false,Int.zero_add,reduceCtorEq,false_and,exists_false,false_or,or_false,a_slS,a_comp,a_emit,a_yes,a_iEnum,a_setd,a_sortK,a_dget1,a_dget2,a_disp,a_pairs0,a_pairs1,a_dget,a_augS,a_rGetL,a_raise,a_isE,a_countB]
      refine k d kvs Hi { R with same := s1.trans R.same, fresh := s1.free R.fresh } fun y => ⟨fun hy => ?_, fun hr => ?_⟩
      · obtain ⟨v, hv⟩ := Option.isSome_iff_exists.mp hy
        obtain ⟨lr, qs, sts, rfl, g1, g2, g3, g4, g5⟩ := R.road y v hv
        exact leads_reach g4 .refl
      · refine reach_closed (S := fun y => (valV kvs (Sum.inl y)).isSome = true) R.st (fun x hx s t hst => ?_) hr
        rcases hcl x hx with q | q
        · exact nomatch q
        · exact q s t hst
end
abbrev s_reached_from : Stmt := top 11
theorem sc_reached_from : FnScope ["count", "pipes", "plan", "station", "roads"] ["count", "pipes", "plan", "station"] (defScope s_reached_from) := ⟨rfl, rfl, rfl, by decide +kernel, rfl, by decide +kernel, by decide +kernel⟩
section
variable {P : Program} {w : World} {K : PySem.W.Frag} {mg : Str → Option Value} {base : Heap}
theorem ok_reached_from {f : Addr} {fd : FuncData} (F : Fun K "reached_from" "reached_from" s_reached_from f fd) (T : Txt K mg) {cF cN cW c1 : Addr} (CL : Cls K mg cF cN cW c1) {f_roads_from : Addr} {fd_roads_from : FuncData} (F_roads_from : FOk P w K mg base "roads_from" 2 ["pipes", "plan", "start"] (spRoads K) f_roads_from fd_roads_from) :
    FnOk P w K mg base CX0 3 f fd ["count", "pipes", "plan", "station"] (spReached K) := by
  refine F.ok sc_reached_from (fun vs H Q E h => ?_) (fun cdv A outer s H vs Q E hr h => ?_)
  · obtain ⟨a, b, ps, rows, flows, n, z, rfl, hNt, hz0, hz1, k⟩ := h
    rfl
  · obtain ⟨a, b, ps, rows, flows, n, z, rfl, hNt, hz0, hz1, k⟩ := h
    have SC := sc_reached_from
    have hu := hu_of hr
    have hu0 := hr.units0
    refine ⟨_, (pss_cons (ps_set (i := 4) SC.nd rfl (Or.inl rfl) (pe_call F_roads_from.G (hr.mono (by decide)) rfl F_roads_from.m F_roads_from.kp F_roads_from.b .nil pass0 (pa_cons (pv 1) (pa_cons (pv 2) (pa_cons (pv 3) pa_nil)))))
  (pss_one (ps_ret (pe_sortK rfl rfl T.z_sorted (pv 4))))), ?_⟩
    rw [show start ["count", "pipes", "plan", "station", "roads"] [V.int n, V.ref a, V.ref b, V.int z] = [some (V.int n), some (V.ref a), some (V.ref b), some (V.int z), none] from rfl]
    have hn63 := hNt.2.2.2.2.2.1
    have hF := hNt.2.2.2.2.2.2.1
    refine seq_step fun N hN => ?_
    simp only [a_var,a_c,a_op,a_un,a_rI,a_rI0,a_rU,a_rEq,a_rNe,s_ii,s_bb,s_ss,a_test,a_tB,a_and,a_or,a_not,a_andV,a_orV,a_notV,a_if,a_next,a_seq,a_brk,a_cont,a_drop,a_ret,a_retN,a_ifS,a_gName,a_gNil,a_gCons,a_gTup,a_gSub,a_asg,a_par,a_aug,a_ipI,a_nil,a_cons,a_tup,a_lst,a_dnew,a_call,a_cb,a_bm,a_bm0,a_noPart,a_part,a_sl,a_rSlL,a_rIxL,a_rIxT,a_rSetL,a_append,a_insert,a_rIn,a_din,a_dnotin,a_dput,a_for,a_iList,a_iTup,a_iRng1,a_iZip,a_rRep,a_rCat,cxK,List.getElem?_cons_zero,List.getElem?_cons_succ,List.set_cons_zero,List.set_cons_succ,Option.some.injEq,V.int.injEq,V.ref.injEq,V.bl.injEq,V.str.injEq,V.ty.injEq,List.cons.injEq,exists_eq_left',exists_eq_left,exists_and_left,and_assoc,and_true,true_and,List.append_nil,List.cons_append,List.nil_append,decide_eq_true_eq,decide_true,decide_false,eq_self,reduceIte,if_true,if_false,Bool.false_eq_true,Bool.not_true,Bool.not_false,Int.zero_add,reduceCtorEq,false_and,exists_false,false_or,or_false,a_slS,a_comp,a_emit,a_yes,a_iEnum,a_setd,a_sortK,a_dget1,a_dget2,a_disp,a_pairs0,a_pairs1,a_dget,a_augS,a_rGetL,a_raise,a_isE,a_countB]
    refine ⟨a, b, ps, rows, flows, n, z, rfl, hNt, hz0, hz1, fun d kvs H1 R hiff => ?_⟩
    refine hN _ _ ?_
    clear hN N
    simp only [a_var,a_c,a_op,a_un,a_rI,a_rI0,a_rU,a_rEq,a_rNe,s_ii,s_bb,s_ss,a_test,a_tB,a_and,a_or,a_not,a_andV,a_orV,a_notV,a_if,a_next,a_seq,a_brk,a_cont,a_drop,a_ret,a_retN,a_ifS,a_gName,a_gNil,a_gCons,a_gTup,a_gSub,a_asg,a_par,a_aug,a_ipI,a_nil,a_cons,a_tup,a_lst,a_dnew,a_call,a_cb,a_bm,a_bm0,a_noPart,a_part,a_sl,a_rSlL,a_rIxL,a_rIxT,a_rSetL,a_append,a_insert,a_rIn,a_din,a_dnotin,a_dput,a_for,a_iList,a_iTup,a_iRng1,a_iZip,a_rRep,a_rCat,cxK,List.getElem?_cons_zero,List.getElem?_cons_succ,List.set_cons_zero,List.set_cons_succ,Option.some.injEq,V.int.injEq,V.ref.injEq,V.bl.injEq,V.str.injEq,V.ty.injEq,List.cons.injEq,exists_eq_left',exists_eq_left,exists_and_left,and_assoc,and_true,true_and,List.append_nil,List.cons_append,List.nil_append,decide_eq_true_eq,decide_true,decide_false,eq_self,reduceIte,if_true,if_false,Bool.false_eq_true,Bool.not_true,Bool.not_false,Int.zero_add,reduceCtorEq,false_and,exists_false,false_or,or_false,a_slS,a_comp,a_emit,a_yes,a_iEnum,a_setd,a_sortK,a_dget1,a_dget2,a_disp,a_pairs0,a_pairs1,a_dget,a_augS,a_rGetL,a_raise,a_isE,a_countB]
    obtain ⟨ks, k1, k2, k3⟩ := R.keys
    have hlk : ks.length = kvs.length := by
      have := congrArg List.length k1
      rw [List.length_map, List.length_map] at this
      exact this.symm
    have hct := R.cnt
    refine ⟨kvs, R.at_, ks, k1, by omega, fun p ms np pm pw => ?_⟩
    have hms : ∀ y : Int, y ∈ ms ↔ Reach rows flows z y := fun y => by rw [pm.mem_iff, k3, hiff]
    have e : ms = lstT n ((List.range n).map fun (k : Nat) => decide ((k : Int) ∈ ms)) := by
      refine rise_eq (lt_of_sorted pw (pm.nodup_iff.mpr k2)) (lstT_rise _ _) fun y => ?_
      rw [lstT_mem]
      constructor
      · intro hy
        obtain ⟨y0, y1⟩ := R.rng y ((k3 y).mp (pm.mem_iff.mp hy))
        exact ⟨y0, y1, (mk_mem ms y0 y1).mpr hy⟩
      · rintro ⟨y0, y1, hy⟩
        exact (mk_mem ms y0 y1).mp hy
    refine k p ((List.range n).map fun (k : Nat) => decide ((k : Int) ∈ ms)) _ (R.same.free np) ?_ (fun y y0 y1 => (mk_mem ms y0 y1).trans (hms y)) (same_upd R.same np)
    rw [← e, upd_same]
end
abbrev s_road_to : Stmt := top 12
theorem sc_road_to : FnScope ["count", "pipes", "plan", "start", "goal", "roads"] ["count", "pipes", "plan", "start", "goal"] (defScope s_road_to) := ⟨rfl, rfl, rfl, by decide +kernel, rfl, by decide +kernel, by decide +kernel⟩
section
variable {P : Program} {w : World} {K : PySem.W.Frag} {mg : Str → Option Value} {base : Heap}
theorem ok_road_to {f : Addr} {fd : FuncData} (F : Fun K "road_to" "road_to" s_road_to f fd) (T : Txt K mg) {cF cN cW c1 : Addr} (CL : Cls K mg cF cN cW c1) {f_roads_from : Addr} {fd_roads_from : FuncData} (F_roads_from : FOk P w K mg base "roads_from" 2 ["pipes", "plan", "start"] (spRoads K) f_roads_from fd_roads_from) :
    FnOk P w K mg base CX0 3 f fd ["count", "pipes", "plan", "start", "goal"] (spRoad K) := by
  refine F.ok sc_road_to (fun vs H Q E h => ?_) (fun cdv A outer s H vs Q E hr h => ?_)
  · obtain ⟨a, b, ps, rows, flows, n, z, g, rfl, hNt, hz0, hz1, hg0, hg1, kn, kr⟩ := h
    rfl
  · obtain ⟨a, b, ps, rows, flows, n, z, g, rfl, hNt, hz0, hz1, hg0, hg1, kn, kr⟩ := h
    have SC := sc_road_to
    have hu := hu_of hr
    have hu0 := hr.units0
    refine ⟨_, (pss_cons (ps_set (i := 5) SC.nd rfl (Or.inl rfl) (pe_call F_roads_from.G (hr.mono (by decide)) rfl F_roads_from.m F_roads_from.kp F_roads_from.b .nil pass0 (pa_cons (pv 1) (pa_cons (pv 2) (pa_cons (pv 3) pa_nil)))))
  (pss_one (ps_ret (pe_dget1 hu (pv 5) (pv 4) ⟨rfl, rfl, rfl, rfl⟩)))), ?_⟩
    rw [show start ["count", "pipes", "plan", "start", "goal", "roads"] [V.int n, V.ref a, V.ref b, V.int z, V.int g] = [some (V.int n), some (V.ref a), some (V.ref b), some (V.int z), some (V.int g), none] from rfl]
    have hn63 := hNt.2.2.2.2.2.1
    refine seq_step fun N hN => ?_
    simp only [a_var,a_c,a_op,a_un,a_rI,a_rI0,a_rU,a_rEq,a_rNe,s_ii,s_bb,s_ss,a_test,a_tB,a_and,a_or,a_not,a_andV,a_orV,a_notV,a_if,a_next,a_seq,a_brk,a_cont,a_drop,a_ret,a_retN,a_ifS,a_gName,a_gNil,a_gCons,a_gTup,a_gSub,a_asg,a_par,a_aug,a_ipI,a_nil,a_cons,a_tup,a_lst,a_dnew,a_call,a_cb,a_bm,a_bm0,a_noPart,a_part,a_sl,a_rSlL,a_rIxL,a_rIxT,a_rSetL,a_append,a_insert,a_rIn,a_din,a_dnotin,a_dput,a_for,a_iList,a_iTup,a_iRng1,a_iZip,a_rRep,a_rCat,cxK,List.getElem?_cons_zero,List.getElem?_cons_succ,List.set_cons_zero,List.set_cons_succ,Option.some.injEq,V.int.injEq,V.ref.injEq,V.bl.injEq,V.str.injEq,V.ty.injEq,List.cons.injEq,exists_eq_left',exists_eq_left,exists_and_left,and_assoc,and_true,true_and,List.append_nil,List.cons_append,List.nil_append,decide_eq_true_eq,decide_true,decide_false,eq_self,reduceIte,if_true,if_false,Bool.false_eq_true,Bool.not_true,Bool.not_false,Int.zero_add,reduceCtorEq,false_and,exists_false,false_or,or_false,a_slS,a_comp,a_emit,a_yes,a_iEnum,a_setd,a_sortK,a_dget1,a_dget2,a_disp,a_pairs0,a_pairs1,a_dget,a_augS,a_rGetL,a_raise,a_isE,a_countB]
    refine ⟨a, b, ps, rows, flows, n, z, rfl, hNt, hz0, hz1, fun d kvs H1 R hiff => ?_⟩
    refine hN _ _ ?_
    clear hN N
    simp only [a_var,a_c,a_op,a_un,a_rI,a_rI0,a_rU,a_rEq,a_rNe,s_ii,s_bb,s_ss,a_test,a_tB,a_and,a_or,a_not,a_andV,a_orV,a_notV,a_if,a_next,a_seq,a_brk,a_cont,a_drop,a_ret,a_retN,a_ifS,a_gName,a_gNil,a_gCons,a_gTup,a_gSub,a_asg,a_par,a_aug,a_ipI,a_nil,a_cons,a_tup,a_lst,a_dnew,a_call,a_cb,a_bm,a_bm0,a_noPart,a_part,a_sl,a_rSlL,a_rIxL,a_rIxT,a_rSetL,a_append,a_insert,a_rIn,a_din,a_dnotin,a_dput,a_for,a_iList,a_iTup,a_iRng1,a_iZip,a_rRep,a_rCat,cxK,List.getElem?_cons_zero,List.getElem?_cons_succ,List.set_cons_zero,List.set_cons_succ,Option.some.injEq,V.int.injEq,V.ref.injEq,V.bl.injEq,V.str.injEq,V.ty.injEq,List.cons.injEq,exists_eq_left',exists_eq_left,exists_and_left,and_assoc,and_true,true_and,List.append_nil,List.cons_append,List.nil_append,decide_eq_true_eq,decide_true,decide_false,eq_self,reduceIte,if_true,if_false,Bool.false_eq_true,Bool.not_true,Bool.not_false,Int.zero_add,reduceCtorEq,false_and,exists_false,false_or,or_false,a_slS,a_comp,a_emit,a_yes,a_iEnum,a_setd,a_sortK,a_dget1,a_dget2,a_disp,a_pairs0,a_pairs1,a_dget,a_augS,a_rGetL,a_raise,a_isE,a_countB]
    refine ⟨.inl ⟨_, .inl R.at_⟩, _, DGet.k (k := Sum.inl g) R.at_, ?_⟩
    have hct := R.cnt
    cases e : valV kvs (Sum.inl g) with
    | none =>
      refine kn H1 R.same fun q => ?_
      have := (hiff g).mpr q
      rw [e] at this
      cases this
    | some v =>
      obtain ⟨l, qs, sts, rfl, g1, g2, g3, g4, g5⟩ := R.road g v e
      exact kr l qs sts H1 g1 g2 (by omega) g4 R.same
end
def IvSent (a b l : Addr) (amt : Int) (sts : List PStep) (fl : List Int) (H : Hp) (i : Nat) (σ : St) (Hi : Hp) : Prop :=
  ∃ v4 v5, σ = [some (.ref a), some (.ref b), some (.int amt), some (.ref l), v4, v5] ∧ Same H Hi ∧ Hi l = some (.lst ((sentL amt (sts.take i) fl).map V.int))
abbrev s_sent_along : Stmt := top 13
theorem sc_sent_along : FnScope ["plan", "steps", "amount", "sent", "number", "way"] ["plan", "steps", "amount"] (defScope s_sent_along) := ⟨rfl, rfl, rfl, by decide +kernel, rfl, by decide +kernel, by decide +kernel⟩
section
variable {P : Program} {w : World} {K : PySem.W.Frag} {mg : Str → Option Value} {base : Heap}
theorem ok_sent_along {f : Addr} {fd : FuncData} (F : Fun K "sent_along" "sent_along" s_sent_along f fd) (T : Txt K mg) {cF cN cW c1 : Addr} (CL : Cls K mg cF cN cW c1)  :
    FnOk P w K mg base CX0 1 f fd ["plan", "steps", "amount"] (spSent K) := by
  refine F.ok sc_sent_along (fun vs H Q E h => ?_) (fun cdv A outer s H vs Q E hr h => ?_)
  · obtain ⟨a, b, fl, qs, sts, amt, rfl, hA, hB, hQ, hlf, hls, hlt, hnd, ha, k⟩ := h
    rfl
  · obtain ⟨a, b, fl, qs, sts, amt, rfl, hA, hB, hQ, hlf, hls, hlt, hnd, ha, k⟩ := h
    have SC := sc_sent_along
    have hu := hu_of hr
    have hu0 := hr.units0
    obtain ⟨t_ALONG, c_ALONG⟩ := T.c_ALONG
    refine ⟨_, (pss_cons (ps_set (i := 3) SC.nd rfl (Or.inl rfl) (pe_callTy call_list_of rfl T.z_list PyProof.Rows.boot_list (pa_cons (pv 0) pa_nil)))
  (pss_cons (ps_for PassesOwn.never rfl (pi_list (pv 1)) (pg_tup rfl (pgs_cons (pg_name (i := 4) SC.nd rfl (Or.inl rfl)) (pgs_cons (pg_name (i := 5) SC.nd rfl (Or.inl rfl)) pgs_nil)))
  (pss_one (ps_if (pt_cmpR op_eq (pv 5) (pe_glob (v := .str "along") rfl c_ALONG ⟨_, rfl⟩) (nomark _))
  (pss_one (ps_augS (pv 3) (pv 4) get_list (pv 2) ip_add set_list))
  (pss_one (ps_augS (pv 3) (pv 4) get_list (pv 2) ip_sub set_list)))))
  (pss_one (ps_ret (pv 3))))), ?_⟩
    rw [show start ["plan", "steps", "amount", "sent", "number", "way"] [V.ref a, V.ref b, V.int amt] = [some (V.ref a), some (V.ref b), some (V.int amt), none, none, none] from rfl]
    refine seq_step fun N hN => ?_
    simp only [a_var,a_c,a_op,a_un,a_rI,a_rI0,a_rU,a_rEq,a_rNe,s_ii,s_bb,s_ss,a_test,a_tB,a_and,a_or,a_not,a_andV,a_orV,a_notV,a_if,a_next,a_seq,a_brk,a_cont,a_drop,a_ret,a_retN,a_ifS,a_gName,a_gNil,a_gCons,a_gTup,a_gSub,a_asg,a_par,a_aug,a_ipI,a_nil,a_cons,a_tup,a_lst,a_dnew,a_call,a_cb,a_bm,a_bm0,a_noPart,a_part,a_sl,a_rSlL,a_rIxL,a_rIxT,a_rSetL,a_append,a_insert,a_rIn,a_din,a_dnotin,a_dput,a_for,a_iList,a_iTup,a_iRng1,a_iZip,a_rRep,a_rCat,cxK,List.getElem?_cons_zero,List.getElem?_cons_succ,List.set_cons_zero,List.set_cons_succ,Option.some.injEq,V.int.injEq,V.ref.injEq,V.bl.injEq,V.str.injEq,V.ty.injEq,List.cons.injEq,exists_eq_left',exists_eq_left,exists_and_left,and_assoc,and_true,true_and,List.append_nil,List.cons_append,List.nil_append,decide_eq_true_eq,decide_true,decide_false,eq_self,reduceIte,if_true,if_false,Bool.false_eq_true,Bool.not_true,Bool.not_false,Int.zero_add,reduceCtorEq,false_and,exists_false,false_or,or_false,a_slS,a_comp,a_emit,a_yes,a_iEnum,a_setd,a_sortK,a_dget1,a_dget2,a_disp,a_pairs0,a_pairs1,a_dget,a_augS,a_rGetL,a_raise,a_isE,a_countB]
    refine ⟨_, .inl hA, fun l nl => ?_⟩
    refine hN _ _ ?_
    clear hN N
    refine seq_step fun N hN => ?_
    have s1 := same_upd (o := .lst (fl.map V.int)) (Same.refl H) nl
    simp only [a_for, a_iList, a_var, cxK, List.getElem?_cons_zero, List.getElem?_cons_succ, Option.some.injEq, V.ref.injEq, exists_eq_left', exists_eq_left]
    refine ⟨⟨_, s1.seq hB⟩, ?_⟩
    refine ForOk.list (xs := qs.map V.ref) (IvSent a b l amt sts fl H) ⟨_, _, rfl, s1, upd_same⟩ (fun i σ Hi _ ⟨_, _, _, s, _⟩ => s.seq hB) ?_ ?_
    · rintro i x σ Hi hx ⟨v4, v5, rfl, sH, hL⟩
      have hi : i < qs.length := by
        have q := (List.getElem?_eq_some_iff.mp hx).1
        rw [List.length_map] at q; exact q
      obtain ⟨q, hq⟩ : ∃ q, qs[i]? = some q := ⟨qs[i], List.getElem?_eq_getElem hi⟩
      rw [List.getElem?_map, hq] at hx
      cases hx
      obtain ⟨⟨j, al⟩, hs', h2⟩ := pairedAt hQ hq
      have h2' : Hi q = some (.tup [.int j, .str (way al)]) := sH _ _ h2
      have hj : j < fl.length := hlt _ (List.mem_of_getElem? hs')
      have hln : (sentL amt (sts.take i) fl).length = fl.length := sentL_len _ _ _
      have hget : ((sentL amt (sts.take i) fl).map V.int)[(j : Int).toNat]? = some (.int ((sentL amt (sts.take i) fl).getD j 0)) := getMapInt (by omega)
      have hix : ixN ((sentL amt (sts.take i) fl).map V.int).length (j : Int) = some j := by
        rw [List.length_map, hln, ixIn (by omega) (by omega)]
        rfl
      have e := sentL_snoc amt (j, al) (sts.take i) fl
      rw [← take_snoc hs'] at e
      simp only [a_gTup,a_gCons,a_gNil,a_gName,cxK,Option.some.injEq,V.int.injEq,V.ref.injEq,List.cons.injEq,exists_eq_left',exists_eq_left,exists_and_left,and_assoc,and_true,true_and,eq_self,List.set_cons_zero,List.set_cons_succ]
      refine ⟨_, SqT.of h2', rfl, ?_⟩
      simp only [a_gTup,a_gCons,a_gNil,a_gName,cxK,Option.some.injEq,V.int.injEq,V.ref.injEq,List.cons.injEq,exists_eq_left',exists_eq_left,exists_and_left,and_assoc,and_true,true_and,eq_self,List.set_cons_zero,List.set_cons_succ]
      cases al with
      | true =>
        rw [way_t]
        simp only [a_var,a_c,a_op,a_un,a_rI,a_rI0,a_rU,a_rEq,a_rNe,s_ii,s_bb,s_ss,a_test,a_tB,a_and,a_or,a_not,a_andV,a_orV,a_notV,a_if,a_next,a_seq,a_brk,a_cont,a_drop,a_ret,a_retN,a_ifS,a_gName,a_gNil,a_gCons,a_gTup,a_gSub,a_asg,a_par,a_aug,a_ipI,a_nil,a_cons,a_tup,a_lst,a_dnew,a_call,a_cb,a_bm,a_bm0,a_noPart,a_part,a_sl,a_rSlL,a_rIxL,a_rIxT,a_rSetL,a_append,a_insert,a_rIn,a_din,a_dnotin,a_dput,a_for,a_iList,a_iTup,a_iRng1,a_iZip,a_rRep,a_rCat,cxK,List.getElem?_cons_zero,List.getElem?_cons_succ,List.set_cons_zero,List.set_cons_succ,Option.some.injEq,V.int.injEq,V.ref.injEq,V.bl.injEq,V.str.injEq,V.ty.injEq,List.cons.injEq,exists_eq_left',exists_eq_left,exists_and_left,and_assoc,and_true,true_and,List.append_nil,List.cons_append,List.nil_append,decide_eq_true_eq,decide_true,decide_false,eq_self,reduceIte,if_true,if_false,Bool.false_eq_true,Bool.not_true,Bool.not_false,Int.zero_add,reduceCtorEq,false_and,exists_false,false_or,or_false,a_slS,a_comp,a_emit,a_yes,a_iEnum,a_setd,a_sortK,a_dget1,a_dget2,a_disp,a_pairs0,a_pairs1,a_dget,a_augS,a_rGetL,a_raise,a_isE,a_countB]
        refine ⟨_, SqL.of hL, by omega, _, hget, ?_⟩
        simp only [a_var,a_c,a_op,a_un,a_rI,a_rI0,a_rU,a_rEq,a_rNe,s_ii,s_bb,s_ss,a_test,a_tB,a_and,a_or,a_not,a_andV,a_orV,a_notV,a_if,a_next,a_seq,a_brk,a_cont,a_drop,a_ret,a_retN,a_ifS,a_gName,a_gNil,a_gCons,a_gTup,a_gSub,a_asg,a_par,a_aug,a_ipI,a_nil,a_cons,a_tup,a_lst,a_dnew,a_call,a_cb,a_bm,a_bm0,a_noPart,a_part,a_sl,a_rSlL,a_rIxL,a_rIxT,a_rSetL,a_append,a_insert,a_rIn,a_din,a_dnotin,a_dput,a_for,a_iList,a_iTup,a_iRng1,a_iZip,a_rRep,a_rCat,cxK,List.getElem?_cons_zero,List.getElem?_cons_succ,List.set_cons_zero,List.set_cons_succ,Option.some.injEq,V.int.injEq,V.ref.injEq,V.bl.injEq,V.str.injEq,V.ty.injEq,List.cons.injEq,exists_eq_left',exists_eq_left,exists_and_left,and_assoc,and_true,true_and,List.append_nil,List.cons_append,List.nil_append,decide_eq_true_eq,decide_true,decide_false,eq_self,reduceIte,if_true,if_false,Bool.false_eq_true,Bool.not_true,Bool.not_false,Int.zero_add,reduceCtorEq,false_and,exists_false,false_or,or_false,a_slS,a_comp,a_emit,a_yes,a_iEnum,a_setd,a_sortK,a_dget1,a_dget2,a_disp,a_pairs0,a_pairs1,a_dget,a_augS,a_rGetL,a_raise,a_isE,a_countB]
        refine ⟨_, hL, _, hix, ?_⟩
        refine ⟨_, _, rfl, same_upd' sH (nl), ?_⟩
        rw [upd_same, e, List.map_set]
        rfl
      | false =>
        rw [way_f]
        simp only [a_var,a_c,a_op,a_un,a_rI,a_rI0,a_rU,a_rEq,a_rNe,s_ii,s_bb,s_ss,a_test,a_tB,a_and,a_or,a_not,a_andV,a_orV,a_notV,a_if,a_next,a_seq,a_brk,a_cont,a_drop,a_ret,a_retN,a_ifS,a_gName,a_gNil,a_gCons,a_gTup,a_gSub,a_asg,a_par,a_aug,a_ipI,a_nil,a_cons,a_tup,a_lst,a_dnew,a_call,a_cb,a_bm,a_bm0,a_noPart,a_part,a_sl,a_rSlL,a_rIxL,a_rIxT,a_rSetL,a_append,a_insert,a_rIn,a_din,a_dnotin,a_dput,a_for,a_iList,a_iTup,a_iRng1,a_iZip,a_rRep,a_rCat,cxK,List.getElem?_cons_zero,List.getElem?_cons_succ,List.set_cons_zero,List.set_cons_succ,Option.some.injEq,V.int.injEq,V.ref.injEq,V.bl.injEq,V.str.injEq,V.ty.injEq,List.cons.injEq,exists_eq_left',exists_eq_left,exists_and_left,and_assoc,and_true,true_and,List.append_nil,List.cons_append,List.nil_append,decide_eq_true_eq,decide_true,decide_false,eq_self,reduceIte,if_true,if_false,Bool.false_eq_true,Bool.not_true,Bool.not_false,Int.zero_add,reduceCtorEq,false_and,exists_false,false_or,or_false,a_slS,a_comp,a_emit,a_yes,a_iEnum,a_setd,a_sortK,a_dget1,a_dget2,a_disp,a_pairs0,a_pairs1,a_dget,a_augS,a_rGetL,a_raise,a_isE,a_countB,way_ne]
        refine ⟨_, SqL.of hL, by omega, _, hget, ?_⟩
        simp only [a_var,a_c,a_op,a_un,a_rI,a_rI0,a_rU,a_rEq,a_rNe,s_ii,s_bb,s_ss,a_test,a_tB,a_and,a_or,a_not,a_andV,a_orV,a_notV,a_if,a_next,a_seq,a_brk,a_cont,a_drop,a_ret,a_retN,a_ifS,a_gName,a_gNil,a_gCons,a_gTup,a_gSub,a_asg,a_par,a_aug,a_ipI,a_nil,a_cons,a_tup,a_lst,a_dnew,a_call,a_cb,a_bm,a_bm0,a_noPart,a_part,a_sl,a_rSlL,a_rIxL,a_rIxT,a_rSetL,a_append,a_insert,a_rIn,a_din,a_dnotin,a_dput,a_for,a_iList,a_iTup,a_iRng1,a_iZip,a_rRep,a_rCat,cxK,List.getElem?_cons_zero,List.getElem?_cons_succ,List.set_cons_zero,List.set_cons_succ,Option.some.injEq,V.int.injEq,V.ref.injEq,V.bl.injEq,V.str.injEq,V.ty.injEq,List.cons.injEq,exists_eq_left',exists_eq_left,exists_and_left,and_assoc,and_true,true_and,List.append_nil,List.cons_append,List.nil_append,decide_eq_true_eq,decide_true,decide_false,eq_self,reduceIte,if_true,if_false,Bool.false_eq_true,Bool.not_true,Bool.not_false,Int.zero_add,reduceCtorEq,false_and,exists_false,false_or,or_false,a_slS,a_comp,a_emit,a_yes,a_iEnum,a_setd,a_sortK,a_dget1,a_dget2,a_disp,a_pairs0,a_pairs1,a_dget,a_augS,a_rGetL,a_raise,a_isE,a_countB]
        refine ⟨_, hL, _, hix, ?_⟩
        refine ⟨_, _, rfl, same_upd' sH (nl), ?_⟩
        rw [upd_same, e, List.map_set]
        rfl
    · rintro σ Hi ⟨v4, v5, rfl, sH, hL⟩
      refine hN _ _ ?_
      clear hN N
      simp only [a_var,a_c,a_op,a_un,a_rI,a_rI0,a_rU,a_rEq,a_rNe,s_ii,s_bb,s_ss,a_test,a_tB,a_and,a_or,a_not,a_andV,a_orV,a_notV,a_if,a_next,a_seq,a_brk,a_cont,a_drop,a_ret,a_retN,a_ifS,a_gName,a_gNil,a_gCons,a_gTup,a_gSub,a_asg,a_par,a_aug,a_ipI,a_nil,a_cons,a_tup,a_lst,a_dnew,a_call,a_cb,a_bm,a_bm0,a_noPart,a_part,a_sl,a_rSlL,a_rIxL,a_rIxT,a_rSetL,a_append,a_insert,a_rIn,a_din,a_dnotin,a_dput,a_for,a_iList,a_iTup,a_iRng1,a_iZip,a_rRep,a_rCat,cxK,List.getElem?_cons_zero,List.getElem?_cons_succ,List.set_cons_zero,List.set_cons_succ,Option.some.injEq,V.int.injEq,V.ref.injEq,V.bl.injEq,V.str.injEq,V.ty.injEq,List.cons.injEq,exists_eq_left',exists_eq_left,exists_and_left,and_assoc,and_true,true_and,List.append_nil,List.cons_append,List.nil_append,decide_eq_true_eq,decide_true,decide_false,eq_self,reduceIte,if_true,if_false,Bool.false_eq_true,Bool.not_true,Bool.not_false,Int.zero_add,reduceCtorEq,false_and,exists_false,false_or,or_false,a_slS,a_comp,a_emit,a_yes,a_iEnum,a_setd,a_sortK,a_dget1,a_dget2,a_disp,a_pairs0,a_pairs1,a_dget,a_augS,a_rGetL,a_raise,a_isE,a_countB]
      rw [List.length_map, Paired.length hQ, List.take_length] at hL
      exact k l Hi (nl) hL sH
end
def IvRoom (a b f l : Addr) (rows : List Pipe) (flows : List Int) (sts : List PStep) (H : Hp) (i : Nat) (σ : St) (Hi : Hp) : Prop :=
  ∃ v4 v5, σ = [some (.ref a), some (.ref b), some (.ref f), some (.ref l), v4, v5] ∧ Same H Hi ∧ Hi l = some (.lst (((sts.take i).map (roomS rows flows)).map V.int))
abbrev s_room_along : Stmt := top 19
theorem sc_room_along : FnScope ["pipes", "plan", "road", "rooms", "number", "way"] ["pipes", "plan", "road"] (defScope s_room_along) := ⟨rfl, rfl, rfl, by decide +kernel, rfl, by decide +kernel, by decide +kernel⟩
section
variable {P : Program} {w : World} {K : PySem.W.Frag} {mg : Str → Option Value} {base : Heap}
theorem ok_room_along {f : Addr} {fd : FuncData} (F : Fun K "room_along" "room_along" s_room_along f fd) (T : Txt K mg) {cF cN cW c1 : Addr} (CL : Cls K mg cF cN cW c1)  :
    FnOk P w K mg base CX0 1 f fd ["pipes", "plan", "road"] (spRoom K) := by
  refine F.ok sc_room_along (fun vs H Q E h => ?_) (fun cdv A outer s H vs Q E hr h => ?_)
  · obtain ⟨a, b, f, ps, rows, flows, qs, sts, rfl, hA, hB, hP, hl, hf, hQ, hls, hpos, hlt, k⟩ := h
    rfl
  · obtain ⟨a, b, f, ps, rows, flows, qs, sts, rfl, hA, hB, hP, hl, hf, hQ, hls, hpos, hlt, k⟩ := h
    have SC := sc_room_along
    have hu := hu_of hr
    have hu0 := hr.units0
    obtain ⟨t_ALONG, c_ALONG⟩ := T.c_ALONG
    obtain ⟨t_WIDTH, c_WIDTH⟩ := T.c_WIDTH
    refine ⟨_, (pss_cons (ps_set (i := 3) SC.nd rfl (Or.inl rfl) (pe_lst pa_nil))
  (pss_cons (ps_for PassesOwn.never rfl (pi_list (pv 2)) (pg_tup rfl (pgs_cons (pg_name (i := 4) SC.nd rfl (Or.inl rfl)) (pgs_cons (pg_name (i := 5) SC.nd rfl (Or.inl rfl)) pgs_nil)))
  (pss_one (ps_if (pt_cmpR op_eq (pv 5) (pe_glob (v := .str "along") rfl c_ALONG ⟨_, rfl⟩) (nomark _))
  (pss_one (ps_expr (pe_bm PySem.F.plainAttrs_list PySem.F.slot_list_append PySem.F.type_list_append mt_append (pv 3) (pa_cons (pe_op op_sub (pe_ix ix_tup (pe_ix ix_list (pv 0) (pv 4) (fun _ _ => rfl)) (pe_glob (v := .int 2) rfl c_WIDTH ⟨_, rfl⟩) (fun _ _ => rfl)) (pe_ix ix_list (pv 1) (pv 4) (fun _ _ => rfl))) pa_nil))))
  (pss_one (ps_expr (pe_bm PySem.F.plainAttrs_list PySem.F.slot_list_append PySem.F.type_list_append mt_append (pv 3) (pa_cons (pe_ix ix_list (pv 1) (pv 4) (fun _ _ => rfl)) pa_nil)))))))
  (pss_one (ps_ret (pe_callB (call_min_list rfl) rfl T.z_min PyProof.Rows.boot_min (pa_cons (pv 3) pa_nil)))))), ?_⟩
    rw [show start ["pipes", "plan", "road", "rooms", "number", "way"] [V.ref a, V.ref b, V.ref f] = [some (V.ref a), some (V.ref b), some (V.ref f), none, none, none] from rfl]
    refine seq_step fun N hN => ?_
    simp only [a_var,a_c,a_op,a_un,a_rI,a_rI0,a_rU,a_rEq,a_rNe,s_ii,s_bb,s_ss,a_test,a_tB,a_and,a_or,a_not,a_andV,a_orV,a_notV,a_if,a_next,a_seq,a_brk,a_cont,a_drop,a_ret,a_retN,a_ifS,a_gName,a_gNil,a_gCons,a_gTup,a_gSub,a_asg,a_par,a_aug,a_ipI,a_nil,a_cons,a_tup,a_lst,a_dnew,a_call,a_cb,a_bm,a_bm0,a_noPart,a_part,a_sl,a_rSlL,a_rIxL,a_rIxT,a_rSetL,a_append,a_insert,a_rIn,a_din,a_dnotin,a_dput,a_for,a_iList,a_iTup,a_iRng1,a_iZip,a_rRep,a_rCat,cxK,List.getElem?_cons_zero,List.getElem?_cons_succ,List.set_cons_zero,List.set_cons_succ,Option.some.injEq,V.int.injEq,V.ref.injEq,V.bl.injEq,V.str.injEq,V.ty.injEq,List.cons.injEq,exists_eq_left',exists_eq_left,exists_and_left,and_assoc,and_true,true_and,List.append_nil,List.cons_append,List.nil_append,decide_eq_true_eq,decide_true,decide_false,eq_self,reduceIte,if_true,if_false,Bool.false_eq_true,Bool.not_true,Bool.not_false,Int.zero_add,reduceCtorEq,false_and,exists_false,false_or,or_false,a_slS,a_comp,a_emit,a_yes,a_iEnum,a_setd,a_sortK,a_dget1,a_dget2,a_disp,a_pairs0,a_pairs1,a_dget,a_augS,a_rGetL,a_raise,a_isE,a_countB]
    refine ⟨Nat.zero_le _, fun l nl => ?_⟩
    refine hN _ _ ?_
    clear hN N
    refine seq_step fun N hN => ?_
    have s1 := same_upd (o := .lst []) (Same.refl H) nl
    simp only [a_for, a_iList, a_var, cxK, List.getElem?_cons_zero, List.getElem?_cons_succ, Option.some.injEq, V.ref.injEq, exists_eq_left', exists_eq_left]
    refine ⟨⟨_, s1.seq hf⟩, ?_⟩
    refine ForOk.list (xs := qs.map V.ref) (IvRoom a b f l rows flows sts H) ⟨_, _, rfl, s1, upd_same⟩ (fun i σ Hi _ ⟨_, _, _, s, _⟩ => s.seq hf) ?_ ?_
    · rintro i x σ Hi hx ⟨v4, v5, rfl, sH, hL⟩
      have hi : i < qs.length := by
        have q := (List.getElem?_eq_some_iff.mp hx).1
        rw [List.length_map] at q; exact q
      obtain ⟨q, hq⟩ : ∃ q, qs[i]? = some q := ⟨qs[i], List.getElem?_eq_getElem hi⟩
      rw [List.getElem?_map, hq] at hx
      cases hx
      obtain ⟨⟨j, al⟩, hs', h2⟩ := pairedAt hQ hq
      have h2' : Hi q = some (.tup [.int j, .str (way al)]) := sH _ _ h2
      have hj : j < rows.length := hlt _ (List.mem_of_getElem? hs')
      have hlp := Paired.length hP
      have hlq := Paired.length hQ
      obtain ⟨p, hp⟩ : ∃ p, ps[j]? = some p := ⟨ps[j], List.getElem?_eq_getElem (by omega)⟩
      obtain ⟨r, hr', h3⟩ := pairedAt hP hp
      have er : rows.getD j (0, 0, 0) = r := getD_of hr'
      have hsm : (((sts.take i).map (roomS rows flows)).map V.int).length < sizeLine := smallM (by rw [List.length_map, List.length_map, List.length_take]; omega)
      have fin : ∀ (M : Int) (w4 w5 : Option V), M = roomS rows flows (j, al) → IvRoom a b f l rows flows sts H (i + 1) [some (.ref a), some (.ref b), some (.ref f), some (.ref l), w4, w5] (upd Hi l (.lst (((sts.take i).map (roomS rows flows)).map V.int ++ [.int M]))) := fun M w4 w5 e => by
        refine ⟨_, _, rfl, same_upd' sH (nl), ?_⟩
        rw [upd_same, take_snoc hs', List.map_append, List.map_append, e]
        rfl
      simp only [a_gTup,a_gCons,a_gNil,a_gName,cxK,Option.some.injEq,V.int.injEq,V.ref.injEq,List.cons.injEq,exists_eq_left',exists_eq_left,exists_and_left,and_assoc,and_true,true_and,eq_self,List.set_cons_zero,List.set_cons_succ]
      refine ⟨_, SqT.of h2', rfl, ?_⟩
      simp only [a_gTup,a_gCons,a_gNil,a_gName,cxK,Option.some.injEq,V.int.injEq,V.ref.injEq,List.cons.injEq,exists_eq_left',exists_eq_left,exists_and_left,and_assoc,and_true,true_and,eq_self,List.set_cons_zero,List.set_cons_succ]
      cases al with
      | true =>
        rw [way_t]
        simp only [a_var,a_c,a_op,a_un,a_rI,a_rI0,a_rU,a_rEq,a_rNe,s_ii,s_bb,s_ss,a_test,a_tB,a_and,a_or,a_not,a_andV,a_orV,a_notV,a_if,a_next,a_seq,a_brk,a_cont,a_drop,a_ret,a_retN,a_ifS,a_gName,a_gNil,a_gCons,a_gTup,a_gSub,a_asg,a_par,a_aug,a_ipI,a_nil,a_cons,a_tup,a_lst,a_dnew,a_call,a_cb,a_bm,a_bm0,a_noPart,a_part,a_sl,a_rSlL,a_rIxL,a_rIxT,a_rSetL,a_append,a_insert,a_rIn,a_din,a_dnotin,a_dput,a_for,a_iList,a_iTup,a_iRng1,a_iZip,a_rRep,a_rCat,cxK,List.getElem?_cons_zero,List.getElem?_cons_succ,List.set_cons_zero,List.set_cons_succ,Option.some.injEq,V.int.injEq,V.ref.injEq,V.bl.injEq,V.str.injEq,V.ty.injEq,List.cons.injEq,exists_eq_left',exists_eq_left,exists_and_left,and_assoc,and_true,true_and,List.append_nil,List.cons_append,List.nil_append,decide_eq_true_eq,decide_true,decide_false,eq_self,reduceIte,if_true,if_false,Bool.false_eq_true,Bool.not_true,Bool.not_false,Int.zero_add,reduceCtorEq,false_and,exists_false,false_or,or_false,a_slS,a_comp,a_emit,a_yes,a_iEnum,a_setd,a_sortK,a_dget1,a_dget2,a_disp,a_pairs0,a_pairs1,a_dget,a_augS,a_rGetL,a_raise,a_isE,a_countB]
        refine ⟨.inl ⟨rfl, _, SqL.of hL⟩, _, sH.seq hA, _, atMapRef hp, ?_⟩
        simp only [a_var,a_c,a_op,a_un,a_rI,a_rI0,a_rU,a_rEq,a_rNe,s_ii,s_bb,s_ss,a_test,a_tB,a_and,a_or,a_not,a_andV,a_orV,a_notV,a_if,a_next,a_seq,a_brk,a_cont,a_drop,a_ret,a_retN,a_ifS,a_gName,a_gNil,a_gCons,a_gTup,a_gSub,a_asg,a_par,a_aug,a_ipI,a_nil,a_cons,a_tup,a_lst,a_dnew,a_call,a_cb,a_bm,a_bm0,a_noPart,a_part,a_sl,a_rSlL,a_rIxL,a_rIxT,a_rSetL,a_append,a_insert,a_rIn,a_din,a_dnotin,a_dput,a_for,a_iList,a_iTup,a_iRng1,a_iZip,a_rRep,a_rCat,cxK,List.getElem?_cons_zero,List.getElem?_cons_succ,List.set_cons_zero,List.set_cons_succ,Option.some.injEq,V.int.injEq,V.ref.injEq,V.bl.injEq,V.str.injEq,V.ty.injEq,List.cons.injEq,exists_eq_left',exists_eq_left,exists_and_left,and_assoc,and_true,true_and,List.append_nil,List.cons_append,List.nil_append,decide_eq_true_eq,decide_true,decide_false,eq_self,reduceIte,if_true,if_false,Bool.false_eq_true,Bool.not_true,Bool.not_false,Int.zero_add,reduceCtorEq,false_and,exists_false,false_or,or_false,a_slS,a_comp,a_emit,a_yes,a_iEnum,a_setd,a_sortK,a_dget1,a_dget2,a_disp,a_pairs0,a_pairs1,a_dget,a_augS,a_rGetL,a_raise,a_isE,a_countB]
        refine ⟨_, SqT.of (sH _ _ h3), _, rfl, ?_⟩
        simp only [a_var,a_c,a_op,a_un,a_rI,a_rI0,a_rU,a_rEq,a_rNe,s_ii,s_bb,s_ss,a_test,a_tB,a_and,a_or,a_not,a_andV,a_orV,a_notV,a_if,a_next,a_seq,a_brk,a_cont,a_drop,a_ret,a_retN,a_ifS,a_gName,a_gNil,a_gCons,a_gTup,a_gSub,a_asg,a_par,a_aug,a_ipI,a_nil,a_cons,a_tup,a_lst,a_dnew,a_call,a_cb,a_bm,a_bm0,a_noPart,a_part,a_sl,a_rSlL,a_rIxL,a_rIxT,a_rSetL,a_append,a_insert,a_rIn,a_din,a_dnotin,a_dput,a_for,a_iList,a_iTup,a_iRng1,a_iZip,a_rRep,a_rCat,cxK,List.getElem?_cons_zero,List.getElem?_cons_succ,List.set_cons_zero,List.set_cons_succ,Option.some.injEq,V.int.injEq,V.ref.injEq,V.bl.injEq,V.str.injEq,V.ty.injEq,List.cons.injEq,exists_eq_left',exists_eq_left,exists_and_left,and_assoc,and_true,true_and,List.append_nil,List.cons_append,List.nil_append,decide_eq_true_eq,decide_true,decide_false,eq_self,reduceIte,if_true,if_false,Bool.false_eq_true,Bool.not_true,Bool.not_false,Int.zero_add,reduceCtorEq,false_and,exists_false,false_or,or_false,a_slS,a_comp,a_emit,a_yes,a_iEnum,a_setd,a_sortK,a_dget1,a_dget2,a_disp,a_pairs0,a_pairs1,a_dget,a_augS,a_rGetL,a_raise,a_isE,a_countB]
        refine ⟨_, sH.seq hB, _, atMapInt (by omega), ?_⟩
        simp only [a_var,a_c,a_op,a_un,a_rI,a_rI0,a_rU,a_rEq,a_rNe,s_ii,s_bb,s_ss,a_test,a_tB,a_and,a_or,a_not,a_andV,a_orV,a_notV,a_if,a_next,a_seq,a_brk,a_cont,a_drop,a_ret,a_retN,a_ifS,a_gName,a_gNil,a_gCons,a_gTup,a_gSub,a_asg,a_par,a_aug,a_ipI,a_nil,a_cons,a_tup,a_lst,a_dnew,a_call,a_cb,a_bm,a_bm0,a_noPart,a_part,a_sl,a_rSlL,a_rIxL,a_rIxT,a_rSetL,a_append,a_insert,a_rIn,a_din,a_dnotin,a_dput,a_for,a_iList,a_iTup,a_iRng1,a_iZip,a_rRep,a_rCat,cxK,List.getElem?_cons_zero,List.getElem?_cons_succ,List.set_cons_zero,List.set_cons_succ,Option.some.injEq,V.int.injEq,V.ref.injEq,V.bl.injEq,V.str.injEq,V.ty.injEq,List.cons.injEq,exists_eq_left',exists_eq_left,exists_and_left,and_assoc,and_true,true_and,List.append_nil,List.cons_append,List.nil_append,decide_eq_true_eq,decide_true,decide_false,eq_self,reduceIte,if_true,if_false,Bool.false_eq_true,Bool.not_true,Bool.not_false,Int.zero_add,reduceCtorEq,false_and,exists_false,false_or,or_false,a_slS,a_comp,a_emit,a_yes,a_iEnum,a_setd,a_sortK,a_dget1,a_dget2,a_disp,a_pairs0,a_pairs1,a_dget,a_augS,a_rGetL,a_raise,a_isE,a_countB]
        refine ⟨_, hL, hsm, fin _ _ _ ?_⟩
        unfold roomS
        rw [if_pos rfl, er]
      | false =>
        rw [way_f]
        simp only [a_var,a_c,a_op,a_un,a_rI,a_rI0,a_rU,a_rEq,a_rNe,s_ii,s_bb,s_ss,a_test,a_tB,a_and,a_or,a_not,a_andV,a_orV,a_notV,a_if,a_next,a_seq,a_brk,a_cont,a_drop,a_ret,a_retN,a_ifS,a_gName,a_gNil,a_gCons,a_gTup,a_gSub,a_asg,a_par,a_aug,a_ipI,a_nil,a_cons,a_tup,a_lst,a_dnew,a_call,a_cb,a_bm,a_bm0,a_noPart,a_part,a_sl,a_rSlL,a_rIxL,a_rIxT,a_rSetL,a_append,a_insert,a_rIn,a_din,a_dnotin,a_dput,a_for,a_iList,a_iTup,a_iRng1,a_iZip,a_rRep,a_rCat,cxK,List.getElem?_cons_zero,List.getElem?_cons_succ,List.set_cons_zero,List.set_cons_succ,Option.some.injEq,V.int.injEq,V.ref.injEq,V.bl.injEq,V.str.injEq,V.ty.injEq,List.cons.injEq,exists_eq_left',exists_eq_left,exists_and_left,and_assoc,and_true,true_and,List.append_nil,List.cons_append,List.nil_append,decide_eq_true_eq,decide_true,decide_false,eq_self,reduceIte,if_true,if_false,Bool.false_eq_true,Bool.not_true,Bool.not_false,Int.zero_add,reduceCtorEq,false_and,exists_false,false_or,or_false,a_slS,a_comp,a_emit,a_yes,a_iEnum,a_setd,a_sortK,a_dget1,a_dget2,a_disp,a_pairs0,a_pairs1,a_dget,a_augS,a_rGetL,a_raise,a_isE,a_countB,way_ne]
        refine ⟨.inl ⟨rfl, _, SqL.of hL⟩, _, sH.seq hB, _, atMapInt (by omega), ?_⟩
        try simp only [a_var,a_c,a_op,a_un,a_rI,a_rI0,a_rU,a_rEq,a_rNe,s_ii,s_bb,s_ss,a_test,a_tB,a_and,a_or,a_not,a_andV,a_orV,a_notV,a_if,a_next,a_seq,a_brk,a_cont,a_drop,a_ret,a_retN,a_ifS,a_gName,a_gNil,a_gCons,a_gTup,a_gSub,a_asg,a_par,a_aug,a_ipI,a_nil,a_cons,a_tup,a_lst,a_dnew,a_call,a_cb,a_bm,a_bm0,a_noPart,a_part,a_sl,a_rSlL,a_rIxL,a_rIxT,a_rSetL,a_append,a_insert,a_rIn,a_din,a_dnotin,a_dput,a_for,a_iList,a_iTup,a_iRng1,a_iZip,a_rRep,a_rCat,cxK,List.getElem?_cons_zero,List.getElem?_cons_succ,List.set_cons_zero,List.set_cons_succ,Option.some.injEq,V.int.injEq,V.ref.injEq,V.bl.injEq,V.str.injEq,V.ty.injEq,List.cons.injEq,exists_eq_left',exists_eq_left,exists_and_left,and_assoc,and_true,true_and,List.append_nil,List.cons_append,List.nil_append,decide_eq_true_eq,decide_true,decide_false,eq_self,reduceIte,if_true,if_false,Bool.false_eq_true,Bool.not_true,Bool.not_false,Int.zero_add,reduceCtorEq,false_and,exists_false,false_or,or_false,a_slS,a_comp,a_emit,a_yes,a_iEnum,a_setd,a_sortK,a_dget1,a_dget2,a_disp,a_pairs0,a_pairs1,a_dget,a_augS,a_rGetL,a_raise,a_isE,a_countB]
        refine ⟨_, hL, hsm, fin _ _ _ ?_⟩
        unfold roomS
        rw [if_neg Bool.false_ne_true]
    · rintro σ Hi ⟨v4, v5, rfl, sH, hL⟩
      refine hN _ _ ?_
      clear hN N
      simp only [a_var,a_c,a_op,a_un,a_rI,a_rI0,a_rU,a_rEq,a_rNe,s_ii,s_bb,s_ss,a_test,a_tB,a_and,a_or,a_not,a_andV,a_orV,a_notV,a_if,a_next,a_seq,a_brk,a_cont,a_drop,a_ret,a_retN,a_ifS,a_gName,a_gNil,a_gCons,a_gTup,a_gSub,a_asg,a_par,a_aug,a_ipI,a_nil,a_cons,a_tup,a_lst,a_dnew,a_call,a_cb,a_bm,a_bm0,a_noPart,a_part,a_sl,a_rSlL,a_rIxL,a_rIxT,a_rSetL,a_append,a_insert,a_rIn,a_din,a_dnotin,a_dput,a_for,a_iList,a_iTup,a_iRng1,a_iZip,a_rRep,a_rCat,cxK,List.getElem?_cons_zero,List.getElem?_cons_succ,List.set_cons_zero,List.set_cons_succ,Option.some.injEq,V.int.injEq,V.ref.injEq,V.bl.injEq,V.str.injEq,V.ty.injEq,List.cons.injEq,exists_eq_left',exists_eq_left,exists_and_left,and_assoc,and_true,true_and,List.append_nil,List.cons_append,List.nil_append,decide_eq_true_eq,decide_true,decide_false,eq_self,reduceIte,if_true,if_false,Bool.false_eq_true,Bool.not_true,Bool.not_false,Int.zero_add,reduceCtorEq,false_and,exists_false,false_or,or_false,a_slS,a_comp,a_emit,a_yes,a_iEnum,a_setd,a_sortK,a_dget1,a_dget2,a_disp,a_pairs0,a_pairs1,a_dget,a_augS,a_rGetL,a_raise,a_isE,a_countB]
      rw [List.length_map, Paired.length hQ, List.take_length] at hL
      refine ⟨sts.map (roomS rows flows), SqL.of hL, by rw [List.length_map]; exact hpos, fun M hM hle => ?_⟩
      obtain ⟨s, hs, rfl⟩ := List.mem_map.mp hM
      exact k _ Hi sH ⟨s, hs, rfl⟩ fun x hx => hle _ (List.mem_map.mpr ⟨x, hx, rfl⟩)
end
def RoadV (rows : List Pipe) (flows : List Int) (s t : Int) (H : Hp) (v : V) : Prop :=
  (v = .non ∧ ¬ Reach rows flows s t) ∨ ∃ (g : Addr) (qs : List Addr) (sts : List PStep), v = .ref g ∧ H g = some (.lst (qs.map V.ref)) ∧ Paired (SRow H) qs sts ∧ sts.length ≤ 1000 ∧ Leads rows flows t sts s [s]
def IvGr (a : Addr) (rows : List Pipe) (n : Nat) (s t : Int) (H : Hp) (m : Nat) (σ : St) (Hi : Hp) : Prop :=
  ∃ f flows v, σ = [some (.int n), some (.ref a), some (.int s), some (.int t), some (.ref f), some v] ∧ Same H Hi ∧ Hi f = some (.lst (flows.map V.int)) ∧ Kept n rows s t flows ∧ RoadV rows flows s t Hi v ∧
    m = (sumI (fun j => (rows.getD j (0, 0, 0)).2.2) rows.length - sumI (giv rows flows s) rows.length).toNat
abbrev s_greatest_plan : Stmt := top 18
theorem sc_greatest_plan : FnScope ["count", "pipes", "spring", "drain", "plan", "road"] ["count", "pipes", "spring", "drain"] (defScope s_greatest_plan) := ⟨rfl, rfl, rfl, by decide +kernel, rfl, by decide +kernel, by decide +kernel⟩
section
variable {P : Program} {w : World} {K : PySem.W.Frag} {mg : Str → Option Value} {base : Heap}
theorem ok_greatest_plan {f : Addr} {fd : FuncData} (F : Fun K "greatest_plan" "greatest_plan" s_greatest_plan f fd) (T : Txt K mg) {cF cN cW c1 : Addr} (CL : Cls K mg cF cN cW c1) {f_road_to : Addr} {fd_road_to : FuncData} (F_road_to : FOk P w K mg base "road_to" 3 ["count", "pipes", "plan", "start", "goal"] (spRoad K) f_road_to fd_road_to) {f_room_along : Addr} {fd_room_along : FuncData} (F_room_along : FOk P w K mg base "room_along" 1 ["pipes", "plan", "road"] (spRoom K) f_room_along fd_room_along) {f_sent_along : Addr} {fd_sent_along : FuncData} (F_sent_along : FOk P w K mg base "sent_along" 1 ["plan", "steps", "amount"] (spSent K) f_sent_along fd_sent_along) :
    FnOk P w K mg base CX0 4 f fd ["count", "pipes", "spring", "drain"] (spGreat K) := by
  refine F.ok sc_greatest_plan (fun vs H Q E h => ?_) (fun cdv A outer s H vs Q E hr h => ?_)
  · obtain ⟨a, ps, rows, n, s, t, rfl, hA, hP, hz, hn, hF, hs0, hs1, ht0, ht1, hst, k⟩ := h
    rfl
  · obtain ⟨a, ps, rows, n, s, t, rfl, hA, hP, hz, hn, hF, hs0, hs1, ht0, ht1, hst, k⟩ := h
    have SC := sc_greatest_plan
    have hu := hu_of hr
    have hu0 := hr.units0
    refine ⟨_, (pss_cons (ps_set (i := 4) SC.nd rfl (Or.inl rfl) (pe_op op_rep (pe_lst (pa_cons pe_int pa_nil)) (pe_callB call_len_seq rfl T.z_len PySem.boot_len (pa_cons (pv 1) pa_nil))))
  (pss_cons (ps_set (i := 5) SC.nd rfl (Or.inl rfl) (pe_call F_road_to.G (hr.mono (by decide)) rfl F_road_to.m F_road_to.kp F_road_to.b .nil pass0 (pa_cons (pv 0) (pa_cons (pv 1) (pa_cons (pv 4) (pa_cons (pv 2) (pa_cons (pv 3) pa_nil)))))))
  (pss_cons (ps_while PassesOwn.never (pt_cmpR op_notN (pv 5) pe_non (nomark _))
  (pss_cons (ps_set (i := 4) SC.nd rfl (Or.inl rfl) (pe_call F_sent_along.G (hr.mono (by decide)) rfl F_sent_along.m F_sent_along.kp F_sent_along.b .nil pass0 (pa_cons (pv 4) (pa_cons (pv 5) (pa_cons (pe_call F_room_along.G (hr.mono (by decide)) rfl F_room_along.m F_room_along.kp F_room_along.b .nil pass0 (pa_cons (pv 1) (pa_cons (pv 4) (pa_cons (pv 5) pa_nil)))) pa_nil)))))
  (pss_one (ps_set (i := 5) SC.nd rfl (Or.inl rfl) (pe_call F_road_to.G (hr.mono (by decide)) rfl F_road_to.m F_road_to.kp F_road_to.b .nil pass0 (pa_cons (pv 0) (pa_cons (pv 1) (pa_cons (pv 4) (pa_cons (pv 2) (pa_cons (pv 3) pa_nil))))))))))
  (pss_one (ps_ret (pv 4)))))), ?_⟩
    rw [show start ["count", "pipes", "spring", "drain", "plan", "road"] [V.int n, V.ref a, V.int s, V.int t] = [some (V.int n), some (V.ref a), some (V.int s), some (V.int t), none, none] from rfl]
    have hlp := Paired.length hP
    have hsz : sizeLine = 16777216 := sizeLine_eq
    refine seq_step fun N hN => ?_
    simp only [a_var,a_c,a_op,a_un,a_rI,a_rI0,a_rU,a_rEq,a_rNe,s_ii,s_bb,s_ss,a_test,a_tB,a_and,a_or,a_not,a_andV,a_orV,a_notV,a_if,a_next,a_seq,a_brk,a_cont,a_drop,a_ret,a_retN,a_ifS,a_gName,a_gNil,a_gCons,a_gTup,a_gSub,a_asg,a_par,a_aug,a_ipI,a_nil,a_cons,a_tup,a_lst,a_dnew,a_call,a_cb,a_bm,a_bm0,a_noPart,a_part,a_sl,a_rSlL,a_rIxL,a_rIxT,a_rSetL,a_append,a_insert,a_rIn,a_din,a_dnotin,a_dput,a_for,a_iList,a_iTup,a_iRng1,a_iZip,a_rRep,a_rCat,cxK,List.getElem?_cons_zero,List.getElem?_cons_succ,List.set_cons_zero,List.set_cons_succ,Option.some.injEq,V.int.injEq,V.ref.injEq,V.bl.injEq,V.str.injEq,V.ty.injEq,List.cons.injEq,exists_eq_left',exists_eq_left,exists_and_left,and_assoc,and_true,true_and,List.append_nil,List.cons_append,List.nil_append,decide_eq_true_eq,decide_true,decide_false,eq_self,reduceIte,if_true,if_false,Bool.false_eq_true,Bool.not_true,Bool.not_false,Int.zero_add,reduceCtorEq,false_and,exists_false,false_or,or_false,a_slS,a_comp,a_emit,a_yes,a_iEnum,a_setd,a_sortK,a_dget1,a_dget2,a_disp,a_pairs0,a_pairs1,a_dget,a_augS,a_rGetL,a_raise,a_isE,a_countB]
    refine ⟨(show 1 ≤ sizeLine by decide), fun p0 n0 => ?_⟩
    have s0 := same_upd (o := .lst [V.int 0]) (Same.refl H) n0
    refine ⟨_, .inl (s0.seq hA), _, upd_same, by rw [List.length_map]; omega, by rw [List.length_map]; omega, by rw [List.length_map]; show 1 * _ ≤ sizeLine; omega, fun f nf => ?_⟩
    have e0 : (List.replicate ((ps.map V.ref).length : Int).toNat [V.int 0]).flatten = (List.replicate rows.length (0 : Int)).map V.int := by
      rw [Int.toNat_natCast, List.length_map, hlp]
      generalize rows.length = m
      induction m with
      | zero => rfl
      | succ m ih => rw [List.replicate_succ, List.flatten_cons, ih, List.replicate_succ, List.map_cons]; rfl
    rw [e0]
    refine hN _ _ ?_
    clear hN N
    have s1 := same_upd (o := .lst ((List.replicate rows.length (0 : Int)).map V.int)) s0 nf
    have hf1 : (upd (upd H p0 (.lst [V.int 0])) f (.lst ((List.replicate rows.length (0 : Int)).map V.int))) f = some (.lst ((List.replicate rows.length (0 : Int)).map V.int)) := upd_same
    have K0 : Kept n rows s t (List.replicate rows.length 0) := kept_zero hF
    generalize upd (upd H p0 (.lst [V.int 0])) f (.lst ((List.replicate rows.length (0 : Int)).map V.int)) = H1 at s1 hf1
    generalize List.replicate rows.length (0 : Int) = fl0 at K0 hf1
    have net : ∀ {Hi : Hp} {f : Addr} {flows : List Int}, Same H Hi → Hi f = some (.lst (flows.map V.int)) → Kept n rows s t flows → Net K Hi a f ps rows flows n := fun s' h' K' => ⟨s'.seq hA, SqL.of h', rows_same s' hP, by rw [K'.len, hlp], hz, hn, hF, K'.fit⟩
    refine seq_step fun N hN => ?_
    have tail : ∀ (v : V) (H' : Hp), Same H1 H' → RoadV rows fl0 s t H' v → N [some (.int n), some (.ref a), some (.int s), some (.int t), some (.ref f), some v] H' := fun v H' s' hv => by
      refine hN _ _ ?_
      clear hN N
      refine seq_step fun N hN => ?_
      refine while_w (IvGr a rows n s t H) ⟨_, f, fl0, v, rfl, s1.trans s', s' _ _ hf1, K0, hv, rfl⟩ ?_
      clear hv hf1 s1 s' K0
      rintro m σ Hi ⟨f, flows, v, rfl, sH, hf, Kp, hv, rfl⟩
      rcases hv with ⟨rfl, hr⟩ | ⟨g, qs, sts, rfl, hg, hq, hsl, hL⟩
      · simp only [a_ifS,a_test,a_tB,a_op,a_cb,a_cons,a_nil,a_var,a_c,a_rI0,a_rIxL,a_rIxT,a_dnotin,cxK,List.getElem?_cons_zero,List.getElem?_cons_succ,Option.some.injEq,V.int.injEq,V.ref.injEq,V.bl.injEq,V.str.injEq,List.cons.injEq,exists_eq_left',exists_eq_left,exists_and_left,and_assoc,and_true,true_and,eq_self,decide_eq_true_eq,decide_true,decide_false,Bool.not_true,Bool.not_false,reduceCtorEq,if_true,if_false,Bool.false_eq_true,reduceIte]
        refine hN _ _ ?_
        clear hN N
        simp only [a_var,a_c,a_op,a_un,a_rI,a_rI0,a_rU,a_rEq,a_rNe,s_ii,s_bb,s_ss,a_test,a_tB,a_and,a_or,a_not,a_andV,a_orV,a_notV,a_if,a_next,a_seq,a_brk,a_cont,a_drop,a_ret,a_retN,a_ifS,a_gName,a_gNil,a_gCons,a_gTup,a_gSub,a_asg,a_par,a_aug,a_ipI,a_nil,a_cons,a_tup,a_lst,a_dnew,a_call,a_cb,a_bm,a_bm0,a_noPart,a_part,a_sl,a_rSlL,a_rIxL,a_rIxT,a_rSetL,a_append,a_insert,a_rIn,a_din,a_dnotin,a_dput,a_for,a_iList,a_iTup,a_iRng1,a_iZip,a_rRep,a_rCat,cxK,List.getElem?_cons_zero,List.getElem?_cons_succ,List.set_cons_zero,List.set_cons_succ,Option.some.injEq,V.int.injEq,V.ref.injEq,V.bl.injEq,V.str.injEq,V.ty.injEq,List.cons.injEq,exists_eq_left',exists_eq_left,exists_and_left,and_assoc,and_true,true_and,List.append_nil,List.cons_append,List.nil_append,decide_eq_true_eq,decide_true,decide_false,eq_self,reduceIte,if_true,if_false,Bool.false_eq_true,Bool.not_true,Bool.not_false,Int.zero_add,reduceCtorEq,false_and,exists_false,false_or,or_false,a_slS,a_comp,a_emit,a_yes,a_iEnum,a_setd,a_sortK,a_dget1,a_dget2,a_disp,a_pairs0,a_pairs1,a_dget,a_augS,a_rGetL,a_raise,a_isE,a_countB]
        exact k f flows Hi hf Kp hr sH
      · simp only [a_ifS,a_test,a_tB,a_op,a_cb,a_cons,a_nil,a_var,a_c,a_rI0,a_rIxL,a_rIxT,a_dnotin,cxK,List.getElem?_cons_zero,List.getElem?_cons_succ,Option.some.injEq,V.int.injEq,V.ref.injEq,V.bl.injEq,V.str.injEq,List.cons.injEq,exists_eq_left',exists_eq_left,exists_and_left,and_assoc,and_true,true_and,eq_self,decide_eq_true_eq,decide_true,decide_false,Bool.not_true,Bool.not_false,reduceCtorEq,if_true,if_false,Bool.false_eq_true,reduceIte]
        refine ⟨_, fun _ _ h => h, ?_⟩
        have hpos : 0 < sts.length := by
          cases sts with
          | nil => exact absurd (show s = t from hL) hst
          | cons x r => exact Nat.succ_pos _
        have hcan := leads_can hL
        refine seq_step fun N hN => ?_
        simp only [a_var,a_c,a_op,a_un,a_rI,a_rI0,a_rU,a_rEq,a_rNe,s_ii,s_bb,s_ss,a_test,a_tB,a_and,a_or,a_not,a_andV,a_orV,a_notV,a_if,a_next,a_seq,a_brk,a_cont,a_drop,a_ret,a_retN,a_ifS,a_gName,a_gNil,a_gCons,a_gTup,a_gSub,a_asg,a_par,a_aug,a_ipI,a_nil,a_cons,a_tup,a_lst,a_dnew,a_call,a_cb,a_bm,a_bm0,a_noPart,a_part,a_sl,a_rSlL,a_rIxL,a_rIxT,a_rSetL,a_append,a_insert,a_rIn,a_din,a_dnotin,a_dput,a_for,a_iList,a_iTup,a_iRng1,a_iZip,a_rRep,a_rCat,cxK,List.getElem?_cons_zero,List.getElem?_cons_succ,List.set_cons_zero,List.set_cons_succ,Option.some.injEq,V.int.injEq,V.ref.injEq,V.bl.injEq,V.str.injEq,V.ty.injEq,List.cons.injEq,exists_eq_left',exists_eq_left,exists_and_left,and_assoc,and_true,true_and,List.append_nil,List.cons_append,List.nil_append,decide_eq_true_eq,decide_true,decide_false,eq_self,reduceIte,if_true,if_false,Bool.false_eq_true,Bool.not_true,Bool.not_false,Int.zero_add,reduceCtorEq,false_and,exists_false,false_or,or_false,a_slS,a_comp,a_emit,a_yes,a_iEnum,a_setd,a_sortK,a_dget1,a_dget2,a_disp,a_pairs0,a_pairs1,a_dget,a_augS,a_rGetL,a_raise,a_isE,a_countB]
        refine ⟨a, f, g, ps, rows, flows, qs, sts, rfl, sH.seq hA, SqL.of hf, rows_same sH hP, by rw [Kp.len, hlp], SqL.of hg, hq, hsl, hpos, fun x hx => can_lt (hcan x hx), fun M H2 s2 hM hle => ?_⟩
        have hM0 : 0 < M := by
          obtain ⟨x, hx, e⟩ := hM
          rw [e]
          exact can_room (hcan x hx)
        try simp only [a_var,a_c,a_op,a_un,a_rI,a_rI0,a_rU,a_rEq,a_rNe,s_ii,s_bb,s_ss,a_test,a_tB,a_and,a_or,a_not,a_andV,a_orV,a_notV,a_if,a_next,a_seq,a_brk,a_cont,a_drop,a_ret,a_retN,a_ifS,a_gName,a_gNil,a_gCons,a_gTup,a_gSub,a_asg,a_par,a_aug,a_ipI,a_nil,a_cons,a_tup,a_lst,a_dnew,a_call,a_cb,a_bm,a_bm0,a_noPart,a_part,a_sl,a_rSlL,a_rIxL,a_rIxT,a_rSetL,a_append,a_insert,a_rIn,a_din,a_dnotin,a_dput,a_for,a_iList,a_iTup,a_iRng1,a_iZip,a_rRep,a_rCat,cxK,List.getElem?_cons_zero,List.getElem?_cons_succ,List.set_cons_zero,List.set_cons_succ,Option.some.injEq,V.int.injEq,V.ref.injEq,V.bl.injEq,V.str.injEq,V.ty.injEq,List.cons.injEq,exists_eq_left',exists_eq_left,exists_and_left,and_assoc,and_true,true_and,List.append_nil,List.cons_append,List.nil_append,decide_eq_true_eq,decide_true,decide_false,eq_self,reduceIte,if_true,if_false,Bool.false_eq_true,Bool.not_true,Bool.not_false,Int.zero_add,reduceCtorEq,false_and,exists_false,false_or,or_false,a_slS,a_comp,a_emit,a_yes,a_iEnum,a_setd,a_sortK,a_dget1,a_dget2,a_disp,a_pairs0,a_pairs1,a_dget,a_augS,a_rGetL,a_raise,a_isE,a_countB]
        refine ⟨f, g, flows, qs, sts, M, rfl, SqL.of (s2 _ _ hf), SqL.of (s2 _ _ hg), srows_same s2 hq, by rw [Kp.len, ← hlp]; exact hz, hsl, fun x hx => by rw [Kp.len]; exact can_lt (hcan x hx), leads_nodup hL (List.mem_singleton.mpr rfl), Int.le_of_lt hM0, fun f3 H3 n3 hf3 s3 => ?_⟩
        refine hN _ _ ?_
        clear hN N
        have sH3 := sH.trans (s2.trans s3)
        have Kp3 := kept_sent Kp hL (Int.le_of_lt hM0) hle
        have hy := leads_net (amt := M) (z := s) rfl hL Kp.len
        rw [if_pos rfl, if_neg (fun e => hst e.symm)] at hy
        have hb := giv_le (z := s) Kp3.fit (Nat.le_refl _)
        have fin : ∀ (v : V) (H' : Hp), Same H3 H' → RoadV rows (sentL M sts flows) s t H' v → ∃ m', m' < (sumI (fun j => (rows.getD j (0, 0, 0)).2.2) rows.length - sumI (giv rows flows s) rows.length).toNat ∧ IvGr a rows n s t H m' [some (.int n), some (.ref a), some (.int s), some (.int t), some (.ref f3), some v] H' := fun v H' s' hv =>
          ⟨_, by omega, f3, _, v, rfl, sH3.trans s', s' _ _ hf3, Kp3, hv, rfl⟩
        simp only [a_var,a_c,a_op,a_un,a_rI,a_rI0,a_rU,a_rEq,a_rNe,s_ii,s_bb,s_ss,a_test,a_tB,a_and,a_or,a_not,a_andV,a_orV,a_notV,a_if,a_next,a_seq,a_brk,a_cont,a_drop,a_ret,a_retN,a_ifS,a_gName,a_gNil,a_gCons,a_gTup,a_gSub,a_asg,a_par,a_aug,a_ipI,a_nil,a_cons,a_tup,a_lst,a_dnew,a_call,a_cb,a_bm,a_bm0,a_noPart,a_part,a_sl,a_rSlL,a_rIxL,a_rIxT,a_rSetL,a_append,a_insert,a_rIn,a_din,a_dnotin,a_dput,a_for,a_iList,a_iTup,a_iRng1,a_iZip,a_rRep,a_rCat,cxK,List.getElem?_cons_zero,List.getElem?_cons_succ,List.set_cons_zero,List.set_cons_succ,Option.some.injEq,V.int.injEq,V.ref.injEq,V.bl.injEq,V.str.injEq,V.ty.injEq,List.cons.injEq,exists_eq_left',exists_eq_left,exists_and_left,and_assoc,and_true,true_and,List.append_nil,List.cons_append,List.nil_append,decide_eq_true_eq,decide_true,decide_false,eq_self,reduceIte,if_true,if_false,Bool.false_eq_true,Bool.not_true,Bool.not_false,Int.zero_add,reduceCtorEq,false_and,exists_false,false_or,or_false,a_slS,a_comp,a_emit,a_yes,a_iEnum,a_setd,a_sortK,a_dget1,a_dget2,a_disp,a_pairs0,a_pairs1,a_dget,a_augS,a_rGetL,a_raise,a_isE,a_countB]
        exact ⟨a, f3, ps, rows, _, n, s, t, rfl, net sH3 hf3 Kp3, hs0, hs1, ht0, ht1, fun H' s' hr => fin .non H' s' (.inl ⟨rfl, hr⟩), fun g' qs' sts' H' g1 g2 g3 g4 s' => fin (.ref g') H' s' (.inr ⟨g', qs', sts', rfl, g1, g2, g3, g4⟩)⟩
    simp only [a_var,a_c,a_op,a_un,a_rI,a_rI0,a_rU,a_rEq,a_rNe,s_ii,s_bb,s_ss,a_test,a_tB,a_and,a_or,a_not,a_andV,a_orV,a_notV,a_if,a_next,a_seq,a_brk,a_cont,a_drop,a_ret,a_retN,a_ifS,a_gName,a_gNil,a_gCons,a_gTup,a_gSub,a_asg,a_par,a_aug,a_ipI,a_nil,a_cons,a_tup,a_lst,a_dnew,a_call,a_cb,a_bm,a_bm0,a_noPart,a_part,a_sl,a_rSlL,a_rIxL,a_rIxT,a_rSetL,a_append,a_insert,a_rIn,a_din,a_dnotin,a_dput,a_for,a_iList,a_iTup,a_iRng1,a_iZip,a_rRep,a_rCat,cxK,List.getElem?_cons_zero,List.getElem?_cons_succ,List.set_cons_zero,List.set_cons_succ,Option.some.injEq,V.int.injEq,V.ref.injEq,V.bl.injEq,V.str.injEq,V.ty.injEq,List.cons.injEq,exists_eq_left',exists_eq_left,exists_and_left,and_assoc,and_true,true_and,List.append_nil,List.cons_append,List.nil_append,decide_eq_true_eq,decide_true,decide_false,eq_self,reduceIte,if_true,if_false,Bool.false_eq_true,Bool.not_true,Bool.not_false,Int.zero_add,reduceCtorEq,false_and,exists_false,false_or,or_false,a_slS,a_comp,a_emit,a_yes,a_iEnum,a_setd,a_sortK,a_dget1,a_dget2,a_disp,a_pairs0,a_pairs1,a_dget,a_augS,a_rGetL,a_raise,a_isE,a_countB]
    exact ⟨a, f, ps, rows, fl0, n, s, t, rfl, net s1 hf1 K0, hs0, hs1, ht0, ht1, fun H' s' hr => tail .non H' s' (.inl ⟨rfl, hr⟩), fun g' qs' sts' H' g1 g2 g3 g4 s' => tail (.ref g') H' s' (.inr ⟨g', qs', sts', rfl, g1, g2, g3, g4⟩)⟩
end
def IvEnds (a l : Addr) (n s t : Int) (rows : List Pipe) (H : Hp) (i : Nat) (σ : St) (Hi : Hp) : Prop :=
  ∃ v5, σ = [some (.int n), some (.ref a), some (.int s), some (.int t), some (.ref l), v5] ∧ Same H Hi ∧ Hi l = some (.lst ((endsL s t (rows.take i)).map V.int))
abbrev s_refuse_no_station : Stmt := top 20
theorem sc_refuse_no_station : FnScope ["count", "pipes", "spring", "drain", "stations", "pipe"] ["count", "pipes", "spring", "drain"] (defScope s_refuse_no_station) := ⟨rfl, rfl, rfl, by decide +kernel, rfl, by decide +kernel, by decide +kernel⟩
section
variable {P : Program} {w : World} {K : PySem.W.Frag} {mg : Str → Option Value} {base : Heap}
theorem ok_refuse_no_station {f : Addr} {fd : FuncData} (F : Fun K "refuse_no_station" "refuse_no_station" s_refuse_no_station f fd) (T : Txt K mg) {cF cN cW c1 : Addr} (CL : Cls K mg cF cN cW c1)  :
    FnOk P w K mg base (CXR P w) 1 f fd ["count", "pipes", "spring", "drain"] (spRefStR K cN) := by
  refine F.okR sc_refuse_no_station (fun vs H Q E h => ?_) (fun cdv A outer s H vs Q E hr h => ?_)
  · obtain ⟨a, ps, rows, n, s, t, rfl, hA, hP, hz, k, kE⟩ := h
    rfl
  · obtain ⟨a, ps, rows, n, s, t, rfl, hA, hP, hz, k, kE⟩ := h
    have SC := sc_refuse_no_station
    have hu := hu_of hr
    have hu0 := hr.units0
    obtain ⟨t_GOAL, c_GOAL⟩ := T.c_GOAL
    obtain ⟨t_START, c_START⟩ := T.c_START
    refine ⟨_, (pss_cons (ps_set (i := 4) SC.nd rfl (Or.inl rfl) (pe_lst (pa_cons (pv 2) (pa_cons (pv 3) pa_nil))))
  (pss_cons (ps_for PassesOwn.leaving rfl (pi_list (pv 1)) (pg_name (i := 5) SC.nd rfl (Or.inl rfl))
  (pss_cons (ps_expr (pe_bm PySem.F.plainAttrs_list PySem.F.slot_list_append PySem.F.type_list_append mt_append (pv 4) (pa_cons (pe_ix ix_tup (pv 5) (pe_glob (v := .int 0) rfl c_START ⟨_, rfl⟩) (fun _ _ => rfl)) pa_nil)))
  (pss_one (ps_expr (pe_bm PySem.F.plainAttrs_list PySem.F.slot_list_append PySem.F.type_list_append mt_append (pv 4) (pa_cons (pe_ix ix_tup (pv 5) (pe_glob (v := .int 1) rfl c_GOAL ⟨_, rfl⟩) (fun _ _ => rfl)) pa_nil))))))
  (pss_one (ps_if (PW.pt (pw_or (pt_cmpR op_lt (pe_callB (call_min_list rfl) rfl T.z_min PyProof.Rows.boot_min (pa_cons (pv 4) pa_nil)) pe_int (nomark _)) (pw_or1 (pt_cmpR op_ge (pe_callB (call_max_list rfl) rfl T.z_max PyProof.Rows.boot_max (pa_cons (pv 4) pa_nil)) (pv 0) (nomark _)))))
  (pss_one (ps_raise raisesR rfl rfl CL.mN CL.rN.z.ob))
  pss_nil)))), ?_⟩
    rw [show start ["count", "pipes", "spring", "drain", "stations", "pipe"] [V.int n, V.ref a, V.int s, V.int t] = [some (V.int n), some (V.ref a), some (V.int s), some (V.int t), none, none] from rfl]
    refine seq_step fun N hN => ?_
    simp only [a_var,a_c,a_op,a_un,a_rI,a_rI0,a_rU,a_rEq,a_rNe,s_ii,s_bb,s_ss,a_test,a_tB,a_and,a_or,a_not,a_andV,a_orV,a_notV,a_if,a_next,a_seq,a_brk,a_cont,a_drop,a_ret,a_retN,a_ifS,a_gName,a_gNil,a_gCons,a_gTup,a_gSub,a_asg,a_par,a_aug,a_ipI,a_nil,a_cons,a_tup,a_lst,a_dnew,a_call,a_cb,a_bm,a_bm0,a_noPart,a_part,a_sl,a_rSlL,a_rIxL,a_rIxT,a_rSetL,a_append,a_insert,a_rIn,a_din,a_dnotin,a_dput,a_for,a_iList,a_iTup,a_iRng1,a_iZip,a_rRep,a_rCat,cxK,List.getElem?_cons_zero,List.getElem?_cons_succ,List.set_cons_zero,List.set_cons_succ,Option.some.injEq,V.int.injEq,V.ref.injEq,V.bl.injEq,V.str.injEq,V.ty.injEq,List.cons.injEq,exists_eq_left',exists_eq_left,exists_and_left,and_assoc,and_true,true_and,List.append_nil,List.cons_append,List.nil_append,decide_eq_true_eq,decide_true,decide_false,eq_self,reduceIte,if_true,if_false,Bool.false_eq_true,Bool.not_true,Bool.not_false,Int.zero_add,reduceCtorEq,false_and,exists_false,false_or,or_false,a_slS,a_comp,a_emit,a_yes,a_iEnum,a_setd,a_sortK,a_dget1,a_dget2,a_disp,a_pairs0,a_pairs1,a_dget,a_augS,a_rGetL,a_raise,a_isE,a_countB]
    refine ⟨(show 2 ≤ sizeLine by decide), fun l nl => ?_⟩
    refine hN _ _ ?_
    clear hN N
    have s1 := same_upd (o := .lst [.int s, .int t]) (Same.refl H) nl
    have hlp := Paired.length hP
    refine seq_step fun N hN => ?_
    simp only [a_for, a_iList, a_var, cxK, List.getElem?_cons_zero, List.getElem?_cons_succ, Option.some.injEq, V.ref.injEq, exists_eq_left', exists_eq_left]
    refine ⟨⟨_, s1.seq hA⟩, ?_⟩
    refine ForOk.list (xs := ps.map V.ref) (IvEnds a l n s t rows H) ⟨_, rfl, s1, upd_same⟩ (fun i σ Hi _ ⟨_, _, s, _⟩ => s.seq hA) ?_ ?_
    · rintro i x σ Hi hx ⟨v5, rfl, sH, hL⟩
      have hi : i < ps.length := by
        have q := (List.getElem?_eq_some_iff.mp hx).1
        rw [List.length_map] at q; exact q
      obtain ⟨q, hq⟩ : ∃ q, ps[i]? = some q := ⟨ps[i], List.getElem?_eq_getElem hi⟩
      rw [List.getElem?_map, hq] at hx
      cases hx
      obtain ⟨r, hr', h3⟩ := pairedAt hP hq
      have hle := endsL_len s t (rows.take i)
      rw [List.length_take] at hle
      have m0 := nl
      simp only [a_gName, List.set_cons_zero, List.set_cons_succ, Int.zero_add]
      refine seq_step fun N hN => ?_
      simp only [a_var,a_c,a_op,a_un,a_rI,a_rI0,a_rU,a_rEq,a_rNe,s_ii,s_bb,s_ss,a_test,a_tB,a_and,a_or,a_not,a_andV,a_orV,a_notV,a_if,a_next,a_seq,a_brk,a_cont,a_drop,a_ret,a_retN,a_ifS,a_gName,a_gNil,a_gCons,a_gTup,a_gSub,a_asg,a_par,a_aug,a_ipI,a_nil,a_cons,a_tup,a_lst,a_dnew,a_call,a_cb,a_bm,a_bm0,a_noPart,a_part,a_sl,a_rSlL,a_rIxL,a_rIxT,a_rSetL,a_append,a_insert,a_rIn,a_din,a_dnotin,a_dput,a_for,a_iList,a_iTup,a_iRng1,a_iZip,a_rRep,a_rCat,cxK,List.getElem?_cons_zero,List.getElem?_cons_succ,List.set_cons_zero,List.set_cons_succ,Option.some.injEq,V.int.injEq,V.ref.injEq,V.bl.injEq,V.str.injEq,V.ty.injEq,List.cons.injEq,exists_eq_left',exists_eq_left,exists_and_left,and_assoc,and_true,true_and,List.append_nil,List.cons_append,List.nil_append,decide_eq_true_eq,decide_true,decide_false,eq_self,reduceIte,if_true,if_false,Bool.false_eq_true,Bool.not_true,Bool.not_false,Int.zero_add,reduceCtorEq,false_and,exists_false,false_or,or_false,a_slS,a_comp,a_emit,a_yes,a_iEnum,a_setd,a_sortK,a_dget1,a_dget2,a_disp,a_pairs0,a_pairs1,a_dget,a_augS,a_rGetL,a_raise,a_isE,a_countB]
      refine ⟨.inl ⟨rfl, _, SqL.of hL⟩, _, SqT.of (sH _ _ h3), _, rfl, ?_⟩
      refine ⟨_, hL, smallM (by rw [List.length_map]; omega), ?_⟩
      refine hN _ _ ?_
      clear hN N
      have sH2 : Same H (upd Hi l (.lst ((endsL s t (rows.take i)).map V.int ++ [.int r.1]))) := same_upd' sH nl
      simp only [a_var,a_c,a_op,a_un,a_rI,a_rI0,a_rU,a_rEq,a_rNe,s_ii,s_bb,s_ss,a_test,a_tB,a_and,a_or,a_not,a_andV,a_orV,a_notV,a_if,a_next,a_seq,a_brk,a_cont,a_drop,a_ret,a_retN,a_ifS,a_gName,a_gNil,a_gCons,a_gTup,a_gSub,a_asg,a_par,a_aug,a_ipI,a_nil,a_cons,a_tup,a_lst,a_dnew,a_call,a_cb,a_bm,a_bm0,a_noPart,a_part,a_sl,a_rSlL,a_rIxL,a_rIxT,a_rSetL,a_append,a_insert,a_rIn,a_din,a_dnotin,a_dput,a_for,a_iList,a_iTup,a_iRng1,a_iZip,a_rRep,a_rCat,cxK,List.getElem?_cons_zero,List.getElem?_cons_succ,List.set_cons_zero,List.set_cons_succ,Option.some.injEq,V.int.injEq,V.ref.injEq,V.bl.injEq,V.str.injEq,V.ty.injEq,List.cons.injEq,exists_eq_left',exists_eq_left,exists_and_left,and_assoc,and_true,true_and,List.append_nil,List.cons_append,List.nil_append,decide_eq_true_eq,decide_true,decide_false,eq_self,reduceIte,if_true,if_false,Bool.false_eq_true,Bool.not_true,Bool.not_false,Int.zero_add,reduceCtorEq,false_and,exists_false,false_or,or_false,a_slS,a_comp,a_emit,a_yes,a_iEnum,a_setd,a_sortK,a_dget1,a_dget2,a_disp,a_pairs0,a_pairs1,a_dget,a_augS,a_rGetL,a_raise,a_isE,a_countB]
      refine ⟨.inl ⟨rfl, _, SqL.of upd_same⟩, _, SqT.of (sH2 _ _ h3), _, rfl, ?_⟩
      refine ⟨_, upd_same, smallM (by rw [List.length_append, List.length_map]; show _ + 1 ≤ _; omega), ?_⟩
      refine ⟨_, rfl, same_upd' sH2 nl, ?_⟩
      rw [upd_same, take_snoc hr', endsL_snoc, List.map_append, List.append_assoc]
      rfl
    rintro σ Hi ⟨v5, rfl, sH, hL⟩
    rw [List.length_map, hlp, List.take_length] at hL
    have hpl : 0 < (endsL s t rows).length := by rw [endsL_len]; omega
    refine hN _ _ ?_
    clear hN N
    simp only [a_var,a_c,a_op,a_un,a_rI,a_rI0,a_rU,a_rEq,a_rNe,s_ii,s_bb,s_ss,a_test,a_tB,a_and,a_or,a_not,a_andV,a_orV,a_notV,a_if,a_next,a_seq,a_brk,a_cont,a_drop,a_ret,a_retN,a_ifS,a_gName,a_gNil,a_gCons,a_gTup,a_gSub,a_asg,a_par,a_aug,a_ipI,a_nil,a_cons,a_tup,a_lst,a_dnew,a_call,a_cb,a_bm,a_bm0,a_noPart,a_part,a_sl,a_rSlL,a_rIxL,a_rIxT,a_rSetL,a_append,a_insert,a_rIn,a_din,a_dnotin,a_dput,a_for,a_iList,a_iTup,a_iRng1,a_iZip,a_rRep,a_rCat,cxK,List.getElem?_cons_zero,List.getElem?_cons_succ,List.set_cons_zero,List.set_cons_succ,Option.some.injEq,V.int.injEq,V.ref.injEq,V.bl.injEq,V.str.injEq,V.ty.injEq,List.cons.injEq,exists_eq_left',exists_eq_left,exists_and_left,and_assoc,and_true,true_and,List.append_nil,List.cons_append,List.nil_append,decide_eq_true_eq,decide_true,decide_false,eq_self,reduceIte,if_true,if_false,Bool.false_eq_true,Bool.not_true,Bool.not_false,Int.zero_add,reduceCtorEq,false_and,exists_false,false_or,or_false,a_slS,a_comp,a_emit,a_yes,a_iEnum,a_setd,a_sortK,a_dget1,a_dget2,a_disp,a_pairs0,a_pairs1,a_dget,a_augS,a_rGetL,a_raise,a_isE,a_countB]
    refine ⟨_, SqL.of hL, hpl, fun M hM hMin => ?_⟩
    try simp only [a_var,a_c,a_op,a_un,a_rI,a_rI0,a_rU,a_rEq,a_rNe,s_ii,s_bb,s_ss,a_test,a_tB,a_and,a_or,a_not,a_andV,a_orV,a_notV,a_if,a_next,a_seq,a_brk,a_cont,a_drop,a_ret,a_retN,a_ifS,a_gName,a_gNil,a_gCons,a_gTup,a_gSub,a_asg,a_par,a_aug,a_ipI,a_nil,a_cons,a_tup,a_lst,a_dnew,a_call,a_cb,a_bm,a_bm0,a_noPart,a_part,a_sl,a_rSlL,a_rIxL,a_rIxT,a_rSetL,a_append,a_insert,a_rIn,a_din,a_dnotin,a_dput,a_for,a_iList,a_iTup,a_iRng1,a_iZip,a_rRep,a_rCat,cxK,List.getElem?_cons_zero,List.getElem?_cons_succ,List.set_cons_zero,List.set_cons_succ,Option.some.injEq,V.int.injEq,V.ref.injEq,V.bl.injEq,V.str.injEq,V.ty.injEq,List.cons.injEq,exists_eq_left',exists_eq_left,exists_and_left,and_assoc,and_true,true_and,List.append_nil,List.cons_append,List.nil_append,decide_eq_true_eq,decide_true,decide_false,eq_self,reduceIte,if_true,if_false,Bool.false_eq_true,Bool.not_true,Bool.not_false,Int.zero_add,reduceCtorEq,false_and,exists_false,false_or,or_false,a_slS,a_comp,a_emit,a_yes,a_iEnum,a_setd,a_sortK,a_dget1,a_dget2,a_disp,a_pairs0,a_pairs1,a_dget,a_augS,a_rGetL,a_raise,a_isE,a_countB]
    refine ite2 (fun e1 => ?_) (fun e1 => ?_)
    · exact kE (fun hin => by have := (hin M hM).1; omega) Hi sH
    · try simp only [a_var,a_c,a_op,a_un,a_rI,a_rI0,a_rU,a_rEq,a_rNe,s_ii,s_bb,s_ss,a_test,a_tB,a_and,a_or,a_not,a_andV,a_orV,a_notV,a_if,a_next,a_seq,a_brk,a_cont,a_drop,a_ret,a_retN,a_ifS,a_gName,a_gNil,a_gCons,a_gTup,a_gSub,a_asg,a_par,a_aug,a_ipI,a_nil,a_cons,a_tup,a_lst,a_dnew,a_call,a_cb,a_bm,a_bm0,a_noPart,a_part,a_sl,a_rSlL,a_rIxL,a_rIxT,a_rSetL,a_append,a_insert,a_rIn,a_din,a_dnotin,a_dput,a_for,a_iList,a_iTup,a_iRng1,a_iZip,a_rRep,a_rCat,cxK,List.getElem?_cons_zero,List.getElem?_cons_succ,List.set_cons_zero,List.set_cons_succ,Option.some.injEq,V.int.injEq,V.ref.injEq,V.bl.injEq,V.str.injEq,V.ty.injEq,List.cons.injEq,exists_eq_left',exists_eq_left,exists_and_left,and_assoc,and_true,true_and,List.append_nil,List.cons_append,List.nil_append,decide_eq_true_eq,decide_true,decide_false,eq_self,reduceIte,if_true,if_false,Bool.false_eq_true,Bool.not_true,Bool.not_false,Int.zero_add,reduceCtorEq,false_and,exists_false,false_or,or_false,a_slS,a_comp,a_emit,a_yes,a_iEnum,a_setd,a_sortK,a_dget1,a_dget2,a_disp,a_pairs0,a_pairs1,a_dget,a_augS,a_rGetL,a_raise,a_isE,a_countB]
      refine ⟨_, SqL.of hL, hpl, fun M2 hM2 hMax => ?_⟩
      try simp only [a_var,a_c,a_op,a_un,a_rI,a_rI0,a_rU,a_rEq,a_rNe,s_ii,s_bb,s_ss,a_test,a_tB,a_and,a_or,a_not,a_andV,a_orV,a_notV,a_if,a_next,a_seq,a_brk,a_cont,a_drop,a_ret,a_retN,a_ifS,a_gName,a_gNil,a_gCons,a_gTup,a_gSub,a_asg,a_par,a_aug,a_ipI,a_nil,a_cons,a_tup,a_lst,a_dnew,a_call,a_cb,a_bm,a_bm0,a_noPart,a_part,a_sl,a_rSlL,a_rIxL,a_rIxT,a_rSetL,a_append,a_insert,a_rIn,a_din,a_dnotin,a_dput,a_for,a_iList,a_iTup,a_iRng1,a_iZip,a_rRep,a_rCat,cxK,List.getElem?_cons_zero,List.getElem?_cons_succ,List.set_cons_zero,List.set_cons_succ,Option.some.injEq,V.int.injEq,V.ref.injEq,V.bl.injEq,V.str.injEq,V.ty.injEq,List.cons.injEq,exists_eq_left',exists_eq_left,exists_and_left,and_assoc,and_true,true_and,List.append_nil,List.cons_append,List.nil_append,decide_eq_true_eq,decide_true,decide_false,eq_self,reduceIte,if_true,if_false,Bool.false_eq_true,Bool.not_true,Bool.not_false,Int.zero_add,reduceCtorEq,false_and,exists_false,false_or,or_false,a_slS,a_comp,a_emit,a_yes,a_iEnum,a_setd,a_sortK,a_dget1,a_dget2,a_disp,a_pairs0,a_pairs1,a_dget,a_augS,a_rGetL,a_raise,a_isE,a_countB]
      refine ite2 (fun e2 => ?_) (fun e2 => ?_)
      · exact kE (fun hin => by have := (hin M2 hM2).2; omega) Hi sH
      · refine k (fun z hz => ?_) Hi sH
        have h1 := hMin z hz
        have h2 := hMax z hz
        omega
end
def IvRefWR (a : Addr) (rows : List Pipe) (H : Hp) (i : Nat) (σ : St) (Hi : Hp) : Prop := ∃ v1, σ = [some (.ref a), v1] ∧ Hi = H ∧ ∀ r ∈ rows.take i, 0 ≤ r.2.2
abbrev s_refuse_no_width : Stmt := top 21
theorem sc_refuse_no_width : FnScope ["pipes", "pipe"] ["pipes"] (defScope s_refuse_no_width) := ⟨rfl, rfl, rfl, by decide +kernel, rfl, by decide +kernel, by decide +kernel⟩
section
variable {P : Program} {w : World} {K : PySem.W.Frag} {mg : Str → Option Value} {base : Heap}
theorem ok_refuse_no_width {f : Addr} {fd : FuncData} (F : Fun K "refuse_no_width" "refuse_no_width" s_refuse_no_width f fd) (T : Txt K mg) {cF cN cW c1 : Addr} (CL : Cls K mg cF cN cW c1)  :
    FnOk P w K mg base (CXR P w) 1 f fd ["pipes"] (spRefWR K cW) := by
  refine F.okR sc_refuse_no_width (fun vs H Q E h => ?_) (fun cdv A outer s H vs Q E hr h => ?_)
  · obtain ⟨a, ps, rows, rfl, hA, hP, k, kE⟩ := h
    rfl
  · obtain ⟨a, ps, rows, rfl, hA, hP, k, kE⟩ := h
    have SC := sc_refuse_no_width
    have hu := hu_of hr
    have hu0 := hr.units0
    obtain ⟨t_WIDTH, c_WIDTH⟩ := T.c_WIDTH
    refine ⟨_, (pss_one (ps_for PassesOwn.leaving rfl (pi_list (pv 0)) (pg_name (i := 1) SC.nd rfl (Or.inl rfl))
  (pss_one (ps_if (pt_cmpR op_lt (pe_ix ix_tup (pv 1) (pe_glob (v := .int 2) rfl c_WIDTH ⟨_, rfl⟩) (fun _ _ => rfl)) pe_int (nomark _))
  (pss_one (ps_raise raisesR rfl rfl CL.mW CL.rW.z.ob))
  pss_nil)))), ?_⟩
    rw [show start ["pipes", "pipe"] [V.ref a] = [some (V.ref a), none] from rfl]
    simp only [a_for, a_iList, a_var, cxK, List.getElem?_cons_zero, List.getElem?_cons_succ, Option.some.injEq, V.ref.injEq, exists_eq_left', exists_eq_left]
    refine ⟨⟨_, hA⟩, ?_⟩
    refine ForOk.list (xs := ps.map V.ref) (IvRefWR a rows H) ⟨_, rfl, rfl, fun r hr => nomatch hr⟩ (fun i σ Hi _ ⟨_, _, e, _⟩ => e ▸ hA) ?_ ?_
    · rintro i x σ Hi hx ⟨v1, rfl, rfl, hw⟩
      have hi : i < ps.length := by
        have q := (List.getElem?_eq_some_iff.mp hx).1
        rw [List.length_map] at q; exact q
      obtain ⟨q, hq⟩ : ∃ q, ps[i]? = some q := ⟨ps[i], List.getElem?_eq_getElem hi⟩
      rw [List.getElem?_map, hq] at hx
      cases hx
      obtain ⟨r, hr', h3⟩ := pairedAt hP hq
      simp only [a_var,a_c,a_op,a_un,a_rI,a_rI0,a_rU,a_rEq,a_rNe,s_ii,s_bb,s_ss,a_test,a_tB,a_and,a_or,a_not,a_andV,a_orV,a_notV,a_if,a_next,a_seq,a_brk,a_cont,a_drop,a_ret,a_retN,a_ifS,a_gName,a_gNil,a_gCons,a_gTup,a_gSub,a_asg,a_par,a_aug,a_ipI,a_nil,a_cons,a_tup,a_lst,a_dnew,a_call,a_cb,a_bm,a_bm0,a_noPart,a_part,a_sl,a_rSlL,a_rIxL,a_rIxT,a_rSetL,a_append,a_insert,a_rIn,a_din,a_dnotin,a_dput,a_for,a_iList,a_iTup,a_iRng1,a_iZip,a_rRep,a_rCat,cxK,List.getElem?_cons_zero,List.getElem?_cons_succ,List.set_cons_zero,List.set_cons_succ,Option.some.injEq,V.int.injEq,V.ref.injEq,V.bl.injEq,V.str.injEq,V.ty.injEq,List.cons.injEq,exists_eq_left',exists_eq_left,exists_and_left,and_assoc,and_true,true_and,List.append_nil,List.cons_append,List.nil_append,decide_eq_true_eq,decide_true,decide_false,eq_self,reduceIte,if_true,if_false,Bool.false_eq_true,Bool.not_true,Bool.not_false,Int.zero_add,reduceCtorEq,false_and,exists_false,false_or,or_false,a_slS,a_comp,a_emit,a_yes,a_iEnum,a_setd,a_sortK,a_dget1,a_dget2,a_disp,a_pairs0,a_pairs1,a_dget,a_augS,a_rGetL,a_raise,a_isE,a_countB]
      refine ⟨_, SqT.of h3, _, rfl, ?_⟩
      simp only [a_var,a_c,a_op,a_un,a_rI,a_rI0,a_rU,a_rEq,a_rNe,s_ii,s_bb,s_ss,a_test,a_tB,a_and,a_or,a_not,a_andV,a_orV,a_notV,a_if,a_next,a_seq,a_brk,a_cont,a_drop,a_ret,a_retN,a_ifS,a_gName,a_gNil,a_gCons,a_gTup,a_gSub,a_asg,a_par,a_aug,a_ipI,a_nil,a_cons,a_tup,a_lst,a_dnew,a_call,a_cb,a_bm,a_bm0,a_noPart,a_part,a_sl,a_rSlL,a_rIxL,a_rIxT,a_rSetL,a_append,a_insert,a_rIn,a_din,a_dnotin,a_dput,a_for,a_iList,a_iTup,a_iRng1,a_iZip,a_rRep,a_rCat,cxK,List.getElem?_cons_zero,List.getElem?_cons_succ,List.set_cons_zero,List.set_cons_succ,Option.some.injEq,V.int.injEq,V.ref.injEq,V.bl.injEq,V.str.injEq,V.ty.injEq,List.cons.injEq,exists_eq_left',exists_eq_left,exists_and_left,and_assoc,and_true,true_and,List.append_nil,List.cons_append,List.nil_append,decide_eq_true_eq,decide_true,decide_false,eq_self,reduceIte,if_true,if_false,Bool.false_eq_true,Bool.not_true,Bool.not_false,Int.zero_add,reduceCtorEq,false_and,exists_false,false_or,or_false,a_slS,a_comp,a_emit,a_yes,a_iEnum,a_setd,a_sortK,a_dget1,a_dget2,a_disp,a_pairs0,a_pairs1,a_dget,a_augS,a_rGetL,a_raise,a_isE,a_countB]
      refine ite2 (fun e1 => kE ⟨r, List.mem_of_getElem? hr', e1⟩ Hi (Same.refl _)) (fun e1 => ⟨_, rfl, rfl, fun r' hr => ?_⟩)
      rw [take_snoc hr'] at hr
      rcases List.mem_append.mp hr with q | q
      · exact hw r' q
      · rw [List.mem_singleton.mp q]; omega
    · rintro σ Hi ⟨v1, rfl, rfl, hw⟩
      rw [List.length_map, Paired.length hP, List.take_length] at hw
      exact k hw Hi (Same.refl _)
end
abbrev s_refuse_one_station : Stmt := top 22
theorem sc_refuse_one_station : FnScope ["spring", "drain"] ["spring", "drain"] (defScope s_refuse_one_station) := ⟨rfl, rfl, rfl, by decide +kernel, rfl, by decide +kernel, by decide +kernel⟩
section
variable {P : Program} {w : World} {K : PySem.W.Frag} {mg : Str → Option Value} {base : Heap}
theorem ok_refuse_one_station {f : Addr} {fd : FuncData} (F : Fun K "refuse_one_station" "refuse_one_station" s_refuse_one_station f fd) (T : Txt K mg) {cF cN cW c1 : Addr} (CL : Cls K mg cF cN cW c1)  :
    FnOk P w K mg base (CXR P w) 1 f fd ["spring", "drain"] (spRef1R c1) := by
  refine F.okR sc_refuse_one_station (fun vs H Q E h => ?_) (fun cdv A outer s H vs Q E hr h => ?_)
  · obtain ⟨s, t, rfl, k, kE⟩ := h
    rfl
  · obtain ⟨s, t, rfl, k, kE⟩ := h
    have SC := sc_refuse_one_station
    have hu := hu_of hr
    have hu0 := hr.units0
    refine ⟨_, (pss_one (ps_if (pt_cmpR op_eq (pv 0) (pv 1) (nomark _))
  (pss_one (ps_raise raisesR rfl rfl CL.m1 CL.r1.z.ob))
  pss_nil)), ?_⟩
    rw [show start ["spring", "drain"] [V.int s, V.int t] = [some (V.int s), some (V.int t)] from rfl]
    simp only [a_var,a_c,a_op,a_un,a_rI,a_rI0,a_rU,a_rEq,a_rNe,s_ii,s_bb,s_ss,a_test,a_tB,a_and,a_or,a_not,a_andV,a_orV,a_notV,a_if,a_next,a_seq,a_brk,a_cont,a_drop,a_ret,a_retN,a_ifS,a_gName,a_gNil,a_gCons,a_gTup,a_gSub,a_asg,a_par,a_aug,a_ipI,a_nil,a_cons,a_tup,a_lst,a_dnew,a_call,a_cb,a_bm,a_bm0,a_noPart,a_part,a_sl,a_rSlL,a_rIxL,a_rIxT,a_rSetL,a_append,a_insert,a_rIn,a_din,a_dnotin,a_dput,a_for,a_iList,a_iTup,a_iRng1,a_iZip,a_rRep,a_rCat,cxK,List.getElem?_cons_zero,List.getElem?_cons_succ,List.set_cons_zero,List.set_cons_succ,Option.some.injEq,V.int.injEq,V.ref.injEq,V.bl.injEq,V.str.injEq,V.ty.injEq,List.cons.injEq,exists_eq_left',exists_eq_left,exists_and_left,and_assoc,and_true,true_and,List.append_nil,List.cons_append,List.nil_append,decide_eq_true_eq,decide_true,decide_false,eq_self,reduceIte,if_true,if_false,Bool.false_eq_true,Bool.not_true,Bool.not_false,Int.zero_add,reduceCtorEq,false_and,exists_false,false_or,or_false,a_slS,a_comp,a_emit,a_yes,a_iEnum,a_setd,a_sortK,a_dget1,a_dget2,a_disp,a_pairs0,a_pairs1,a_dget,a_augS,a_rGetL,a_raise,a_isE,a_countB]
    exact ite2 (fun e1 => kE e1 H (Same.refl _)) (fun e1 => k e1 H (Same.refl _))
end
abbrev s_best_flow : Stmt := top 17
theorem sc_best_flow : FnScope ["count", "pipes", "spring", "drain", "plan"] ["count", "pipes", "spring", "drain"] (defScope s_best_flow) := ⟨rfl, rfl, rfl, by decide +kernel, rfl, by decide +kernel, by decide +kernel⟩
section
variable {P : Program} {w : World} {K : PySem.W.Frag} {mg : Str → Option Value} {base : Heap}
theorem ok_best_flow {f : Addr} {fd : FuncData} (F : Fun K "best_flow" "best_flow" s_best_flow f fd) (T : Txt K mg) {cF cN cW c1 : Addr} (CL : Cls K mg cF cN cW c1) {f_greatest_plan : Addr} {fd_greatest_plan : FuncData} (F_greatest_plan : FOk P w K mg base "greatest_plan" 4 ["count", "pipes", "spring", "drain"] (spGreat K) f_greatest_plan fd_greatest_plan) {f_reached_from : Addr} {fd_reached_from : FuncData} (F_reached_from : FOk P w K mg base "reached_from" 3 ["count", "pipes", "plan", "station"] (spReached K) f_reached_from fd_reached_from) {f_refuse_no_station : Addr} {fd_refuse_no_station : FuncData} (F_refuse_no_station : FOkR P w K mg base "refuse_no_station" 1 ["count", "pipes", "spring", "drain"] (spRefStR K cN) f_refuse_no_station fd_refuse_no_station) {f_refuse_no_width : Addr} {fd_refuse_no_width : FuncData} (F_refuse_no_width : FOkR P w K mg base "refuse_no_width" 1 ["pipes"] (spRefWR K cW) f_refuse_no_width fd_refuse_no_width) {f_refuse_one_station : Addr} {fd_refuse_one_station : FuncData} (F_refuse_one_station : FOkR P w K mg base "refuse_one_station" 1 ["spring", "drain"] (spRef1R c1) f_refuse_one_station fd_refuse_one_station) :
    FnOk P w K mg base (CXR P w) 5 f fd ["count", "pipes", "spring", "drain"] (spBestR K cN cW c1) := by
  refine F.okR sc_best_flow (fun vs H Q E h => ?_) (fun cdv A outer s H vs Q E hr h => ?_)
  · obtain ⟨a, ps, rows, n, s, t, rfl, hA, hP, hz, hn, kN, kW, k1, k⟩ := h
    rfl
  · obtain ⟨a, ps, rows, n, s, t, rfl, hA, hP, hz, hn, kN, kW, k1, k⟩ := h
    have SC := sc_best_flow
    have hu := hu_of hr
    have hu0 := hr.units0
    refine ⟨_, (pss_cons (ps_expr (pe_call F_refuse_no_station.G (hr.mono (by decide)) rfl F_refuse_no_station.m F_refuse_no_station.kp F_refuse_no_station.b .nil passR (pa_cons (pv 0) (pa_cons (pv 1) (pa_cons (pv 2) (pa_cons (pv 3) pa_nil))))))
  (pss_cons (ps_expr (pe_call F_refuse_no_width.G (hr.mono (by decide)) rfl F_refuse_no_width.m F_refuse_no_width.kp F_refuse_no_width.b .nil passR (pa_cons (pv 1) pa_nil)))
  (pss_cons (ps_expr (pe_call F_refuse_one_station.G (hr.mono (by decide)) rfl F_refuse_one_station.m F_refuse_one_station.kp F_refuse_one_station.b .nil passR (pa_cons (pv 2) (pa_cons (pv 3) pa_nil))))
  (pss_cons (ps_set (i := 4) SC.nd rfl (Or.inl rfl) (pe_call F_greatest_plan.G (hr.mono (by decide)) rfl F_greatest_plan.m F_greatest_plan.kp F_greatest_plan.b .nil pass0 (pa_cons (pv 0) (pa_cons (pv 1) (pa_cons (pv 2) (pa_cons (pv 3) pa_nil))))))
  (pss_one (ps_ret (pe_tup (pa_cons (pv 4) (pa_cons (pe_call F_reached_from.G (hr.mono (by decide)) rfl F_reached_from.m F_reached_from.kp F_reached_from.b .nil pass0 (pa_cons (pv 0) (pa_cons (pv 1) (pa_cons (pv 4) (pa_cons (pv 2) pa_nil))))) pa_nil))))))))), ?_⟩
    rw [show start ["count", "pipes", "spring", "drain", "plan"] [V.int n, V.ref a, V.int s, V.int t] = [some (V.int n), some (V.ref a), some (V.int s), some (V.int t), none] from rfl]
    have hlp := Paired.length hP
    refine seq_step fun N hN => ?_
    simp only [a_var,a_c,a_op,a_un,a_rI,a_rI0,a_rU,a_rEq,a_rNe,s_ii,s_bb,s_ss,a_test,a_tB,a_and,a_or,a_not,a_andV,a_orV,a_notV,a_if,a_next,a_seq,a_brk,a_cont,a_drop,a_ret,a_retN,a_ifS,a_gName,a_gNil,a_gCons,a_gTup,a_gSub,a_asg,a_par,a_aug,a_ipI,a_nil,a_cons,a_tup,a_lst,a_dnew,a_call,a_cb,a_bm,a_bm0,a_noPart,a_part,a_sl,a_rSlL,a_rIxL,a_rIxT,a_rSetL,a_append,a_insert,a_rIn,a_din,a_dnotin,a_dput,a_for,a_iList,a_iTup,a_iRng1,a_iZip,a_rRep,a_rCat,cxK,List.getElem?_cons_zero,List.getElem?_cons_succ,List.set_cons_zero,List.set_cons_succ,Option.some.injEq,V.int.injEq,V.ref.injEq,V.bl.injEq,V.str.injEq,V.ty.injEq,List.cons.injEq,exists_eq_left',exists_eq_left,exists_and_left,and_assoc,and_true,true_and,List.append_nil,List.cons_append,List.nil_append,decide_eq_true_eq,decide_true,decide_false,eq_self,reduceIte,if_true,if_false,Bool.false_eq_true,Bool.not_true,Bool.not_false,Int.zero_add,reduceCtorEq,false_and,exists_false,false_or,or_false,a_slS,a_comp,a_emit,a_yes,a_iEnum,a_setd,a_sortK,a_dget1,a_dget2,a_disp,a_pairs0,a_pairs1,a_dget,a_augS,a_rGetL,a_raise,a_isE,a_countB]
    refine ⟨a, ps, rows, (n : Int), s, t, rfl, hA, hP, hz, fun hin H1 s1 => ?_, fun hno H1 s1 => kN hno H1 s1⟩
    refine hN _ _ ?_
    clear hN N
    obtain ⟨hs0, hs1⟩ := hin s (endsL_mem.mpr (.inl rfl))
    obtain ⟨ht0, ht1⟩ := hin t (endsL_mem.mpr (.inr (.inl rfl)))
    refine seq_step fun N hN => ?_
    simp only [a_var,a_c,a_op,a_un,a_rI,a_rI0,a_rU,a_rEq,a_rNe,s_ii,s_bb,s_ss,a_test,a_tB,a_and,a_or,a_not,a_andV,a_orV,a_notV,a_if,a_next,a_seq,a_brk,a_cont,a_drop,a_ret,a_retN,a_ifS,a_gName,a_gNil,a_gCons,a_gTup,a_gSub,a_asg,a_par,a_aug,a_ipI,a_nil,a_cons,a_tup,a_lst,a_dnew,a_call,a_cb,a_bm,a_bm0,a_noPart,a_part,a_sl,a_rSlL,a_rIxL,a_rIxT,a_rSetL,a_append,a_insert,a_rIn,a_din,a_dnotin,a_dput,a_for,a_iList,a_iTup,a_iRng1,a_iZip,a_rRep,a_rCat,cxK,List.getElem?_cons_zero,List.getElem?_cons_succ,List.set_cons_zero,List.set_cons_succ,Option.some.injEq,V.int.injEq,V.ref.injEq,V.bl.injEq,V.str.injEq,V.ty.injEq,List.cons.injEq,exists_eq_left',exists_eq_left,exists_and_left,and_assoc,and_true,true_and,List.append_nil,List.cons_append,List.nil_append,decide_eq_true_eq,decide_true,decide_false,eq_self,reduceIte,if_true,if_false,Bool.false_eq_true,Bool.not_true,Bool.not_false,Int.zero_add,reduceCtorEq,false_and,exists_false,false_or,or_false,a_slS,a_comp,a_emit,a_yes,a_iEnum,a_setd,a_sortK,a_dget1,a_dget2,a_disp,a_pairs0,a_pairs1,a_dget,a_augS,a_rGetL,a_raise,a_isE,a_countB]
    refine ⟨a, ps, rows, rfl, s1.seq hA, rows_same s1 hP, fun hw H2 s2 => ?_, fun hw H2 s2 => kW hin hw H2 (s1.trans s2)⟩
    refine hN _ _ ?_
    clear hN N
    have hF : Fit n rows := fit_of hin hw
    have s12 := s1.trans s2
    refine seq_step fun N hN => ?_
    simp only [a_var,a_c,a_op,a_un,a_rI,a_rI0,a_rU,a_rEq,a_rNe,s_ii,s_bb,s_ss,a_test,a_tB,a_and,a_or,a_not,a_andV,a_orV,a_notV,a_if,a_next,a_seq,a_brk,a_cont,a_drop,a_ret,a_retN,a_ifS,a_gName,a_gNil,a_gCons,a_gTup,a_gSub,a_asg,a_par,a_aug,a_ipI,a_nil,a_cons,a_tup,a_lst,a_dnew,a_call,a_cb,a_bm,a_bm0,a_noPart,a_part,a_sl,a_rSlL,a_rIxL,a_rIxT,a_rSetL,a_append,a_insert,a_rIn,a_din,a_dnotin,a_dput,a_for,a_iList,a_iTup,a_iRng1,a_iZip,a_rRep,a_rCat,cxK,List.getElem?_cons_zero,List.getElem?_cons_succ,List.set_cons_zero,List.set_cons_succ,Option.some.injEq,V.int.injEq,V.ref.injEq,V.bl.injEq,V.str.injEq,V.ty.injEq,List.cons.injEq,exists_eq_left',exists_eq_left,exists_and_left,and_assoc,and_true,true_and,List.append_nil,List.cons_append,List.nil_append,decide_eq_true_eq,decide_true,decide_false,eq_self,reduceIte,if_true,if_false,Bool.false_eq_true,Bool.not_true,Bool.not_false,Int.zero_add,reduceCtorEq,false_and,exists_false,false_or,or_false,a_slS,a_comp,a_emit,a_yes,a_iEnum,a_setd,a_sortK,a_dget1,a_dget2,a_disp,a_pairs0,a_pairs1,a_dget,a_augS,a_rGetL,a_raise,a_isE,a_countB]
    refine ⟨s, t, rfl, fun hst H3 s3 => ?_, fun he H3 s3 => k1 hin hw he H3 (s12.trans s3)⟩
    refine hN _ _ ?_
    clear hN N
    have s13 := s12.trans s3
    refine seq_step fun N hN => ?_
    simp only [a_var,a_c,a_op,a_un,a_rI,a_rI0,a_rU,a_rEq,a_rNe,s_ii,s_bb,s_ss,a_test,a_tB,a_and,a_or,a_not,a_andV,a_orV,a_notV,a_if,a_next,a_seq,a_brk,a_cont,a_drop,a_ret,a_retN,a_ifS,a_gName,a_gNil,a_gCons,a_gTup,a_gSub,a_asg,a_par,a_aug,a_ipI,a_nil,a_cons,a_tup,a_lst,a_dnew,a_call,a_cb,a_bm,a_bm0,a_noPart,a_part,a_sl,a_rSlL,a_rIxL,a_rIxT,a_rSetL,a_append,a_insert,a_rIn,a_din,a_dnotin,a_dput,a_for,a_iList,a_iTup,a_iRng1,a_iZip,a_rRep,a_rCat,cxK,List.getElem?_cons_zero,List.getElem?_cons_succ,List.set_cons_zero,List.set_cons_succ,Option.some.injEq,V.int.injEq,V.ref.injEq,V.bl.injEq,V.str.injEq,V.ty.injEq,List.cons.injEq,exists_eq_left',exists_eq_left,exists_and_left,and_assoc,and_true,true_and,List.append_nil,List.cons_append,List.nil_append,decide_eq_true_eq,decide_true,decide_false,eq_self,reduceIte,if_true,if_false,Bool.false_eq_true,Bool.not_true,Bool.not_false,Int.zero_add,reduceCtorEq,false_and,exists_false,false_or,or_false,a_slS,a_comp,a_emit,a_yes,a_iEnum,a_setd,a_sortK,a_dget1,a_dget2,a_disp,a_pairs0,a_pairs1,a_dget,a_augS,a_rGetL,a_raise,a_isE,a_countB]
    refine ⟨a, ps, rows, n, s, t, rfl, s13.seq hA, rows_same s13 hP, by omega, hn, hF, hs0, hs1, ht0, ht1, hst, fun f flows H4 hf Kp hnr s4 => ?_⟩
    refine hN _ _ ?_
    clear hN N
    have s14 := s13.trans s4
    simp only [a_var,a_c,a_op,a_un,a_rI,a_rI0,a_rU,a_rEq,a_rNe,s_ii,s_bb,s_ss,a_test,a_tB,a_and,a_or,a_not,a_andV,a_orV,a_notV,a_if,a_next,a_seq,a_brk,a_cont,a_drop,a_ret,a_retN,a_ifS,a_gName,a_gNil,a_gCons,a_gTup,a_gSub,a_asg,a_par,a_aug,a_ipI,a_nil,a_cons,a_tup,a_lst,a_dnew,a_call,a_cb,a_bm,a_bm0,a_noPart,a_part,a_sl,a_rSlL,a_rIxL,a_rIxT,a_rSetL,a_append,a_insert,a_rIn,a_din,a_dnotin,a_dput,a_for,a_iList,a_iTup,a_iRng1,a_iZip,a_rRep,a_rCat,cxK,List.getElem?_cons_zero,List.getElem?_cons_succ,List.set_cons_zero,List.set_cons_succ,Option.some.injEq,V.int.injEq,V.ref.injEq,V.bl.injEq,V.str.injEq,V.ty.injEq,List.cons.injEq,exists_eq_left',exists_eq_left,exists_and_left,and_assoc,and_true,true_and,List.append_nil,List.cons_append,List.nil_append,decide_eq_true_eq,decide_true,decide_false,eq_self,reduceIte,if_true,if_false,Bool.false_eq_true,Bool.not_true,Bool.not_false,Int.zero_add,reduceCtorEq,false_and,exists_false,false_or,or_false,a_slS,a_comp,a_emit,a_yes,a_iEnum,a_setd,a_sortK,a_dget1,a_dget2,a_disp,a_pairs0,a_pairs1,a_dget,a_augS,a_rGetL,a_raise,a_isE,a_countB]
    refine ⟨a, f, ps, rows, flows, n, s, rfl, ⟨s14.seq hA, SqL.of hf, rows_same s14 hP, by rw [Kp.len, hlp], by omega, hn, hF, Kp.fit⟩, hs0, hs1, fun l bs H5 nl hl hb s5 => ?_⟩
    try simp only [a_var,a_c,a_op,a_un,a_rI,a_rI0,a_rU,a_rEq,a_rNe,s_ii,s_bb,s_ss,a_test,a_tB,a_and,a_or,a_not,a_andV,a_orV,a_notV,a_if,a_next,a_seq,a_brk,a_cont,a_drop,a_ret,a_retN,a_ifS,a_gName,a_gNil,a_gCons,a_gTup,a_gSub,a_asg,a_par,a_aug,a_ipI,a_nil,a_cons,a_tup,a_lst,a_dnew,a_call,a_cb,a_bm,a_bm0,a_noPart,a_part,a_sl,a_rSlL,a_rIxL,a_rIxT,a_rSetL,a_append,a_insert,a_rIn,a_din,a_dnotin,a_dput,a_for,a_iList,a_iTup,a_iRng1,a_iZip,a_rRep,a_rCat,cxK,List.getElem?_cons_zero,List.getElem?_cons_succ,List.set_cons_zero,List.set_cons_succ,Option.some.injEq,V.int.injEq,V.ref.injEq,V.bl.injEq,V.str.injEq,V.ty.injEq,List.cons.injEq,exists_eq_left',exists_eq_left,exists_and_left,and_assoc,and_true,true_and,List.append_nil,List.cons_append,List.nil_append,decide_eq_true_eq,decide_true,decide_false,eq_self,reduceIte,if_true,if_false,Bool.false_eq_true,Bool.not_true,Bool.not_false,Int.zero_add,reduceCtorEq,false_and,exists_false,false_or,or_false,a_slS,a_comp,a_emit,a_yes,a_iEnum,a_setd,a_sortK,a_dget1,a_dget2,a_disp,a_pairs0,a_pairs1,a_dget,a_augS,a_rGetL,a_raise,a_isE,a_countB]
    refine ⟨(show 2 ≤ sizeLine by decide), fun q nq => ?_⟩
    exact k hin hw hst _ _ (s14.trans (same_upd s5 nq))
end
abbrev s_said : Stmt := top 28
theorem sc_said : FnScope ["_law_count", "_law_tubes", "_law_spring", "_law_drain", "_law_word", "e", "_law_kinds"] ["_law_count", "_law_tubes", "_law_spring", "_law_drain"] (defScope s_said) := ⟨rfl, rfl, rfl, by decide +kernel, rfl, by decide +kernel, by decide +kernel⟩
section
variable {P : Program} {w : World} {K : PySem.W.Frag} {mg : Str → Option Value} {base : Heap}
theorem ok_said {f : Addr} {fd : FuncData} (F : Fun K "_law_said" "_law_said" s_said f fd) (T : Txt K mg) {cF cN cW c1 : Addr} (CL : Cls K mg cF cN cW c1) {f_best_flow : Addr} {fd_best_flow : FuncData} (F_best_flow : FOkR P w K mg base "best_flow" 5 ["count", "pipes", "spring", "drain"] (spBestR K cN cW c1) f_best_flow fd_best_flow) :
    FnOk P w K mg base CX0 6 f fd ["_law_count", "_law_tubes", "_law_spring", "_law_drain"] (spSaid K) := by
  refine F.ok sc_said (fun vs H Q E h => ?_) (fun cdv A outer s H vs Q E hr h => ?_)
  · obtain ⟨a, ps, rows, n, s, t, rfl, hA, hP, hz, hn, k⟩ := h
    rfl
  · obtain ⟨a, ps, rows, n, s, t, rfl, hA, hP, hz, hn, k⟩ := h
    have SC := sc_said
    have hu := hu_of hr
    have hu0 := hr.units0
    refine ⟨_, (pss_cons (ps_set (i := 4) SC.nd rfl (Or.inl rfl) pe_str)
  (pss_cons (ps_try (i := 5) F_best_flow.G (hr.mono (by decide)) rfl F_best_flow.m F_best_flow.kp F_best_flow.b (fun _ => (pa_cons (pv 0) (pa_cons (pv 1) (pa_cons (pv 2) (pa_cons (pv 3) pa_nil))))) rfl CL.mF SC.nd rfl rfl (fun _ _ ea C oe hoe Zoe => (pss_cons (ps_set (i := 4) SC.nd rfl (Or.inl rfl) pe_str)
  (pss_cons (ps_if (pt_val (pe_callB (call_isE (K := K) rfl (List.mem_append_right _ (List.mem_singleton.mpr rfl)) hoe Zoe) rfl T.z_isinstance PyProof.Rows.boot_isinstance (pa_cons (pv 5) (pa_cons (pe_glob (v := .ref cN) rfl CL.mN rfl) pa_nil))))
  (pss_one (ps_set (i := 4) SC.nd rfl (Or.inl rfl) pe_str))
  pss_nil)
  (pss_cons (ps_if (pt_val (pe_callB (call_isE (K := K) rfl (List.mem_append_right _ (List.mem_singleton.mpr rfl)) hoe Zoe) rfl T.z_isinstance PyProof.Rows.boot_isinstance (pa_cons (pv 5) (pa_cons (pe_glob (v := .ref cW) rfl CL.mW rfl) pa_nil))))
  (pss_one (ps_set (i := 4) SC.nd rfl (Or.inl rfl) pe_str))
  pss_nil)
  (pss_cons (ps_if (pt_val (pe_callB (call_isE (K := K) rfl (List.mem_append_right _ (List.mem_singleton.mpr rfl)) hoe Zoe) rfl T.z_isinstance PyProof.Rows.boot_isinstance (pa_cons (pv 5) (pa_cons (pe_glob (v := .ref c1) rfl CL.m1 rfl) pa_nil))))
  (pss_one (ps_set (i := 4) SC.nd rfl (Or.inl rfl) pe_str))
  pss_nil)
  (pss_cons (ps_if (pt_not (pt_val (pe_callB (call_isE (K := K) rfl (List.mem_append_right _ (List.mem_singleton.mpr rfl)) hoe Zoe) rfl T.z_isinstance PyProof.Rows.boot_isinstance (pa_cons (pv 5) (pa_cons (pe_bltn (v := .ty "ValueError") rfl T.z_ValueError PyProof.Rows.Boot.«ValueError» rfl) pa_nil)))))
  (pss_one (ps_set (i := 4) SC.nd rfl (Or.inl rfl) pe_str))
  pss_nil)
  (pss_cons (ps_set (i := 6) SC.nd rfl (Or.inl rfl) (pe_lst (pa_cons (pe_callB (call_isE (K := K) rfl (List.mem_append_right _ (List.mem_singleton.mpr rfl)) hoe Zoe) rfl T.z_isinstance PyProof.Rows.boot_isinstance (pa_cons (pv 5) (pa_cons (pe_glob (v := .ref cN) rfl CL.mN rfl) pa_nil))) (pa_cons (pe_callB (call_isE (K := K) rfl (List.mem_append_right _ (List.mem_singleton.mpr rfl)) hoe Zoe) rfl T.z_isinstance PyProof.Rows.boot_isinstance (pa_cons (pv 5) (pa_cons (pe_glob (v := .ref cW) rfl CL.mW rfl) pa_nil))) (pa_cons (pe_callB (call_isE (K := K) rfl (List.mem_append_right _ (List.mem_singleton.mpr rfl)) hoe Zoe) rfl T.z_isinstance PyProof.Rows.boot_isinstance (pa_cons (pv 5) (pa_cons (pe_glob (v := .ref c1) rfl CL.m1 rfl) pa_nil))) pa_nil)))))
  (pss_one (ps_if (PW.pt (pw_or (pt_cmpR op_ne (pe_countB (K := K) rfl (pv 6) (pa_cons pe_bl pa_nil)) pe_int (nomark _)) (pw_or1 (pt_not (pt_val (pe_callB (call_isE (K := K) rfl (List.mem_append_right _ (List.mem_singleton.mpr rfl)) hoe Zoe) rfl T.z_isinstance PyProof.Rows.boot_isinstance (pa_cons (pv 5) (pa_cons (pe_bltn (v := .ty "ValueError") rfl T.z_ValueError PyProof.Rows.Boot.«ValueError» rfl) pa_nil))))))))
  (pss_one (ps_set (i := 4) SC.nd rfl (Or.inl rfl) pe_str))
  pss_nil))))))))))
  (pss_one (ps_ret (pv 4))))), ?_⟩
    rw [show start ["_law_count", "_law_tubes", "_law_spring", "_law_drain", "_law_word", "e", "_law_kinds"] [V.int n, V.ref a, V.int s, V.int t] = [some (V.int n), some (V.ref a), some (V.int s), some (V.int t), none, none, none] from rfl]
    refine seq_step fun N hN => ?_
    simp only [a_var,a_c,a_op,a_un,a_rI,a_rI0,a_rU,a_rEq,a_rNe,s_ii,s_bb,s_ss,a_test,a_tB,a_and,a_or,a_not,a_andV,a_orV,a_notV,a_if,a_next,a_seq,a_brk,a_cont,a_drop,a_ret,a_retN,a_ifS,a_gName,a_gNil,a_gCons,a_gTup,a_gSub,a_asg,a_par,a_aug,a_ipI,a_nil,a_cons,a_tup,a_lst,a_dnew,a_call,a_cb,a_bm,a_bm0,a_noPart,a_part,a_sl,a_rSlL,a_rIxL,a_rIxT,a_rSetL,a_append,a_insert,a_rIn,a_din,a_dnotin,a_dput,a_for,a_iList,a_iTup,a_iRng1,a_iZip,a_rRep,a_rCat,cxK,List.getElem?_cons_zero,List.getElem?_cons_succ,List.set_cons_zero,List.set_cons_succ,Option.some.injEq,V.int.injEq,V.ref.injEq,V.bl.injEq,V.str.injEq,V.ty.injEq,List.cons.injEq,exists_eq_left',exists_eq_left,exists_and_left,and_assoc,and_true,true_and,List.append_nil,List.cons_append,List.nil_append,decide_eq_true_eq,decide_true,decide_false,eq_self,reduceIte,if_true,if_false,Bool.false_eq_true,Bool.not_true,Bool.not_false,Int.zero_add,reduceCtorEq,false_and,exists_false,false_or,or_false,a_slS,a_comp,a_emit,a_yes,a_iEnum,a_setd,a_sortK,a_dget1,a_dget2,a_disp,a_pairs0,a_pairs1,a_dget,a_augS,a_rGetL,a_raise,a_isE,a_countB]
    refine hN _ _ ?_
    clear hN N
    refine seq_step fun N0 hN0 => ?_
    simp only [a_try, a_cons, a_nil, a_var, cxK, List.getElem?_cons_zero, List.getElem?_cons_succ, Option.some.injEq, exists_eq_left', exists_eq_left]
    refine ⟨a, ps, rows, n, s, t, rfl, hA, hP, hz, hn, fun hno H1 s1 => ?_, fun hin hw H1 s1 => ?_, fun hin hw he H1 s1 => ?_, fun hin hw hne v H1 s1 => ?_⟩
    · refine ⟨cN, rfl, CL.rN.z, CL.rN.ex, fun ea hea => ?_⟩
      simp only [List.set_cons_zero, List.set_cons_succ]
      refine seq_step fun N hN => ?_
      simp only [a_var,a_c,a_op,a_un,a_rI,a_rI0,a_rU,a_rEq,a_rNe,s_ii,s_bb,s_ss,a_test,a_tB,a_and,a_or,a_not,a_andV,a_orV,a_notV,a_if,a_next,a_seq,a_brk,a_cont,a_drop,a_ret,a_retN,a_ifS,a_gName,a_gNil,a_gCons,a_gTup,a_gSub,a_asg,a_par,a_aug,a_ipI,a_nil,a_cons,a_tup,a_lst,a_dnew,a_call,a_cb,a_bm,a_bm0,a_noPart,a_part,a_sl,a_rSlL,a_rIxL,a_rIxT,a_rSetL,a_append,a_insert,a_rIn,a_din,a_dnotin,a_dput,a_for,a_iList,a_iTup,a_iRng1,a_iZip,a_rRep,a_rCat,cxK,List.getElem?_cons_zero,List.getElem?_cons_succ,List.set_cons_zero,List.set_cons_succ,Option.some.injEq,V.int.injEq,V.ref.injEq,V.bl.injEq,V.str.injEq,V.ty.injEq,List.cons.injEq,exists_eq_left',exists_eq_left,exists_and_left,and_assoc,and_true,true_and,List.append_nil,List.cons_append,List.nil_append,decide_eq_true_eq,decide_true,decide_false,eq_self,reduceIte,if_true,if_false,Bool.false_eq_true,Bool.not_true,Bool.not_false,Int.zero_add,reduceCtorEq,false_and,exists_false,false_or,or_false,a_slS,a_comp,a_emit,a_yes,a_iEnum,a_setd,a_sortK,a_dget1,a_dget2,a_disp,a_pairs0,a_pairs1,a_dget,a_augS,a_rGetL,a_raise,a_isE,a_countB]
      refine hN _ _ ?_
      clear hN N
      refine seq_step fun N hN => ?_
      simp only [a_var,a_c,a_op,a_un,a_rI,a_rI0,a_rU,a_rEq,a_rNe,s_ii,s_bb,s_ss,a_test,a_tB,a_and,a_or,a_not,a_andV,a_orV,a_notV,a_if,a_next,a_seq,a_brk,a_cont,a_drop,a_ret,a_retN,a_ifS,a_gName,a_gNil,a_gCons,a_gTup,a_gSub,a_asg,a_par,a_aug,a_ipI,a_nil,a_cons,a_tup,a_lst,a_dnew,a_call,a_cb,a_bm,a_bm0,a_noPart,a_part,a_sl,a_rSlL,a_rIxL,a_rIxT,a_rSetL,a_append,a_insert,a_rIn,a_din,a_dnotin,a_dput,a_for,a_iList,a_iTup,a_iRng1,a_iZip,a_rRep,a_rCat,cxK,List.getElem?_cons_zero,List.getElem?_cons_succ,List.set_cons_zero,List.set_cons_succ,Option.some.injEq,V.int.injEq,V.ref.injEq,V.bl.injEq,V.str.injEq,V.ty.injEq,List.cons.injEq,exists_eq_left',exists_eq_left,exists_and_left,and_assoc,and_true,true_and,List.append_nil,List.cons_append,List.nil_append,decide_eq_true_eq,decide_true,decide_false,eq_self,reduceIte,if_true,if_false,Bool.false_eq_true,Bool.not_true,Bool.not_false,Int.zero_add,reduceCtorEq,false_and,exists_false,false_or,or_false,a_slS,a_comp,a_emit,a_yes,a_iEnum,a_setd,a_sortK,a_dget1,a_dget2,a_disp,a_pairs0,a_pairs1,a_dget,a_augS,a_rGetL,a_raise,a_isE,a_countB]
      refine ⟨.ref cN, rfl, fun u r => r, true, CL.rN.kN, ?_⟩
      try simp only [a_var,a_c,a_op,a_un,a_rI,a_rI0,a_rU,a_rEq,a_rNe,s_ii,s_bb,s_ss,a_test,a_tB,a_and,a_or,a_not,a_andV,a_orV,a_notV,a_if,a_next,a_seq,a_brk,a_cont,a_drop,a_ret,a_retN,a_ifS,a_gName,a_gNil,a_gCons,a_gTup,a_gSub,a_asg,a_par,a_aug,a_ipI,a_nil,a_cons,a_tup,a_lst,a_dnew,a_call,a_cb,a_bm,a_bm0,a_noPart,a_part,a_sl,a_rSlL,a_rIxL,a_rIxT,a_rSetL,a_append,a_insert,a_rIn,a_din,a_dnotin,a_dput,a_for,a_iList,a_iTup,a_iRng1,a_iZip,a_rRep,a_rCat,cxK,List.getElem?_cons_zero,List.getElem?_cons_succ,List.set_cons_zero,List.set_cons_succ,Option.some.injEq,V.int.injEq,V.ref.injEq,V.bl.injEq,V.str.injEq,V.ty.injEq,List.cons.injEq,exists_eq_left',exists_eq_left,exists_and_left,and_assoc,and_true,true_and,List.append_nil,List.cons_append,List.nil_append,decide_eq_true_eq,decide_true,decide_false,eq_self,reduceIte,if_true,if_false,Bool.false_eq_true,Bool.not_true,Bool.not_false,Int.zero_add,reduceCtorEq,false_and,exists_false,false_or,or_false,a_slS,a_comp,a_emit,a_yes,a_iEnum,a_setd,a_sortK,a_dget1,a_dget2,a_disp,a_pairs0,a_pairs1,a_dget,a_augS,a_rGetL,a_raise,a_isE,a_countB]
      refine hN _ _ ?_
      clear hN N
      refine seq_step fun N hN => ?_
      simp only [a_var,a_c,a_op,a_un,a_rI,a_rI0,a_rU,a_rEq,a_rNe,s_ii,s_bb,s_ss,a_test,a_tB,a_and,a_or,a_not,a_andV,a_orV,a_notV,a_if,a_next,a_seq,a_brk,a_cont,a_drop,a_ret,a_retN,a_ifS,a_gName,a_gNil,a_gCons,a_gTup,a_gSub,a_asg,a_par,a_aug,a_ipI,a_nil,a_cons,a_tup,a_lst,a_dnew,a_call,a_cb,a_bm,a_bm0,a_noPart,a_part,a_sl,a_rSlL,a_rIxL,a_rIxT,a_rSetL,a_append,a_insert,a_rIn,a_din,a_dnotin,a_dput,a_for,a_iList,a_iTup,a_iRng1,a_iZip,a_rRep,a_rCat,cxK,List.getElem?_cons_zero,List.getElem?_cons_succ,List.set_cons_zero,List.set_cons_succ,Option.some.injEq,V.int.injEq,V.ref.injEq,V.bl.injEq,V.str.injEq,V.ty.injEq,List.cons.injEq,exists_eq_left',exists_eq_left,exists_and_left,and_assoc,and_true,true_and,List.append_nil,List.cons_append,List.nil_append,decide_eq_true_eq,decide_true,decide_false,eq_self,reduceIte,if_true,if_false,Bool.false_eq_true,Bool.not_true,Bool.not_false,Int.zero_add,reduceCtorEq,false_and,exists_false,false_or,or_false,a_slS,a_comp,a_emit,a_yes,a_iEnum,a_setd,a_sortK,a_dget1,a_dget2,a_disp,a_pairs0,a_pairs1,a_dget,a_augS,a_rGetL,a_raise,a_isE,a_countB]
      refine ⟨.ref cW, rfl, fun u r => r, false, CL.rN.kW, ?_⟩
      try simp only [a_var,a_c,a_op,a_un,a_rI,a_rI0,a_rU,a_rEq,a_rNe,s_ii,s_bb,s_ss,a_test,a_tB,a_and,a_or,a_not,a_andV,a_orV,a_notV,a_if,a_next,a_seq,a_brk,a_cont,a_drop,a_ret,a_retN,a_ifS,a_gName,a_gNil,a_gCons,a_gTup,a_gSub,a_asg,a_par,a_aug,a_ipI,a_nil,a_cons,a_tup,a_lst,a_dnew,a_call,a_cb,a_bm,a_bm0,a_noPart,a_part,a_sl,a_rSlL,a_rIxL,a_rIxT,a_rSetL,a_append,a_insert,a_rIn,a_din,a_dnotin,a_dput,a_for,a_iList,a_iTup,a_iRng1,a_iZip,a_rRep,a_rCat,cxK,List.getElem?_cons_zero,List.getElem?_cons_succ,List.set_cons_zero,List.set_cons_succ,Option.some.injEq,V.int.injEq,V.ref.injEq,V.bl.injEq,V.str.injEq,V.ty.injEq,List.cons.injEq,exists_eq_left',exists_eq_left,exists_and_left,and_assoc,and_true,true_and,List.append_nil,List.cons_append,List.nil_append,decide_eq_true_eq,decide_true,decide_false,eq_self,reduceIte,if_true,if_false,Bool.false_eq_true,Bool.not_true,Bool.not_false,Int.zero_add,reduceCtorEq,false_and,exists_false,false_or,or_false,a_slS,a_comp,a_emit,a_yes,a_iEnum,a_setd,a_sortK,a_dget1,a_dget2,a_disp,a_pairs0,a_pairs1,a_dget,a_augS,a_rGetL,a_raise,a_isE,a_countB]
      refine hN _ _ ?_
      clear hN N
      refine seq_step fun N hN => ?_
      simp only [a_var,a_c,a_op,a_un,a_rI,a_rI0,a_rU,a_rEq,a_rNe,s_ii,s_bb,s_ss,a_test,a_tB,a_and,a_or,a_not,a_andV,a_orV,a_notV,a_if,a_next,a_seq,a_brk,a_cont,a_drop,a_ret,a_retN,a_ifS,a_gName,a_gNil,a_gCons,a_gTup,a_gSub,a_asg,a_par,a_aug,a_ipI,a_nil,a_cons,a_tup,a_lst,a_dnew,a_call,a_cb,a_bm,a_bm0,a_noPart,a_part,a_sl,a_rSlL,a_rIxL,a_rIxT,a_rSetL,a_append,a_insert,a_rIn,a_din,a_dnotin,a_dput,a_for,a_iList,a_iTup,a_iRng1,a_iZip,a_rRep,a_rCat,cxK,List.getElem?_cons_zero,List.getElem?_cons_succ,List.set_cons_zero,List.set_cons_succ,Option.some.injEq,V.int.injEq,V.ref.injEq,V.bl.injEq,V.str.injEq,V.ty.injEq,List.cons.injEq,exists_eq_left',exists_eq_left,exists_and_left,and_assoc,and_true,true_and,List.append_nil,List.cons_append,List.nil_append,decide_eq_true_eq,decide_true,decide_false,eq_self,reduceIte,if_true,if_false,Bool.false_eq_true,Bool.not_true,Bool.not_false,Int.zero_add,reduceCtorEq,false_and,exists_false,false_or,or_false,a_slS,a_comp,a_emit,a_yes,a_iEnum,a_setd,a_sortK,a_dget1,a_dget2,a_disp,a_pairs0,a_pairs1,a_dget,a_augS,a_rGetL,a_raise,a_isE,a_countB]
      refine ⟨.ref c1, rfl, fun u r => r, false, CL.rN.k1, ?_⟩
      try simp only [a_var,a_c,a_op,a_un,a_rI,a_rI0,a_rU,a_rEq,a_rNe,s_ii,s_bb,s_ss,a_test,a_tB,a_and,a_or,a_not,a_andV,a_orV,a_notV,a_if,a_next,a_seq,a_brk,a_cont,a_drop,a_ret,a_retN,a_ifS,a_gName,a_gNil,a_gCons,a_gTup,a_gSub,a_asg,a_par,a_aug,a_ipI,a_nil,a_cons,a_tup,a_lst,a_dnew,a_call,a_cb,a_bm,a_bm0,a_noPart,a_part,a_sl,a_rSlL,a_rIxL,a_rIxT,a_rSetL,a_append,a_insert,a_rIn,a_din,a_dnotin,a_dput,a_for,a_iList,a_iTup,a_iRng1,a_iZip,a_rRep,a_rCat,cxK,List.getElem?_cons_zero,List.getElem?_cons_succ,List.set_cons_zero,List.set_cons_succ,Option.some.injEq,V.int.injEq,V.ref.injEq,V.bl.injEq,V.str.injEq,V.ty.injEq,List.cons.injEq,exists_eq_left',exists_eq_left,exists_and_left,and_assoc,and_true,true_and,List.append_nil,List.cons_append,List.nil_append,decide_eq_true_eq,decide_true,decide_false,eq_self,reduceIte,if_true,if_false,Bool.false_eq_true,Bool.not_true,Bool.not_false,Int.zero_add,reduceCtorEq,false_and,exists_false,false_or,or_false,a_slS,a_comp,a_emit,a_yes,a_iEnum,a_setd,a_sortK,a_dget1,a_dget2,a_disp,a_pairs0,a_pairs1,a_dget,a_augS,a_rGetL,a_raise,a_isE,a_countB]
      refine hN _ _ ?_
      clear hN N
      refine seq_step fun N hN => ?_
      simp only [a_var,a_c,a_op,a_un,a_rI,a_rI0,a_rU,a_rEq,a_rNe,s_ii,s_bb,s_ss,a_test,a_tB,a_and,a_or,a_not,a_andV,a_orV,a_notV,a_if,a_next,a_seq,a_brk,a_cont,a_drop,a_ret,a_retN,a_ifS,a_gName,a_gNil,a_gCons,a_gTup,a_gSub,a_asg,a_par,a_aug,a_ipI,a_nil,a_cons,a_tup,a_lst,a_dnew,a_call,a_cb,a_bm,a_bm0,a_noPart,a_part,a_sl,a_rSlL,a_rIxL,a_rIxT,a_rSetL,a_append,a_insert,a_rIn,a_din,a_dnotin,a_dput,a_for,a_iList,a_iTup,a_iRng1,a_iZip,a_rRep,a_rCat,cxK,List.getElem?_cons_zero,List.getElem?_cons_succ,List.set_cons_zero,List.set_cons_succ,Option.some.injEq,V.int.injEq,V.ref.injEq,V.bl.injEq,V.str.injEq,V.ty.injEq,List.cons.injEq,exists_eq_left',exists_eq_left,exists_and_left,and_assoc,and_true,true_and,List.append_nil,List.cons_append,List.nil_append,decide_eq_true_eq,decide_true,decide_false,eq_self,reduceIte,if_true,if_false,Bool.false_eq_true,Bool.not_true,Bool.not_false,Int.zero_add,reduceCtorEq,false_and,exists_false,false_or,or_false,a_slS,a_comp,a_emit,a_yes,a_iEnum,a_setd,a_sortK,a_dget1,a_dget2,a_disp,a_pairs0,a_pairs1,a_dget,a_augS,a_rGetL,a_raise,a_isE,a_countB]
      refine ⟨.type "ValueError", rfl, fun u r => r, true, CL.rN.kV, ?_⟩
      try simp only [a_var,a_c,a_op,a_un,a_rI,a_rI0,a_rU,a_rEq,a_rNe,s_ii,s_bb,s_ss,a_test,a_tB,a_and,a_or,a_not,a_andV,a_orV,a_notV,a_if,a_next,a_seq,a_brk,a_cont,a_drop,a_ret,a_retN,a_ifS,a_gName,a_gNil,a_gCons,a_gTup,a_gSub,a_asg,a_par,a_aug,a_ipI,a_nil,a_cons,a_tup,a_lst,a_dnew,a_call,a_cb,a_bm,a_bm0,a_noPart,a_part,a_sl,a_rSlL,a_rIxL,a_rIxT,a_rSetL,a_append,a_insert,a_rIn,a_din,a_dnotin,a_dput,a_for,a_iList,a_iTup,a_iRng1,a_iZip,a_rRep,a_rCat,cxK,List.getElem?_cons_zero,List.getElem?_cons_succ,List.set_cons_zero,List.set_cons_succ,Option.some.injEq,V.int.injEq,V.ref.injEq,V.bl.injEq,V.str.injEq,V.ty.injEq,List.cons.injEq,exists_eq_left',exists_eq_left,exists_and_left,and_assoc,and_true,true_and,List.append_nil,List.cons_append,List.nil_append,decide_eq_true_eq,decide_true,decide_false,eq_self,reduceIte,if_true,if_false,Bool.false_eq_true,Bool.not_true,Bool.not_false,Int.zero_add,reduceCtorEq,false_and,exists_false,false_or,or_false,a_slS,a_comp,a_emit,a_yes,a_iEnum,a_setd,a_sortK,a_dget1,a_dget2,a_disp,a_pairs0,a_pairs1,a_dget,a_augS,a_rGetL,a_raise,a_isE,a_countB]
      refine hN _ _ ?_
      clear hN N
      refine seq_step fun N hN => ?_
      simp only [a_var,a_c,a_op,a_un,a_rI,a_rI0,a_rU,a_rEq,a_rNe,s_ii,s_bb,s_ss,a_test,a_tB,a_and,a_or,a_not,a_andV,a_orV,a_notV,a_if,a_next,a_seq,a_brk,a_cont,a_drop,a_ret,a_retN,a_ifS,a_gName,a_gNil,a_gCons,a_gTup,a_gSub,a_asg,a_par,a_aug,a_ipI,a_nil,a_cons,a_tup,a_lst,a_dnew,a_call,a_cb,a_bm,a_bm0,a_noPart,a_part,a_sl,a_rSlL,a_rIxL,a_rIxT,a_rSetL,a_append,a_insert,a_rIn,a_din,a_dnotin,a_dput,a_for,a_iList,a_iTup,a_iRng1,a_iZip,a_rRep,a_rCat,cxK,List.getElem?_cons_zero,List.getElem?_cons_succ,List.set_cons_zero,List.set_cons_succ,Option.some.injEq,V.int.injEq,V.ref.injEq,V.bl.injEq,V.str.injEq,V.ty.injEq,List.cons.injEq,exists_eq_left',exists_eq_left,exists_and_left,and_assoc,and_true,true_and,List.append_nil,List.cons_append,List.nil_append,decide_eq_true_eq,decide_true,decide_false,eq_self,reduceIte,if_true,if_false,Bool.false_eq_true,Bool.not_true,Bool.not_false,Int.zero_add,reduceCtorEq,false_and,exists_false,false_or,or_false,a_slS,a_comp,a_emit,a_yes,a_iEnum,a_setd,a_sortK,a_dget1,a_dget2,a_disp,a_pairs0,a_pairs1,a_dget,a_augS,a_rGetL,a_raise,a_isE,a_countB]
      refine ⟨.ref cN, rfl, fun u r => r, true, CL.rN.kN, ?_⟩
      try simp only [a_var,a_c,a_op,a_un,a_rI,a_rI0,a_rU,a_rEq,a_rNe,s_ii,s_bb,s_ss,a_test,a_tB,a_and,a_or,a_not,a_andV,a_orV,a_notV,a_if,a_next,a_seq,a_brk,a_cont,a_drop,a_ret,a_retN,a_ifS,a_gName,a_gNil,a_gCons,a_gTup,a_gSub,a_asg,a_par,a_aug,a_ipI,a_nil,a_cons,a_tup,a_lst,a_dnew,a_call,a_cb,a_bm,a_bm0,a_noPart,a_part,a_sl,a_rSlL,a_rIxL,a_rIxT,a_rSetL,a_append,a_insert,a_rIn,a_din,a_dnotin,a_dput,a_for,a_iList,a_iTup,a_iRng1,a_iZip,a_rRep,a_rCat,cxK,List.getElem?_cons_zero,List.getElem?_cons_succ,List.set_cons_zero,List.set_cons_succ,Option.some.injEq,V.int.injEq,V.ref.injEq,V.bl.injEq,V.str.injEq,V.ty.injEq,List.cons.injEq,exists_eq_left',exists_eq_left,exists_and_left,and_assoc,and_true,true_and,List.append_nil,List.cons_append,List.nil_append,decide_eq_true_eq,decide_true,decide_false,eq_self,reduceIte,if_true,if_false,Bool.false_eq_true,Bool.not_true,Bool.not_false,Int.zero_add,reduceCtorEq,false_and,exists_false,false_or,or_false,a_slS,a_comp,a_emit,a_yes,a_iEnum,a_setd,a_sortK,a_dget1,a_dget2,a_disp,a_pairs0,a_pairs1,a_dget,a_augS,a_rGetL,a_raise,a_isE,a_countB]
      refine ⟨.ref cW, rfl, fun u r => r, false, CL.rN.kW, ?_⟩
      try simp only [a_var,a_c,a_op,a_un,a_rI,a_rI0,a_rU,a_rEq,a_rNe,s_ii,s_bb,s_ss,a_test,a_tB,a_and,a_or,a_not,a_andV,a_orV,a_notV,a_if,a_next,a_seq,a_brk,a_cont,a_drop,a_ret,a_retN,a_ifS,a_gName,a_gNil,a_gCons,a_gTup,a_gSub,a_asg,a_par,a_aug,a_ipI,a_nil,a_cons,a_tup,a_lst,a_dnew,a_call,a_cb,a_bm,a_bm0,a_noPart,a_part,a_sl,a_rSlL,a_rIxL,a_rIxT,a_rSetL,a_append,a_insert,a_rIn,a_din,a_dnotin,a_dput,a_for,a_iList,a_iTup,a_iRng1,a_iZip,a_rRep,a_rCat,cxK,List.getElem?_cons_zero,List.getElem?_cons_succ,List.set_cons_zero,List.set_cons_succ,Option.some.injEq,V.int.injEq,V.ref.injEq,V.bl.injEq,V.str.injEq,V.ty.injEq,List.cons.injEq,exists_eq_left',exists_eq_left,exists_and_left,and_assoc,and_true,true_and,List.append_nil,List.cons_append,List.nil_append,decide_eq_true_eq,decide_true,decide_false,eq_self,reduceIte,if_true,if_false,Bool.false_eq_true,Bool.not_true,Bool.not_false,Int.zero_add,reduceCtorEq,false_and,exists_false,false_or,or_false,a_slS,a_comp,a_emit,a_yes,a_iEnum,a_setd,a_sortK,a_dget1,a_dget2,a_disp,a_pairs0,a_pairs1,a_dget,a_augS,a_rGetL,a_raise,a_isE,a_countB]
      refine ⟨.ref c1, rfl, fun u r => r, false, CL.rN.k1, ?_⟩
      try simp only [a_var,a_c,a_op,a_un,a_rI,a_rI0,a_rU,a_rEq,a_rNe,s_ii,s_bb,s_ss,a_test,a_tB,a_and,a_or,a_not,a_andV,a_orV,a_notV,a_if,a_next,a_seq,a_brk,a_cont,a_drop,a_ret,a_retN,a_ifS,a_gName,a_gNil,a_gCons,a_gTup,a_gSub,a_asg,a_par,a_aug,a_ipI,a_nil,a_cons,a_tup,a_lst,a_dnew,a_call,a_cb,a_bm,a_bm0,a_noPart,a_part,a_sl,a_rSlL,a_rIxL,a_rIxT,a_rSetL,a_append,a_insert,a_rIn,a_din,a_dnotin,a_dput,a_for,a_iList,a_iTup,a_iRng1,a_iZip,a_rRep,a_rCat,cxK,List.getElem?_cons_zero,List.getElem?_cons_succ,List.set_cons_zero,List.set_cons_succ,Option.some.injEq,V.int.injEq,V.ref.injEq,V.bl.injEq,V.str.injEq,V.ty.injEq,List.cons.injEq,exists_eq_left',exists_eq_left,exists_and_left,and_assoc,and_true,true_and,List.append_nil,List.cons_append,List.nil_append,decide_eq_true_eq,decide_true,decide_false,eq_self,reduceIte,if_true,if_false,Bool.false_eq_true,Bool.not_true,Bool.not_false,Int.zero_add,reduceCtorEq,false_and,exists_false,false_or,or_false,a_slS,a_comp,a_emit,a_yes,a_iEnum,a_setd,a_sortK,a_dget1,a_dget2,a_disp,a_pairs0,a_pairs1,a_dget,a_augS,a_rGetL,a_raise,a_isE,a_countB]
      refine ⟨(show 3 ≤ sizeLine by decide), fun p np => ?_⟩
      refine hN _ _ ?_
      clear hN N
      simp only [a_var,a_c,a_op,a_un,a_rI,a_rI0,a_rU,a_rEq,a_rNe,s_ii,s_bb,s_ss,a_test,a_tB,a_and,a_or,a_not,a_andV,a_orV,a_notV,a_if,a_next,a_seq,a_brk,a_cont,a_drop,a_ret,a_retN,a_ifS,a_gName,a_gNil,a_gCons,a_gTup,a_gSub,a_asg,a_par,a_aug,a_ipI,a_nil,a_cons,a_tup,a_lst,a_dnew,a_call,a_cb,a_bm,a_bm0,a_noPart,a_part,a_sl,a_rSlL,a_rIxL,a_rIxT,a_rSetL,a_append,a_insert,a_rIn,a_din,a_dnotin,a_dput,a_for,a_iList,a_iTup,a_iRng1,a_iZip,a_rRep,a_rCat,cxK,List.getElem?_cons_zero,List.getElem?_cons_succ,List.set_cons_zero,List.set_cons_succ,Option.some.injEq,V.int.injEq,V.ref.injEq,V.bl.injEq,V.str.injEq,V.ty.injEq,List.cons.injEq,exists_eq_left',exists_eq_left,exists_and_left,and_assoc,and_true,true_and,List.append_nil,List.cons_append,List.nil_append,decide_eq_true_eq,decide_true,decide_false,eq_self,reduceIte,if_true,if_false,Bool.false_eq_true,Bool.not_true,Bool.not_false,Int.zero_add,reduceCtorEq,false_and,exists_false,false_or,or_false,a_slS,a_comp,a_emit,a_yes,a_iEnum,a_setd,a_sortK,a_dget1,a_dget2,a_disp,a_pairs0,a_pairs1,a_dget,a_augS,a_rGetL,a_raise,a_isE,a_countB]
      refine ⟨.inl ⟨rfl, _, SqL.of upd_same⟩, [true, false, false], upd_same, ?_⟩
      simp only [a_var,a_c,a_op,a_un,a_rI,a_rI0,a_rU,a_rEq,a_rNe,s_ii,s_bb,s_ss,a_test,a_tB,a_and,a_or,a_not,a_andV,a_orV,a_notV,a_if,a_next,a_seq,a_brk,a_cont,a_drop,a_ret,a_retN,a_ifS,a_gName,a_gNil,a_gCons,a_gTup,a_gSub,a_asg,a_par,a_aug,a_ipI,a_nil,a_cons,a_tup,a_lst,a_dnew,a_call,a_cb,a_bm,a_bm0,a_noPart,a_part,a_sl,a_rSlL,a_rIxL,a_rIxT,a_rSetL,a_append,a_insert,a_rIn,a_din,a_dnotin,a_dput,a_for,a_iList,a_iTup,a_iRng1,a_iZip,a_rRep,a_rCat,cxK,List.getElem?_cons_zero,List.getElem?_cons_succ,List.set_cons_zero,List.set_cons_succ,Option.some.injEq,V.int.injEq,V.ref.injEq,V.bl.injEq,V.str.injEq,V.ty.injEq,List.cons.injEq,exists_eq_left',exists_eq_left,exists_and_left,and_assoc,and_true,true_and,List.append_nil,List.cons_append,List.nil_append,decide_eq_true_eq,decide_true,decide_false,eq_self,reduceIte,if_true,if_false,Bool.false_eq_true,Bool.not_true,Bool.not_false,Int.zero_add,reduceCtorEq,false_and,exists_false,false_or,or_false,a_slS,a_comp,a_emit,a_yes,a_iEnum,a_setd,a_sortK,a_dget1,a_dget2,a_disp,a_pairs0,a_pairs1,a_dget,a_augS,a_rGetL,a_raise,a_isE,a_countB,show ([true,false,false] : List Bool).countP (· == true) = 1 from rfl]
      refine ⟨.type "ValueError", rfl, fun u r => r, true, CL.rN.kV, ?_⟩
      try simp only [a_var,a_c,a_op,a_un,a_rI,a_rI0,a_rU,a_rEq,a_rNe,s_ii,s_bb,s_ss,a_test,a_tB,a_and,a_or,a_not,a_andV,a_orV,a_notV,a_if,a_next,a_seq,a_brk,a_cont,a_drop,a_ret,a_retN,a_ifS,a_gName,a_gNil,a_gCons,a_gTup,a_gSub,a_asg,a_par,a_aug,a_ipI,a_nil,a_cons,a_tup,a_lst,a_dnew,a_call,a_cb,a_bm,a_bm0,a_noPart,a_part,a_sl,a_rSlL,a_rIxL,a_rIxT,a_rSetL,a_append,a_insert,a_rIn,a_din,a_dnotin,a_dput,a_for,a_iList,a_iTup,a_iRng1,a_iZip,a_rRep,a_rCat,cxK,List.getElem?_cons_zero,List.getElem?_cons_succ,List.set_cons_zero,List.set_cons_succ,Option.some.injEq,V.int.injEq,V.ref.injEq,V.bl.injEq,V.str.injEq,V.ty.injEq,List.cons.injEq,exists_eq_left',exists_eq_left,exists_and_left,and_assoc,and_true,true_and,List.append_nil,List.cons_append,List.nil_append,decide_eq_true_eq,decide_true,decide_false,eq_self,reduceIte,if_true,if_false,Bool.false_eq_true,Bool.not_true,Bool.not_false,Int.zero_add,reduceCtorEq,false_and,exists_false,false_or,or_false,a_slS,a_comp,a_emit,a_yes,a_iEnum,a_setd,a_sortK,a_dget1,a_dget2,a_disp,a_pairs0,a_pairs1,a_dget,a_augS,a_rGetL,a_raise,a_isE,a_countB]
      refine hN0 _ _ ?_
      simp only [a_var,a_c,a_op,a_un,a_rI,a_rI0,a_rU,a_rEq,a_rNe,s_ii,s_bb,s_ss,a_test,a_tB,a_and,a_or,a_not,a_andV,a_orV,a_notV,a_if,a_next,a_seq,a_brk,a_cont,a_drop,a_ret,a_retN,a_ifS,a_gName,a_gNil,a_gCons,a_gTup,a_gSub,a_asg,a_par,a_aug,a_ipI,a_nil,a_cons,a_tup,a_lst,a_dnew,a_call,a_cb,a_bm,a_bm0,a_noPart,a_part,a_sl,a_rSlL,a_rIxL,a_rIxT,a_rSetL,a_append,a_insert,a_rIn,a_din,a_dnotin,a_dput,a_for,a_iList,a_iTup,a_iRng1,a_iZip,a_rRep,a_rCat,cxK,List.getElem?_cons_zero,List.getElem?_cons_succ,List.set_cons_zero,List.set_cons_succ,Option.some.injEq,V.int.injEq,V.ref.injEq,V.bl.injEq,V.str.injEq,V.ty.injEq,List.cons.injEq,exists_eq_left',exists_eq_left,exists_and_left,and_assoc,and_true,true_and,List.append_nil,List.cons_append,List.nil_append,decide_eq_true_eq,decide_true,decide_false,eq_self,reduceIte,if_true,if_false,Bool.false_eq_true,Bool.not_true,Bool.not_false,Int.zero_add,reduceCtorEq,false_and,exists_false,false_or,or_false,a_slS,a_comp,a_emit,a_yes,a_iEnum,a_setd,a_sortK,a_dget1,a_dget2,a_disp,a_pairs0,a_pairs1,a_dget,a_augS,a_rGetL,a_raise,a_isE,a_countB]
      exact k "no station" _ (.inl ⟨hno, rfl⟩) (s1.trans (same_upd (Same.refl _) np))
    · refine ⟨cW, rfl, CL.rW.z, CL.rW.ex, fun ea hea => ?_⟩
      simp only [List.set_cons_zero, List.set_cons_succ]
      refine seq_step fun N hN => ?_
      simp only [a_var,a_c,a_op,a_un,a_rI,a_rI0,a_rU,a_rEq,a_rNe,s_ii,s_bb,s_ss,a_test,a_tB,a_and,a_or,a_not,a_andV,a_orV,a_notV,a_if,a_next,a_seq,a_brk,a_cont,a_drop,a_ret,a_retN,a_ifS,a_gName,a_gNil,a_gCons,a_gTup,a_gSub,a_asg,a_par,a_aug,a_ipI,a_nil,a_cons,a_tup,a_lst,a_dnew,a_call,a_cb,a_bm,a_bm0,a_noPart,a_part,a_sl,a_rSlL,a_rIxL,a_rIxT,a_rSetL,a_append,a_insert,a_rIn,a_din,a_dnotin,a_dput,a_for,a_iList,a_iTup,a_iRng1,a_iZip,a_rRep,a_rCat,cxK,List.getElem?_cons_zero,List.getElem?_cons_succ,List.set_cons_zero,List.set_cons_succ,Option.some.injEq,V.int.injEq,V.ref.injEq,V.bl.injEq,V.str.injEq,V.ty.injEq,List.cons.injEq,exists_eq_left',exists_eq_left,exists_and_left,and_assoc,and_true,true_and,List.append_nil,List.cons_append,List.nil_append,decide_eq_true_eq,decide_true,decide_false,eq_self,reduceIte,if_true,if_false,Bool.false_eq_true,Bool.not_true,Bool.not_false,Int.zero_add,reduceCtorEq,false_and,exists_false,false_or,or_false,a_slS,a_comp,a_emit,a_yes,a_iEnum,a_setd,a_sortK,a_dget1,a_dget2,a_disp,a_pairs0,a_pairs1,a_dget,a_augS,a_rGetL,a_raise,a_isE,a_countB]
      refine hN _ _ ?_
      clear hN N
      refine seq_step fun N hN => ?_
      simp only [a_var,a_c,a_op,a_un,a_rI,a_rI0,a_rU,a_rEq,a_rNe,s_ii,s_bb,s_ss,a_test,a_tB,a_and,a_or,a_not,a_andV,a_orV,a_notV,a_if,a_next,a_seq,a_brk,a_cont,a_drop,a_ret,a_retN,a_ifS,a_gName,a_gNil,a_gCons,a_gTup,a_gSub,a_asg,a_par,a_aug,a_ipI,a_nil,a_cons,a_tup,a_lst,a_dnew,a_call,a_cb,a_bm,a_bm0,a_noPart,a_part,a_sl,a_rSlL,a_rIxL,a_rIxT,a_rSetL,a_append,a_insert,a_rIn,a_din,a_dnotin,a_dput,a_for,a_iList,a_iTup,a_iRng1,a_iZip,a_rRep,a_rCat,cxK,List.getElem?_cons_zero,List.getElem?_cons_succ,List.set_cons_zero,List.set_cons_succ,Option.some.injEq,V.int.injEq,V.ref.injEq,V.bl.injEq,V.str.injEq,V.ty.injEq,List.cons.injEq,exists_eq_left',exists_eq_left,exists_and_left,and_assoc,and_true,true_and,List.append_nil,List.cons_append,List.nil_append,decide_eq_true_eq,decide_true,decide_false,eq_self,reduceIte,if_true,if_false,Bool.false_eq_true,Bool.not_true,Bool.not_false,Int.zero_add,reduceCtorEq,false_and,exists_false,false_or,or_false,a_slS,a_comp,a_emit,a_yes,a_iEnum,a_setd,a_sortK,a_dget1,a_dget2,a_disp,a_pairs0,a_pairs1,a_dget,a_augS,a_rGetL,a_raise,a_isE,a_countB]
      refine ⟨.ref cN, rfl, fun u r => r, false, CL.rW.kN, ?_⟩
      try simp only [a_var,a_c,a_op,a_un,a_rI,a_rI0,a_rU,a_rEq,a_rNe,s_ii,s_bb,s_ss,a_test,a_tB,a_and,a_or,a_not,a_andV,a_orV,a_notV,a_if,a_next,a_seq,a_brk,a_cont,a_drop,a_ret,a_retN,a_ifS,a_gName,a_gNil,a_gCons,a_gTup,a_gSub,a_asg,a_par,a_aug,a_ipI,a_nil,a_cons,a_tup,a_lst,a_dnew,a_call,a_cb,a_bm,a_bm0,a_noPart,a_part,a_sl,a_rSlL,a_rIxL,a_rIxT,a_rSetL,a_append,a_insert,a_rIn,a_din,a_dnotin,a_dput,a_for,a_iList,a_iTup,a_iRng1,a_iZip,a_rRep,a_rCat,cxK,List.getElem?_cons_zero,List.getElem?_cons_succ,List.set_cons_zero,List.set_cons_succ,Option.some.injEq,V.int.injEq,V.ref.injEq,V.bl.injEq,V.str.injEq,V.ty.injEq,List.cons.injEq,exists_eq_left',exists_eq_left,exists_and_left,and_assoc,and_true,true_and,List.append_nil,List.cons_append,List.nil_append,decide_eq_true_eq,decide_true,decide_false,eq_self,reduceIte,if_true,if_false,Bool.false_eq_true,Bool.not_true,Bool.not_false,Int.zero_add,reduceCtorEq,false_and,exists_false,false_or,or_false,a_slS,a_comp,a_emit,a_yes,a_iEnum,a_setd,a_sortK,a_dget1,a_dget2,a_disp,a_pairs0,a_pairs1,a_dget,a_augS,a_rGetL,a_raise,a_isE,a_countB]
      refine hN _ _ ?_
      clear hN N
      refine seq_step fun N hN => ?_
      simp only [a_var,a_c,a_op,a_un,a_rI,a_rI0,a_rU,a_rEq,a_rNe,s_ii,s_bb,s_ss,a_test,a_tB,a_and,a_or,a_not,a_andV,a_orV,a_notV,a_if,a_next,a_seq,a_brk,a_cont,a_drop,a_ret,a_retN,a_ifS,a_gName,a_gNil,a_gCons,a_gTup,a_gSub,a_asg,a_par,a_aug,a_ipI,a_nil,a_cons,a_tup,a_lst,a_dnew,a_call,a_cb,a_bm,a_bm0,a_noPart,a_part,a_sl,a_rSlL,a_rIxL,a_rIxT,a_rSetL,a_append,a_insert,a_rIn,a_din,a_dnotin,a_dput,a_for,a_iList,a_iTup,a_iRng1,a_iZip,a_rRep,a_rCat,cxK,List.getElem?_cons_zero,List.getElem?_cons_succ,List.set_cons_zero,List.set_cons_succ,Option.some.injEq,V.int.injEq,V.ref.injEq,V.bl.injEq,V.str.injEq,V.ty.injEq,List.cons.injEq,exists_eq_left',exists_eq_left,exists_and_left,and_assoc,and_true,true_and,List.append_nil,List.cons_append,List.nil_append,decide_eq_true_eq,decide_true,decide_false,eq_self,reduceIte,if_true,if_false,Bool.false_eq_true,Bool.not_true,Bool.not_false,Int.zero_add,reduceCtorEq,false_and,exists_false,false_or,or_false,a_slS,a_comp,a_emit,a_yes,a_iEnum,a_setd,a_sortK,a_dget1,a_dget2,a_disp,a_pairs0,a_pairs1,a_dget,a_augS,a_rGetL,a_raise,a_isE,a_countB]
      refine ⟨.ref cW, rfl, fun u r => r, true, CL.rW.kW, ?_⟩
      try simp only [a_var,a_c,a_op,a_un,a_rI,a_rI0,a_rU,a_rEq,a_rNe,s_ii,s_bb,s_ss,a_test,a_tB,a_and,a_or,a_not,a_andV,a_orV,a_notV,a_if,a_next,a_seq,a_brk,a_cont,a_drop,a_ret,a_retN,a_ifS,a_gName,a_gNil,a_gCons,a_gTup,a_gSub,a_asg,a_par,a_aug,a_ipI,a_nil,a_cons,a_tup,a_lst,a_dnew,a_call,a_cb,a_bm,a_bm0,a_noPart,a_part,a_sl,a_rSlL,a_rIxL,a_rIxT,a_rSetL,a_append,a_insert,a_rIn,a_din,a_dnotin,a_dput,a_for,a_iList,a_iTup,a_iRng1,a_iZip,a_rRep,a_rCat,cxK,List.getElem?_cons_zero,List.getElem?_cons_succ,List.set_cons_zero,List.set_cons_succ,Option.some.injEq,V.int.injEq,V.ref.injEq,V.bl.injEq,V.str.injEq,V.ty.injEq,List.cons.injEq,exists_eq_left',exists_eq_left,exists_and_left,and_assoc,and_true,true_and,List.append_nil,List.cons_append,List.nil_append,decide_eq_true_eq,decide_true,decide_false,eq_self,reduceIte,if_true,if_false,Bool.false_eq_true,Bool.not_true,Bool.not_false,Int.zero_add,reduceCtorEq,false_and,exists_false,false_or,or_false,a_slS,a_comp,a_emit,a_yes,a_iEnum,a_setd,a_sortK,a_dget1,a_dget2,a_disp,a_pairs0,a_pairs1,a_dget,a_augS,a_rGetL,a_raise,a_isE,a_countB]
      refine hN _ _ ?_
      clear hN N
      refine seq_step fun N hN => ?_
      simp only [a_var,a_c,a_op,a_un,a_rI,a_rI0,a_rU,a_rEq,a_rNe,s_ii,s_bb,s_ss,a_test,a_tB,a_and,a_or,a_not,a_andV,a_orV,a_notV,a_if,a_next,a_seq,a_brk,a_cont,a_drop,a_ret,a_retN,a_ifS,a_gName,a_gNil,a_gCons,a_gTup,a_gSub,a_asg,a_par,a_aug,a_ipI,a_nil,a_cons,a_tup,a_lst,a_dnew,a_call,a_cb,a_bm,a_bm0,a_noPart,a_part,a_sl,a_rSlL,a_rIxL,a_rIxT,a_rSetL,a_append,a_insert,a_rIn,a_din,a_dnotin,a_dput,a_for,a_iList,a_iTup,a_iRng1,a_iZip,a_rRep,a_rCat,cxK,List.getElem?_cons_zero,List.getElem?_cons_succ,List.set_cons_zero,List.set_cons_succ,Option.some.injEq,V.int.injEq,V.ref.injEq,V.bl.injEq,V.str.injEq,V.ty.injEq,List.cons.injEq,exists_eq_left',exists_eq_left,exists_and_left,and_assoc,and_true,true_and,List.append_nil,List.cons_append,List.nil_append,decide_eq_true_eq,decide_true,decide_false,eq_self,reduceIte,if_true,if_false,Bool.false_eq_true,Bool.not_true,Bool.not_false,Int.zero_add,reduceCtorEq,false_and,exists_false,false_or,or_false,a_slS,a_comp,a_emit,a_yes,a_iEnum,a_setd,a_sortK,a_dget1,a_dget2,a_disp,a_pairs0,a_pairs1,a_dget,a_augS,a_rGetL,a_raise,a_isE,a_countB]
      refine ⟨.ref c1, rfl, fun u r => r, false, CL.rW.k1, ?_⟩
      try simp only [a_var,a_c,a_op,a_un,a_rI,a_rI0,a_rU,a_rEq,a_rNe,s_ii,s_bb,s_ss,a_test,a_tB,a_and,a_or,a_not,a_andV,a_orV,a_notV,a_if,a_next,a_seq,a_brk,a_cont,a_drop,a_ret,a_retN,a_ifS,a_gName,a_gNil,a_gCons,a_gTup,a_gSub,a_asg,a_par,a_aug,a_ipI,a_nil,a_cons,a_tup,a_lst,a_dnew,a_call,a_cb,a_bm,a_bm0,a_noPart,a_part,a_sl,a_rSlL,a_rIxL,a_rIxT,a_rSetL,a_append,a_insert,a_rIn,a_din,a_dnotin,a_dput,a_for,a_iList,a_iTup,a_iRng1,a_iZip,a_rRep,a_rCat,cxK,List.getElem?_cons_zero,List.getElem?_cons_succ,List.set_cons_zero,List.set_cons_succ,Option.some.injEq,V.int.injEq,V.ref.injEq,V.bl.injEq,V.str.injEq,V.ty.injEq,List.cons.injEq,exists_eq_left',exists_eq_left,exists_and_left,and_assoc,and_true,true_and,List.append_nil,List.cons_append,List.nil_append,decide_eq_true_eq,decide_true,decide_false,eq_self,reduceIte,if_true,if_false,Bool.false_eq_true,Bool.not_true,Bool.not_false,Int.zero_add,reduceCtorEq,false_and,exists_false,false_or,or_false,a_slS,a_comp,a_emit,a_yes,a_iEnum,a_setd,a_sortK,a_dget1,a_dget2,a_disp,a_pairs0,a_pairs1,a_dget,a_augS,a_rGetL,a_raise,a_isE,a_countB]
      refine hN _ _ ?_
      clear hN N
      refine seq_step fun N hN => ?_
      simp only [a_var,a_c,a_op,a_un,a_rI,a_rI0,a_rU,a_rEq,a_rNe,s_ii,s_bb,s_ss,a_test,a_tB,a_and,a_or,a_not,a_andV,a_orV,a_notV,a_if,a_next,a_seq,a_brk,a_cont,a_drop,a_ret,a_retN,a_ifS,a_gName,a_gNil,a_gCons,a_gTup,a_gSub,a_asg,a_par,a_aug,a_ipI,a_nil,a_cons,a_tup,a_lst,a_dnew,a_call,a_cb,a_bm,a_bm0,a_noPart,a_part,a_sl,a_rSlL,a_rIxL,a_rIxT,a_rSetL,a_append,a_insert,a_rIn,a_din,a_dnotin,a_dput,a_for,a_iList,a_iTup,a_iRng1,a_iZip,a_rRep,a_rCat,cxK,List.getElem?_cons_zero,List.getElem?_cons_succ,List.set_cons_zero,List.set_cons_succ,Option.some.injEq,V.int.injEq,V.ref.injEq,V.bl.injEq,V.str.injEq,V.ty.injEq,List.cons.injEq,exists_eq_left',exists_eq_left,exists_and_left,and_assoc,and_true,true_and,List.append_nil,List.cons_append,List.nil_append,decide_eq_true_eq,decide_true,decide_false,eq_self,reduceIte,if_true,if_false,Bool.false_eq_true,Bool.not_true,Bool.not_false,Int.zero_add,reduceCtorEq,false_and,exists_false,false_or,or_false,a_slS,a_comp,a_emit,a_yes,a_iEnum,a_setd,a_sortK,a_dget1,a_dget2,a_disp,a_pairs0,a_pairs1,a_dget,a_augS,a_rGetL,a_raise,a_isE,a_countB]
      refine ⟨.type "ValueError", rfl, fun u r => r, true, CL.rW.kV, ?_⟩
      try simp only [a_var,a_c,a_op,a_un,a_rI,a_rI0,a_rU,a_rEq,a_rNe,s_ii,s_bb,s_ss,a_test,a_tB,a_and,a_or,a_not,a_andV,a_orV,a_notV,a_if,a_next,a_seq,a_brk,a_cont,a_drop,a_ret,a_retN,a_ifS,a_gName,a_gNil,a_gCons,a_gTup,a_gSub,a_asg,a_par,a_aug,a_ipI,a_nil,a_cons,a_tup,a_lst,a_dnew,a_call,a_cb,a_bm,a_bm0,a_noPart,a_part,a_sl,a_rSlL,a_rIxL,a_rIxT,a_rSetL,a_append,a_insert,a_rIn,a_din,a_dnotin,a_dput,a_for,a_iList,a_iTup,a_iRng1,a_iZip,a_rRep,a_rCat,cxK,List.getElem?_cons_zero,List.getElem?_cons_succ,List.set_cons_zero,List.set_cons_succ,Option.some.injEq,V.int.injEq,V.ref.injEq,V.bl.injEq,V.str.injEq,V.ty.injEq,List.cons.injEq,exists_eq_left',exists_eq_left,exists_and_left,and_assoc,and_true,true_and,List.append_nil,List.cons_append,List.nil_append,decide_eq_true_eq,decide_true,decide_false,eq_self,reduceIte,if_true,if_false,Bool.false_eq_true,Bool.not_true,Bool.not_false,Int.zero_add,reduceCtorEq,false_and,exists_false,false_or,or_false,a_slS,a_comp,a_emit,a_yes,a_iEnum,a_setd,a_sortK,a_dget1,a_dget2,a_disp,a_pairs0,a_pairs1,a_dget,a_augS,a_rGetL,a_raise,a_isE,a_countB]
      refine hN _ _ ?_
      clear hN N
      refine seq_step fun N hN => ?_
      simp only [a_var,a_c,a_op,a_un,a_rI,a_rI0,a_rU,a_rEq,a_rNe,s_ii,s_bb,s_ss,a_test,a_tB,a_and,a_or,a_not,a_andV,a_orV,a_notV,a_if,a_next,a_seq,a_brk,a_cont,a_drop,a_ret,a_retN,a_ifS,a_gName,a_gNil,a_gCons,a_gTup,a_gSub,a_asg,a_par,a_aug,a_ipI,a_nil,a_cons,a_tup,a_lst,a_dnew,a_call,a_cb,a_bm,a_bm0,a_noPart,a_part,a_sl,a_rSlL,a_rIxL,a_rIxT,a_rSetL,a_append,a_insert,a_rIn,a_din,a_dnotin,a_dput,a_for,a_iList,a_iTup,a_iRng1,a_iZip,a_rRep,a_rCat,cxK,List.getElem?_cons_zero,List.getElem?_cons_succ,List.set_cons_zero,List.set_cons_succ,Option.some.injEq,V.int.injEq,V.ref.injEq,V.bl.injEq,V.str.injEq,V.ty.injEq,List.cons.injEq,exists_eq_left',exists_eq_left,exists_and_left,and_assoc,and_true,true_and,List.append_nil,List.cons_append,List.nil_append,decide_eq_true_eq,decide_true,decide_false,eq_self,reduceIte,if_true,if_false,Bool.false_eq_true,Bool.not_true,Bool.not_false,Int.zero_add,reduceCtorEq,false_and,exists_false,false_or,or_false,a_slS,a_comp,a_emit,a_yes,a_iEnum,a_setd,a_sortK,a_dget1,a_dget2,a_disp,a_pairs0,a_pairs1,a_dget,a_augS,a_rGetL,a_raise,a_isE,a_countB]
      refine ⟨.ref cN, rfl, fun u r => r, false, CL.rW.kN, ?_⟩
      try simp only [a_var,a_c,a_op,a_un,a_rI,a_rI0,a_rU,a_rEq,a_rNe,s_ii,s_bb,s_ss,a_test,a_tB,a_and,a_or,a_not,a_andV,a_orV,a_notV,a_if,a_next,a_seq,a_brk,a_cont,a_drop,a_ret,a_retN,a_ifS,a_gName,a_gNil,a_gCons,a_gTup,a_gSub,a_asg,a_par,a_aug,a_ipI,a_nil,a_cons,a_tup,a_lst,a_dnew,a_call,a_cb,a_bm,a_bm0,a_noPart,a_part,a_sl,a_rSlL,a_rIxL,a_rIxT,a_rSetL,a_append,a_insert,a_rIn,a_din,a_dnotin,a_dput,a_for,a_iList,a_iTup,a_iRng1,a_iZip,a_rRep,a_rCat,cxK,List.getElem?_cons_zero,List.getElem?_cons_succ,List.set_cons_zero,List.set_cons_succ,Option.some.injEq,V.int.injEq,V.ref.injEq,V.bl.injEq,V.str.injEq,V.ty.injEq,List.cons.injEq,exists_eq_left',exists_eq_left,exists_and_left,and_assoc,and_true,true_and,List.append_nil,List.cons_append,List.nil_append,decide_eq_true_eq,decide_true,decide_false,eq_self,reduceIte,if_true,if_false,Bool.false_eq_true,Bool.not_true,Bool.not_false,Int.zero_add,reduceCtorEq,false_and,exists_false,false_or,or_false,a_slS,a_comp,a_emit,a_yes,a_iEnum,a_setd,a_sortK,a_dget1,a_dget2,a_disp,a_pairs0,a_pairs1,a_dget,a_augS,a_rGetL,a_raise,a_isE,a_countB]
      refine ⟨.ref cW, rfl, fun u r => r, true, CL.rW.kW, ?_⟩
      try simp only [a_var,a_c,a_op,a_un,a_rI,a_rI0,a_rU,a_rEq,a_rNe,s_ii,s_bb,s_ss,a_test,a_tB,a_and,a_or,a_not,a_andV,a_orV,a_notV,a_if,a_next,a_seq,a_brk,a_cont,a_drop,a_ret,a_retN,a_ifS,a_gName,a_gNil,a_gCons,a_gTup,a_gSub,a_asg,a_par,a_aug,a_ipI,a_nil,a_cons,a_tup,a_lst,a_dnew,a_call,a_cb,a_bm,a_bm0,a_noPart,a_part,a_sl,a_rSlL,a_rIxL,a_rIxT,a_rSetL,a_append,a_insert,a_rIn,a_din,a_dnotin,a_dput,a_for,a_iList,a_iTup,a_iRng1,a_iZip,a_rRep,a_rCat,cxK,List.getElem?_cons_zero,List.getElem?_cons_succ,List.set_cons_zero,List.set_cons_succ,Option.some.injEq,V.int.injEq,V.ref.injEq,V.bl.injEq,V.str.injEq,V.ty.injEq,List.cons.injEq,exists_eq_left',exists_eq_left,exists_and_left,and_assoc,and_true,true_and,List.append_nil,List.cons_append,List.nil_append,decide_eq_true_eq,decide_true,decide_false,eq_self,reduceIte,if_true,if_false,Bool.false_eq_true,Bool.not_true,Bool.not_false,Int.zero_add,reduceCtorEq,false_and,exists_false,false_or,or_false,a_slS,a_comp,a_emit,a_yes,a_iEnum,a_setd,a_sortK,a_dget1,a_dget2,a_disp,a_pairs0,a_pairs1,a_dget,a_augS,a_rGetL,a_raise,a_isE,a_countB]
      refine ⟨.ref c1, rfl, fun u r => r, false, CL.rW.k1, ?_⟩
      try simp only [a_var,a_c,a_op,a_un,a_rI,a_rI0,a_rU,a_rEq,a_rNe,s_ii,s_bb,s_ss,a_test,a_tB,a_and,a_or,a_not,a_andV,a_orV,a_notV,a_if,a_next,a_seq,a_brk,a_cont,a_drop,a_ret,a_retN,a_ifS,a_gName,a_gNil,a_gCons,a_gTup,a_gSub,a_asg,a_par,a_aug,a_ipI,a_nil,a_cons,a_tup,a_lst,a_dnew,a_call,a_cb,a_bm,a_bm0,a_noPart,a_part,a_sl,a_rSlL,a_rIxL,a_rIxT,a_rSetL,a_append,a_insert,a_rIn,a_din,a_dnotin,a_dput,a_for,a_iList,a_iTup,a_iRng1,a_iZip,a_rRep,a_rCat,cxK,List.getElem?_cons_zero,List.getElem?_cons_succ,List.set_cons_zero,List.set_cons_succ,Option.some.injEq,V.int.injEq,V.ref.injEq,V.bl.injEq,V.str.injEq,V.ty.injEq,List.cons.injEq,exists_eq_left',exists_eq_left,exists_and_left,and_assoc,and_true,true_and,List.append_nil,List.cons_append,List.nil_append,decide_eq_true_eq,decide_true,decide_false,eq_self,reduceIte,if_true,if_false,Bool.false_eq_true,Bool.not_true,Bool.not_false,Int.zero_add,reduceCtorEq,false_and,exists_false,false_or,or_false,a_slS,a_comp,a_emit,a_yes,a_iEnum,a_setd,a_sortK,a_dget1,a_dget2,a_disp,a_pairs0,a_pairs1,a_dget,a_augS,a_rGetL,a_raise,a_isE,a_countB]
      refine ⟨(show 3 ≤ sizeLine by decide), fun p np => ?_⟩
      refine hN _ _ ?_
      clear hN N
      simp only [a_var,a_c,a_op,a_un,a_rI,a_rI0,a_rU,a_rEq,a_rNe,s_ii,s_bb,s_ss,a_test,a_tB,a_and,a_or,a_not,a_andV,a_orV,a_notV,a_if,a_next,a_seq,a_brk,a_cont,a_drop,a_ret,a_retN,a_ifS,a_gName,a_gNil,a_gCons,a_gTup,a_gSub,a_asg,a_par,a_aug,a_ipI,a_nil,a_cons,a_tup,a_lst,a_dnew,a_call,a_cb,a_bm,a_bm0,a_noPart,a_part,a_sl,a_rSlL,a_rIxL,a_rIxT,a_rSetL,a_append,a_insert,a_rIn,a_din,a_dnotin,a_dput,a_for,a_iList,a_iTup,a_iRng1,a_iZip,a_rRep,a_rCat,cxK,List.getElem?_cons_zero,List.getElem?_cons_succ,List.set_cons_zero,List.set_cons_succ,Option.some.injEq,V.int.injEq,V.ref.injEq,V.bl.injEq,V.str.injEq,V.ty.injEq,List.cons.injEq,exists_eq_left',exists_eq_left,exists_and_left,and_assoc,and_true,true_and,List.append_nil,List.cons_append,List.nil_append,decide_eq_true_eq,decide_true,decide_false,eq_self,reduceIte,if_true,if_false,Bool.false_eq_true,Bool.not_true,Bool.not_false,Int.zero_add,reduceCtorEq,false_and,exists_false,false_or,or_false,a_slS,a_comp,a_emit,a_yes,a_iEnum,a_setd,a_sortK,a_dget1,a_dget2,a_disp,a_pairs0,a_pairs1,a_dget,a_augS,a_rGetL,a_raise,a_isE,a_countB]
      refine ⟨.inl ⟨rfl, _, SqL.of upd_same⟩, [false, true, false], upd_same, ?_⟩
      simp only [a_var,a_c,a_op,a_un,a_rI,a_rI0,a_rU,a_rEq,a_rNe,s_ii,s_bb,s_ss,a_test,a_tB,a_and,a_or,a_not,a_andV,a_orV,a_notV,a_if,a_next,a_seq,a_brk,a_cont,a_drop,a_ret,a_retN,a_ifS,a_gName,a_gNil,a_gCons,a_gTup,a_gSub,a_asg,a_par,a_aug,a_ipI,a_nil,a_cons,a_tup,a_lst,a_dnew,a_call,a_cb,a_bm,a_bm0,a_noPart,a_part,a_sl,a_rSlL,a_rIxL,a_rIxT,a_rSetL,a_append,a_insert,a_rIn,a_din,a_dnotin,a_dput,a_for,a_iList,a_iTup,a_iRng1,a_iZip,a_rRep,a_rCat,cxK,List.getElem?_cons_zero,List.getElem?_cons_succ,List.set_cons_zero,List.set_cons_succ,Option.some.injEq,V.int.injEq,V.ref.injEq,V.bl.injEq,V.str.injEq,V.ty.injEq,List.cons.injEq,exists_eq_left',exists_eq_left,exists_and_left,and_assoc,and_true,true_and,List.append_nil,List.cons_append,List.nil_append,decide_eq_true_eq,decide_true,decide_false,eq_self,reduceIte,if_true,if_false,Bool.false_eq_true,Bool.not_true,Bool.not_false,Int.zero_add,reduceCtorEq,false_and,exists_false,false_or,or_false,a_slS,a_comp,a_emit,a_yes,a_iEnum,a_setd,a_sortK,a_dget1,a_dget2,a_disp,a_pairs0,a_pairs1,a_dget,a_augS,a_rGetL,a_raise,a_isE,a_countB,show ([false,true,false] : List Bool).countP (· == true) = 1 from rfl]
      refine ⟨.type "ValueError", rfl, fun u r => r, true, CL.rW.kV, ?_⟩
      try simp only [a_var,a_c,a_op,a_un,a_rI,a_rI0,a_rU,a_rEq,a_rNe,s_ii,s_bb,s_ss,a_test,a_tB,a_and,a_or,a_not,a_andV,a_orV,a_notV,a_if,a_next,a_seq,a_brk,a_cont,a_drop,a_ret,a_retN,a_ifS,a_gName,a_gNil,a_gCons,a_gTup,a_gSub,a_asg,a_par,a_aug,a_ipI,a_nil,a_cons,a_tup,a_lst,a_dnew,a_call,a_cb,a_bm,a_bm0,a_noPart,a_part,a_sl,a_rSlL,a_rIxL,a_rIxT,a_rSetL,a_append,a_insert,a_rIn,a_din,a_dnotin,a_dput,a_for,a_iList,a_iTup,a_iRng1,a_iZip,a_rRep,a_rCat,cxK,List.getElem?_cons_zero,List.getElem?_cons_succ,List.set_cons_zero,List.set_cons_succ,Option.some.injEq,V.int.injEq,V.ref.injEq,V.bl.injEq,V.str.injEq,V.ty.injEq,List.cons.injEq,exists_eq_left',exists_eq_left,exists_and_left,and_assoc,and_true,true_and,List.append_nil,List.cons_append,List.nil_append,decide_eq_true_eq,decide_true,decide_false,eq_self,reduceIte,if_true,if_false,Bool.false_eq_true,Bool.not_true,Bool.not_false,Int.zero_add,reduceCtorEq,false_and,exists_false,false_or,or_false,a_slS,a_comp,a_emit,a_yes,a_iEnum,a_setd,a_sortK,a_dget1,a_dget2,a_disp,a_pairs0,a_pairs1,a_dget,a_augS,a_rGetL,a_raise,a_isE,a_countB]
      refine hN0 _ _ ?_
      simp only [a_var,a_c,a_op,a_un,a_rI,a_rI0,a_rU,a_rEq,a_rNe,s_ii,s_bb,s_ss,a_test,a_tB,a_and,a_or,a_not,a_andV,a_orV,a_notV,a_if,a_next,a_seq,a_brk,a_cont,a_drop,a_ret,a_retN,a_ifS,a_gName,a_gNil,a_gCons,a_gTup,a_gSub,a_asg,a_par,a_aug,a_ipI,a_nil,a_cons,a_tup,a_lst,a_dnew,a_call,a_cb,a_bm,a_bm0,a_noPart,a_part,a_sl,a_rSlL,a_rIxL,a_rIxT,a_rSetL,a_append,a_insert,a_rIn,a_din,a_dnotin,a_dput,a_for,a_iList,a_iTup,a_iRng1,a_iZip,a_rRep,a_rCat,cxK,List.getElem?_cons_zero,List.getElem?_cons_succ,List.set_cons_zero,List.set_cons_succ,Option.some.injEq,V.int.injEq,V.ref.injEq,V.bl.injEq,V.str.injEq,V.ty.injEq,List.cons.injEq,exists_eq_left',exists_eq_left,exists_and_left,and_assoc,and_true,true_and,List.append_nil,List.cons_append,List.nil_append,decide_eq_true_eq,decide_true,decide_false,eq_self,reduceIte,if_true,if_false,Bool.false_eq_true,Bool.not_true,Bool.not_false,Int.zero_add,reduceCtorEq,false_and,exists_false,false_or,or_false,a_slS,a_comp,a_emit,a_yes,a_iEnum,a_setd,a_sortK,a_dget1,a_dget2,a_disp,a_pairs0,a_pairs1,a_dget,a_augS,a_rGetL,a_raise,a_isE,a_countB]
      exact k "no width" _ (.inr (.inl ⟨hin, hw, rfl⟩)) (s1.trans (same_upd (Same.refl _) np))
    · refine ⟨c1, rfl, CL.r1.z, CL.r1.ex, fun ea hea => ?_⟩
      simp only [List.set_cons_zero, List.set_cons_succ]
      refine seq_step fun N hN => ?_
      simp only [a_var,a_c,a_op,a_un,a_rI,a_rI0,a_rU,a_rEq,a_rNe,s_ii,s_bb,s_ss,a_test,a_tB,a_and,a_or,a_not,a_andV,a_orV,a_notV,a_if,a_next,a_seq,a_brk,a_cont,a_drop,a_ret,a_retN,a_ifS,a_gName,a_gNil,a_gCons,a_gTup,a_gSub,a_asg,a_par,a_aug,a_ipI,a_nil,a_cons,a_tup,a_lst,a_dnew,a_call,a_cb,a_bm,a_bm0,a_noPart,a_part,a_sl,a_rSlL,a_rIxL,a_rIxT,a_rSetL,a_append,a_insert,a_rIn,a_din,a_dnotin,a_dput,a_for,a_iList,a_iTup,a_iRng1,a_iZip,a_rRep,a_rCat,cxK,List.getElem?_cons_zero,List.getElem?_cons_succ,List.set_cons_zero,List.set_cons_succ,Option.some.injEq,V.int.injEq,V.ref.injEq,V.bl.injEq,V.str.injEq,V.ty.injEq,List.cons.injEq,exists_eq_left',exists_eq_left,exists_and_left,and_assoc,and_true,true_and,List.append_nil,List.cons_append,List.nil_append,decide_eq_true_eq,decide_true,decide_false,eq_self,reduceIte,if_true,if_false,Bool.false_eq_true,Bool.not_true,Bool.not_false,Int.zero_add,reduceCtorEq,false_and,exists_false,false_or,or_false,a_slS,a_comp,a_emit,a_yes,a_iEnum,a_setd,a_sortK,a_dget1,a_dget2,a_disp,a_pairs0,a_pairs1,a_dget,a_augS,a_rGetL,a_raise,a_isE,a_countB]
      refine hN _ _ ?_
      clear hN N
      refine seq_step fun N hN => ?_
      simp only [a_var,a_c,a_op,a_un,a_rI,a_rI0,a_rU,a_rEq,a_rNe,s_ii,s_bb,s_ss,a_test,a_tB,a_and,a_or,a_not,a_andV,a_orV,a_notV,a_if,a_next,a_seq,a_brk,a_cont,a_drop,a_ret,a_retN,a_ifS,a_gName,a_gNil,a_gCons,a_gTup,a_gSub,a_asg,a_par,a_aug,a_ipI,a_nil,a_cons,a_tup,a_lst,a_dnew,a_call,a_cb,a_bm,a_bm0,a_noPart,a_part,a_sl,a_rSlL,a_rIxL,a_rIxT,a_rSetL,a_append,a_insert,a_rIn,a_din,a_dnotin,a_dput,a_for,a_iList,a_iTup,a_iRng1,a_iZip,a_rRep,a_rCat,cxK,List.getElem?_cons_zero,List.getElem?_cons_succ,List.set_cons_zero,List.set_cons_succ,Option.some.injEq,V.int.injEq,V.ref.injEq,V.bl.injEq,V.str.injEq,V.ty.injEq,List.cons.injEq,exists_eq_left',exists_eq_left,exists_and_left,and_assoc,and_true,true_and,List.append_nil,List.cons_append,List.nil_append,decide_eq_true_eq,decide_true,decide_false,eq_self,reduceIte,if_true,if_false,Bool.false_eq_true,Bool.not_true,Bool.not_false,Int.zero_add,reduceCtorEq,false_and,exists_false,false_or,or_false,a_slS,a_comp,a_emit,a_yes,a_iEnum,a_setd,a_sortK,a_dget1,a_dget2,a_disp,a_pairs0,a_pairs1,a_dget,a_augS,a_rGetL,a_raise,a_isE,a_countB]
      refine ⟨.ref cN, rfl, fun u r => r, false, CL.r1.kN, ?_⟩
      try simp only [a_var,a_c,a_op,a_un,a_rI,a_rI0,a_rU,a_rEq,a_rNe,s_ii,s_bb,s_ss,a_test,a_tB,a_and,a_or,a_not,a_andV,a_orV,a_notV,a_if,a_next,a_seq,a_brk,a_cont,a_drop,a_ret,a_retN,a_ifS,a_gName,a_gNil,a_gCons,a_gTup,a_gSub,a_asg,a_par,a_aug,a_ipI,a_nil,a_cons,a_tup,a_lst,a_dnew,a_call,a_cb,a_bm,a_bm0,a_noPart,a_part,a_sl,a_rSlL,a_rIxL,a_rIxT,a_rSetL,a_append,a_insert,a_rIn,a_din,a_dnotin,a_dput,a_for,a_iList,a_iTup,a_iRng1,a_iZip,a_rRep,a_rCat,cxK,List.getElem?_cons_zero,List.getElem?_cons_succ,List.set_cons_zero,List.set_cons_succ,Option.some.injEq,V.int.injEq,V.ref.injEq,V.bl.injEq,V.str.injEq,V.ty.injEq,List.cons.injEq,exists_eq_left',exists_eq_left,exists_and_left,and_assoc,and_true,true_and,List.append_nil,List.cons_append,List.nil_append,decide_eq_true_eq,decide_true,decide_false,eq_self,reduceIte,if_true,if_false,Bool.false_eq_true,Bool.not_true,Bool.not_false,Int.zero_add,reduceCtorEq,false_and,exists_false,false_or,or_false,a_slS,a_comp,a_emit,a_yes,a_iEnum,a_setd,a_sortK,a_dget1,a_dget2,a_disp,a_pairs0,a_pairs1,a_dget,a_augS,a_rGetL,a_raise,a_isE,a_countB]
      refine hN _ _ ?_
      clear hN N
      refine seq_step fun N hN => ?_
      simp only [a_var,a_c,a_op,a_un,a_rI,a_rI0,a_rU,a_rEq,a_rNe,s_ii,s_bb,s_ss,a_test,a_tB,a_and,a_or,a_not,a_andV,a_orV,a_notV,a_if,a_next,a_seq,a_brk,a_cont,a_drop,a_ret,a_retN,a_ifS,a_gName,a_gNil,a_gCons,a_gTup,a_gSub,a_asg,a_par,a_aug,a_ipI,a_nil,a_cons,a_tup,a_lst,a_dnew,a_call,a_cb,a_bm,a_bm0,a_noPart,a_part,a_sl,a_rSlL,a_rIxL,a_rIxT,a_rSetL,a_append,a_insert,a_rIn,a_din,a_dnotin,a_dput,a_for,a_iList,a_iTup,a_iRng1,a_iZip,a_rRep,a_rCat,cxK,List.getElem?_cons_zero,List.getElem?_cons_succ,List.set_cons_zero,List.set_cons_succ,Option.some.injEq,V.int.injEq,V.ref.injEq,V.bl.injEq,V.str.injEq,V.ty.injEq,List.cons.injEq,exists_eq_left',exists_eq_left,exists_and_left,and_assoc,and_true,true_and,List.append_nil,List.cons_append,List.nil_append,decide_eq_true_eq,decide_true,decide_false,eq_self,reduceIte,if_true,if_false,Bool.false_eq_true,Bool.not_true,Bool.not_false,Int.zero_add,reduceCtorEq,false_and,exists_false,false_or,or_false,a_slS,a_comp,a_emit,a_yes,a_iEnum,a_setd,a_sortK,a_dget1,a_dget2,a_disp,a_pairs0,a_pairs1,a_dget,a_augS,a_rGetL,a_raise,a_isE,a_countB]
      refine ⟨.ref cW, rfl, fun u r => r, false, CL.r1.kW, ?_⟩
      try simp only [a_var,a_c,a_op,a_un,a_rI,a_rI0,a_rU,a_rEq,a_rNe,s_ii,s_bb,s_ss,a_test,a_tB,a_and,a_or,a_not,a_andV,a_orV,a_notV,a_if,a_next,a_seq,a_brk,a_cont,a_drop,a_ret,a_retN,a_ifS,a_gName,a_gNil,a_gCons,a_gTup,a_gSub,a_asg,a_par,a_aug,a_ipI,a_nil,a_cons,a_tup,a_lst,a_dnew,a_call,a_cb,a_bm,a_bm0,a_noPart,a_part,a_sl,a_rSlL,a_rIxL,a_rIxT,a_rSetL,a_append,a_insert,a_rIn,a_din,a_dnotin,a_dput,a_for,a_iList,a_iTup,a_iRng1,a_iZip,a_rRep,a_rCat,cxK,List.getElem?_cons_zero,List.getElem?_cons_succ,List.set_cons_zero,List.set_cons_succ,Option.some.injEq,V.int.injEq,V.ref.injEq,V.bl.injEq,V.str.injEq,V.ty.injEq,List.cons.injEq,exists_eq_left',exists_eq_left,exists_and_left,and_assoc,and_true,true_and,List.append_nil,List.cons_append,List.nil_append,decide_eq_true_eq,decide_true,decide_false,eq_self,reduceIte,if_true,if_false,Bool.false_eq_true,Bool.not_true,Bool.not_false,Int.zero_add,reduceCtorEq,false_and,exists_false,false_or,or_false,a_slS,a_comp,a_emit,a_yes,a_iEnum,a_setd,a_sortK,a_dget1,a_dget2,a_disp,a_pairs0,a_pairs1,a_dget,a_augS,a_rGetL,a_raise,a_isE,a_countB]
      refine hN _ _ ?_
      clear hN N
      refine seq_step fun N hN => ?_
      simp only [a_var,a_c,a_op,a_un,a_rI,a_rI0,a_rU,a_rEq,a_rNe,s_ii,s_bb,s_ss,a_test,a_tB,a_and,a_or,a_not,a_andV,a_orV,a_notV,a_if,a_next,a_seq,a_brk,a_cont,a_drop,a_ret,a_retN,a_ifS,a_gName,a_gNil,a_gCons,a_gTup,a_gSub,a_asg,a_par,a_aug,a_ipI,a_nil,a_cons,a_tup,a_lst,a_dnew,a_call,a_cb,a_bm,a_bm0,a_noPart,a_part,a_sl,a_rSlL,a_rIxL,a_rIxT,a_rSetL,a_append,a_insert,a_rIn,a_din,a_dnotin,a_dput,a_for,a_iList,a_iTup,a_iRng1,a_iZip,a_rRep,a_rCat,cxK,List.getElem?_cons_zero,List.getElem?_cons_succ,List.set_cons_zero,List.set_cons_succ,Option.some.injEq,V.int.injEq,V.ref.injEq,V.bl.injEq,V.str.injEq,V.ty.injEq,List.cons.injEq,exists_eq_left',exists_eq_left,exists_and_left,and_assoc,and_true,true_and,List.append_nil,List.cons_append,List.nil_append,decide_eq_true_eq,decide_true,decide_false,eq_self,reduceIte,if_true,if_false,Bool.false_eq_true,Bool.not_true,Bool.not_false,Int.zero_add,reduceCtorEq,false_and,exists_false,false_or,or_false,a_slS,a_comp,a_emit,a_yes,a_iEnum,a_setd,a_sortK,a_dget1,a_dget2,a_disp,a_pairs0,a_pairs1,a_dget,a_augS,a_rGetL,a_raise,a_isE,a_countB]
      refine ⟨.ref c1, rfl, fun u r => r, true, CL.r1.k1, ?_⟩
      try simp only [a_var,a_c,a_op,a_un,a_rI,a_rI0,a_rU,a_rEq,a_rNe,s_ii,s_bb,s_ss,a_test,a_tB,a_and,a_or,a_not,a_andV,a_orV,a_notV,a_if,a_next,a_seq,a_brk,a_cont,a_drop,a_ret,a_retN,a_ifS,a_gName,a_gNil,a_gCons,a_gTup,a_gSub,a_asg,a_par,a_aug,a_ipI,a_nil,a_cons,a_tup,a_lst,a_dnew,a_call,a_cb,a_bm,a_bm0,a_noPart,a_part,a_sl,a_rSlL,a_rIxL,a_rIxT,a_rSetL,a_append,a_insert,a_rIn,a_din,a_dnotin,a_dput,a_for,a_iList,a_iTup,a_iRng1,a_iZip,a_rRep,a_rCat,cxK,List.getElem?_cons_zero,List.getElem?_cons_succ,List.set_cons_zero,List.set_cons_succ,Option.some.injEq,V.int.injEq,V.ref.injEq,V.bl.injEq,V.str.injEq,V.ty.injEq,List.cons.injEq,exists_eq_left',exists_eq_left,exists_and_left,and_assoc,and_true,true_and,List.append_nil,List.cons_append,List.nil_append,decide_eq_true_eq,decide_true,decide_false,eq_self,reduceIte,if_true,if_false,Bool.false_eq_true,Bool.not_true,Bool.not_false,Int.zero_add,reduceCtorEq,false_and,exists_false,false_or,or_false,a_slS,a_comp,a_emit,a_yes,a_iEnum,a_setd,a_sortK,a_dget1,a_dget2,a_disp,a_pairs0,a_pairs1,a_dget,a_augS,a_rGetL,a_raise,a_isE,a_countB]
      refine hN _ _ ?_
      clear hN N
      refine seq_step fun N hN => ?_
      simp only [a_var,a_c,a_op,a_un,a_rI,a_rI0,a_rU,a_rEq,a_rNe,s_ii,s_bb,s_ss,a_test,a_tB,a_and,a_or,a_not,a_andV,a_orV,a_notV,a_if,a_next,a_seq,a_brk,a_cont,a_drop,a_ret,a_retN,a_ifS,a_gName,a_gNil,a_gCons,a_gTup,a_gSub,a_asg,a_par,a_aug,a_ipI,a_nil,a_cons,a_tup,a_lst,a_dnew,a_call,a_cb,a_bm,a_bm0,a_noPart,a_part,a_sl,a_rSlL,a_rIxL,a_rIxT,a_rSetL,a_append,a_insert,a_rIn,a_din,a_dnotin,a_dput,a_for,a_iList,a_iTup,a_iRng1,a_iZip,a_rRep,a_rCat,cxK,List.getElem?_cons_zero,List.getElem?_cons_succ,List.set_cons_zero,List.set_cons_succ,Option.some.injEq,V.int.injEq,V.ref.injEq,V.bl.injEq,V.str.injEq,V.ty.injEq,List.cons.injEq,exists_eq_left',exists_eq_left,exists_and_left,and_assoc,and_true,true_and,List.append_nil,List.cons_append,List.nil_append,decide_eq_true_eq,decide_true,decide_false,eq_self,reduceIte,if_true,if_false,Bool.false_eq_true,Bool.not_true,Bool.not_false,Int.zero_add,reduceCtorEq,false_and,exists_false,false_or,or_false,a_slS,a_comp,a_emit,a_yes,a_iEnum,a_setd,a_sortK,a_dget1,a_dget2,a_disp,a_pairs0,a_pairs1,a_dget,a_augS,a_rGetL,a_raise,a_isE,a_countB]
      refine ⟨.type "ValueError", rfl, fun u r => r, true, CL.r1.kV, ?_⟩
      try simp only [a_var,a_c,a_op,a_un,a_rI,a_rI0,a_rU,a_rEq,a_rNe,s_ii,s_bb,s_ss,a_test,a_tB,a_and,a_or,a_not,a_andV,a_orV,a_notV,a_if,a_next,a_seq,a_brk,a_cont,a_drop,a_ret,a_retN,a_ifS,a_gName,a_gNil,a_gCons,a_gTup,a_gSub,a_asg,a_par,a_aug,a_ipI,a_nil,a_cons,a_tup,a_lst,a_dnew,a_call,a_cb,a_bm,a_bm0,a_noPart,a_part,a_sl,a_rSlL,a_rIxL,a_rIxT,a_rSetL,a_append,a_insert,a_rIn,a_din,a_dnotin,a_dput,a_for,a_iList,a_iTup,a_iRng1,a_iZip,a_rRep,a_rCat,cxK,List.getElem?_cons_zero,List.getElem?_cons_succ,List.set_cons_zero,List.set_cons_succ,Option.some.injEq,V.int.injEq,V.ref.injEq,V.bl.injEq,V.str.injEq,V.ty.injEq,List.cons.injEq,exists_eq_left',exists_eq_left,exists_and_left,and_assoc,and_true,true_and,List.append_nil,List.cons_append,List.nil_append,decide_eq_true_eq,decide_true,decide_false,eq_self,reduceIte,if_true,if_false,Bool.false_eq_true,Bool.not_true,Bool.not_false,Int.zero_add,reduceCtorEq,false_and,exists_false,false_or,or_false,a_slS,a_comp,a_emit,a_yes,a_iEnum,a_setd,a_sortK,a_dget1,a_dget2,a_disp,a_pairs0,a_pairs1,a_dget,a_augS,a_rGetL,a_raise,a_isE,a_countB]
      refine hN _ _ ?_
      clear hN N
      refine seq_step fun N hN => ?_
      simp only [a_var,a_c,a_op,a_un,a_rI,a_rI0,a_rU,a_rEq,a_rNe,s_ii,s_bb,s_ss,a_test,a_tB,a_and,a_or,a_not,a_andV,a_orV,a_notV,a_if,a_next,a_seq,a_brk,a_cont,a_drop,a_ret,a_retN,a_ifS,a_gName,a_gNil,a_gCons,a_gTup,a_gSub,a_asg,a_par,a_aug,a_ipI,a_nil,a_cons,a_tup,a_lst,a_dnew,a_call,a_cb,a_bm,a_bm0,a_noPart,a_part,a_sl,a_rSlL,a_rIxL,a_rIxT,a_rSetL,a_append,a_insert,a_rIn,a_din,a_dnotin,a_dput,a_for,a_iList,a_iTup,a_iRng1,a_iZip,a_rRep,a_rCat,cxK,List.getElem?_cons_zero,List.getElem?_cons_succ,List.set_cons_zero,List.set_cons_succ,Option.some.injEq,V.int.injEq,V.ref.injEq,V.bl.injEq,V.str.injEq,V.ty.injEq,List.cons.injEq,exists_eq_left',exists_eq_left,exists_and_left,and_assoc,and_true,true_and,List.append_nil,List.cons_append,List.nil_append,decide_eq_true_eq,decide_true,decide_false,eq_self,reduceIte,if_true,if_false,Bool.false_eq_true,Bool.not_true,Bool.not_false,Int.zero_add,reduceCtorEq,false_and,exists_false,false_or,or_false,a_slS,a_comp,a_emit,a_yes,a_iEnum,a_setd,a_sortK,a_dget1,a_dget2,a_disp,a_pairs0,a_pairs1,a_dget,a_augS,a_rGetL,a_raise,a_isE,a_countB]
      refine ⟨.ref cN, rfl, fun u r => r, false, CL.r1.kN, ?_⟩
      try simp only [a_var,a_c,a_op,a_un,a_rI,a_rI0,a_rU,a_rEq,a_rNe,s_ii,s_bb,s_ss,a_test,a_tB,a_and,a_or,a_not,a_andV,a_orV,a_notV,a_if,a_next,a_seq,a_brk,a_cont,a_drop,a_ret,a_retN,a_ifS,a_gName,a_gNil,a_gCons,a_gTup,a_gSub,a_asg,a_par,a_aug,a_ipI,a_nil,a_cons,a_tup,a_lst,a_dnew,a_call,a_cb,a_bm,a_bm0,a_noPart,a_part,a_sl,a_rSlL,a_rIxL,a_rIxT,a_rSetL,a_append,a_insert,a_rIn,a_din,a_dnotin,a_dput,a_for,a_iList,a_iTup,a_iRng1,a_iZip,a_rRep,a_rCat,cxK,List.getElem?_cons_zero,List.getElem?_cons_succ,List.set_cons_zero,List.set_cons_succ,Option.some.injEq,V.int.injEq,V.ref.injEq,V.bl.injEq,V.str.injEq,V.ty.injEq,List.cons.injEq,exists_eq_left',exists_eq_left,exists_and_left,and_assoc,and_true,true_and,List.append_nil,List.cons_append,List.nil_append,decide_eq_true_eq,decide_true,decide_false,eq_self,reduceIte,if_true,if_false,Bool.false_eq_true,Bool.not_true,Bool.not_false,Int.zero_add,reduceCtorEq,false_and,exists_false,false_or,or_false,a_slS,a_comp,a_emit,a_yes,a_iEnum,a_setd,a_sortK,a_dget1,a_dget2,a_disp,a_pairs0,a_pairs1,a_dget,a_augS,a_rGetL,a_raise,a_isE,a_countB]
      refine ⟨.ref cW, rfl, fun u r => r, false, CL.r1.kW, ?_⟩
      try simp only [a_var,a_c,a_op,a_un,a_rI,a_rI0,a_rU,a_rEq,a_rNe,s_ii,s_bb,s_ss,a_test,a_tB,a_and,a_or,a_not,a_andV,a_orV,a_notV,a_if,a_next,a_seq,a_brk,a_cont,a_drop,a_ret,a_retN,a_ifS,a_gName,a_gNil,a_gCons,a_gTup,a_gSub,a_asg,a_par,a_aug,a_ipI,a_nil,a_cons,a_tup,a_lst,a_dnew,a_call,a_cb,a_bm,a_bm0,a_noPart,a_part,a_sl,a_rSlL,a_rIxL,a_rIxT,a_rSetL,a_append,a_insert,a_rIn,a_din,a_dnotin,a_dput,a_for,a_iList,a_iTup,a_iRng1,a_iZip,a_rRep,a_rCat,cxK,List.getElem?_cons_zero,List.getElem?_cons_succ,List.set_cons_zero,List.set_cons_succ,Option.some.injEq,V.int.injEq,V.ref.injEq,V.bl.injEq,V.str.injEq,V.ty.injEq,List.cons.injEq,exists_eq_left',exists_eq_left,exists_and_left,and_assoc,and_true,true_and,List.append_nil,List.cons_append,List.nil_append,decide_eq_true_eq,decide_true,decide_false,eq_self,reduceIte,if_true,if_false,Bool.false_eq_true,Bool.not_true,Bool.not_false,Int.zero_add,reduceCtorEq,false_and,exists_false,false_or,or_false,a_slS,a_comp,a_emit,a_yes,a_iEnum,a_setd,a_sortK,a_dget1,a_dget2,a_disp,a_pairs0,a_pairs1,a_dget,a_augS,a_rGetL,a_raise,a_isE,a_countB]
      refine ⟨.ref c1, rfl, fun u r => r, true, CL.r1.k1, ?_⟩
      try simp only [a_var,a_c,a_op,a_un,a_rI,a_rI0,a_rU,a_rEq,a_rNe,s_ii,s_bb,s_ss,a_test,a_tB,a_and,a_or,a_not,a_andV,a_orV,a_notV,a_if,a_next,a_seq,a_brk,a_cont,a_drop,a_ret,a_retN,a_ifS,a_gName,a_gNil,a_gCons,a_gTup,a_gSub,a_asg,a_par,a_aug,a_ipI,a_nil,a_cons,a_tup,a_lst,a_dnew,a_call,a_cb,a_bm,a_bm0,a_noPart,a_part,a_sl,a_rSlL,a_rIxL,a_rIxT,a_rSetL,a_append,a_insert,a_rIn,a_din,a_dnotin,a_dput,a_for,a_iList,a_iTup,a_iRng1,a_iZip,a_rRep,a_rCat,cxK,List.getElem?_cons_zero,List.getElem?_cons_succ,List.set_cons_zero,List.set_cons_succ,Option.some.injEq,V.int.injEq,V.ref.injEq,V.bl.injEq,V.str.injEq,V.ty.injEq,List.cons.injEq,exists_eq_left',exists_eq_left,exists_and_left,and_assoc,and_true,true_and,List.append_nil,List.cons_append,List.nil_append,decide_eq_true_eq,decide_true,decide_false,eq_self,reduceIte,if_true,if_false,Bool.false_eq_true,Bool.not_true,Bool.not_false,Int.zero_add,reduceCtorEq,false_and,exists_false,false_or,or_false,a_slS,a_comp,a_emit,a_yes,a_iEnum,a_setd,a_sortK,a_dget1,a_dget2,a_disp,a_pairs0,a_pairs1,a_dget,a_augS,a_rGetL,a_raise,a_isE,a_countB]
      refine ⟨(show 3 ≤ sizeLine by decide), fun p np => ?_⟩
      refine hN _ _ ?_
      clear hN N
      simp only [a_var,a_c,a_op,a_un,a_rI,a_rI0,a_rU,a_rEq,a_rNe,s_ii,s_bb,s_ss,a_test,a_tB,a_and,a_or,a_not,a_andV,a_orV,a_notV,a_if,a_next,a_seq,a_brk,a_cont,a_drop,a_ret,a_retN,a_ifS,a_gName,a_gNil,a_gCons,a_gTup,a_gSub,a_asg,a_par,a_aug,a_ipI,a_nil,a_cons,a_tup,a_lst,a_dnew,a_call,a_cb,a_bm,a_bm0,a_noPart,a_part,a_sl,a_rSlL,a_rIxL,a_rIxT,a_rSetL,a_append,a_insert,a_rIn,a_din,a_dnotin,a_dput,a_for,a_iList,a_iTup,a_iRng1,a_iZip,a_rRep,a_rCat,cxK,List.getElem?_cons_zero,List.getElem?_cons_succ,List.set_cons_zero,List.set_cons_succ,Option.some.injEq,V.int.injEq,V.ref.injEq,V.bl.injEq,V.str.injEq,V.ty.injEq,List.cons.injEq,exists_eq_left',exists_eq_left,exists_and_left,and_assoc,and_true,true_and,List.append_nil,List.cons_append,List.nil_append,decide_eq_true_eq,decide_true,decide_false,eq_self,reduceIte,if_true,if_false,Bool.false_eq_true,Bool.not_true,Bool.not_false,Int.zero_add,reduceCtorEq,false_and,exists_false,false_or,or_false,a_slS,a_comp,a_emit,a_yes,a_iEnum,a_setd,a_sortK,a_dget1,a_dget2,a_disp,a_pairs0,a_pairs1,a_dget,a_augS,a_rGetL,a_raise,a_isE,a_countB]
      refine ⟨.inl ⟨rfl, _, SqL.of upd_same⟩, [false, false, true], upd_same, ?_⟩
      simp only [a_var,a_c,a_op,a_un,a_rI,a_rI0,a_rU,a_rEq,a_rNe,s_ii,s_bb,s_ss,a_test,a_tB,a_and,a_or,a_not,a_andV,a_orV,a_notV,a_if,a_next,a_seq,a_brk,a_cont,a_drop,a_ret,a_retN,a_ifS,a_gName,a_gNil,a_gCons,a_gTup,a_gSub,a_asg,a_par,a_aug,a_ipI,a_nil,a_cons,a_tup,a_lst,a_dnew,a_call,a_cb,a_bm,a_bm0,a_noPart,a_part,a_sl,a_rSlL,a_rIxL,a_rIxT,a_rSetL,a_append,a_insert,a_rIn,a_din,a_dnotin,a_dput,a_for,a_iList,a_iTup,a_iRng1,a_iZip,a_rRep,a_rCat,cxK,List.getElem?_cons_zero,List.getElem?_cons_succ,List.set_cons_zero,List.set_cons_succ,Option.some.injEq,V.int.injEq,V.ref.injEq,V.bl.injEq,V.str.injEq,V.ty.injEq,List.cons.injEq,exists_eq_left',exists_eq_left,exists_and_left,and_assoc,and_true,true_and,List.append_nil,List.cons_append,List.nil_append,decide_eq_true_eq,decide_true,decide_false,eq_self,reduceIte,if_true,if_false,Bool.false_eq_true,Bool.not_true,Bool.not_false,Int.zero_add,reduceCtorEq,false_and,exists_false,false_or,or_false,a_slS,a_comp,a_emit,a_yes,a_iEnum,a_setd,a_sortK,a_dget1,a_dget2,a_disp,a_pairs0,a_pairs1,a_dget,a_augS,a_rGetL,a_raise,a_isE,a_countB,show ([false,false,true] : List Bool).countP (· == true) = 1 from rfl]
      refine ⟨.type "ValueError", rfl, fun u r => r, true, CL.r1.kV, ?_⟩
      try simp only [a_var,a_c,a_op,a_un,a_rI,a_rI0,a_rU,a_rEq,a_rNe,s_ii,s_bb,s_ss,a_test,a_tB,a_and,a_or,a_not,a_andV,a_orV,a_notV,a_if,a_next,a_seq,a_brk,a_cont,a_drop,a_ret,a_retN,a_ifS,a_gName,a_gNil,a_gCons,a_gTup,a_gSub,a_asg,a_par,a_aug,a_ipI,a_nil,a_cons,a_tup,a_lst,a_dnew,a_call,a_cb,a_bm,a_bm0,a_noPart,a_part,a_sl,a_rSlL,a_rIxL,a_rIxT,a_rSetL,a_append,a_insert,a_rIn,a_din,a_dnotin,a_dput,a_for,a_iList,a_iTup,a_iRng1,a_iZip,a_rRep,a_rCat,cxK,List.getElem?_cons_zero,List.getElem?_cons_succ,List.set_cons_zero,List.set_cons_succ,Option.some.injEq,V.int.injEq,V.ref.injEq,V.bl.injEq,V.str.injEq,V.ty.injEq,List.cons.injEq,exists_eq_left',exists_eq_left,exists_and_left,and_assoc,and_true,true_and,List.append_nil,List.cons_append,List.nil_append,decide_eq_true_eq,decide_true,decide_false,eq_self,reduceIte,if_true,if_false,Bool.false_eq_true,Bool.not_true,Bool.not_false,Int.zero_add,reduceCtorEq,false_and,exists_false,false_or,or_false,a_slS,a_comp,a_emit,a_yes,a_iEnum,a_setd,a_sortK,a_dget1,a_dget2,a_disp,a_pairs0,a_pairs1,a_dget,a_augS,a_rGetL,a_raise,a_isE,a_countB]
      refine hN0 _ _ ?_
      simp only [a_var,a_c,a_op,a_un,a_rI,a_rI0,a_rU,a_rEq,a_rNe,s_ii,s_bb,s_ss,a_test,a_tB,a_and,a_or,a_not,a_andV,a_orV,a_notV,a_if,a_next,a_seq,a_brk,a_cont,a_drop,a_ret,a_retN,a_ifS,a_gName,a_gNil,a_gCons,a_gTup,a_gSub,a_asg,a_par,a_aug,a_ipI,a_nil,a_cons,a_tup,a_lst,a_dnew,a_call,a_cb,a_bm,a_bm0,a_noPart,a_part,a_sl,a_rSlL,a_rIxL,a_rIxT,a_rSetL,a_append,a_insert,a_rIn,a_din,a_dnotin,a_dput,a_for,a_iList,a_iTup,a_iRng1,a_iZip,a_rRep,a_rCat,cxK,List.getElem?_cons_zero,List.getElem?_cons_succ,List.set_cons_zero,List.set_cons_succ,Option.some.injEq,V.int.injEq,V.ref.injEq,V.bl.injEq,V.str.injEq,V.ty.injEq,List.cons.injEq,exists_eq_left',exists_eq_left,exists_and_left,and_assoc,and_true,true_and,List.append_nil,List.cons_append,List.nil_append,decide_eq_true_eq,decide_true,decide_false,eq_self,reduceIte,if_true,if_false,Bool.false_eq_true,Bool.not_true,Bool.not_false,Int.zero_add,reduceCtorEq,false_and,exists_false,false_or,or_false,a_slS,a_comp,a_emit,a_yes,a_iEnum,a_setd,a_sortK,a_dget1,a_dget2,a_disp,a_pairs0,a_pairs1,a_dget,a_augS,a_rGetL,a_raise,a_isE,a_countB]
      exact k "one station" _ (.inr (.inr (.inl ⟨hin, hw, he, rfl⟩))) (s1.trans (same_upd (Same.refl _) np))
    · refine hN0 _ _ ?_
      simp only [a_var,a_c,a_op,a_un,a_rI,a_rI0,a_rU,a_rEq,a_rNe,s_ii,s_bb,s_ss,a_test,a_tB,a_and,a_or,a_not,a_andV,a_orV,a_notV,a_if,a_next,a_seq,a_brk,a_cont,a_drop,a_ret,a_retN,a_ifS,a_gName,a_gNil,a_gCons,a_gTup,a_gSub,a_asg,a_par,a_aug,a_ipI,a_nil,a_cons,a_tup,a_lst,a_dnew,a_call,a_cb,a_bm,a_bm0,a_noPart,a_part,a_sl,a_rSlL,a_rIxL,a_rIxT,a_rSetL,a_append,a_insert,a_rIn,a_din,a_dnotin,a_dput,a_for,a_iList,a_iTup,a_iRng1,a_iZip,a_rRep,a_rCat,cxK,List.getElem?_cons_zero,List.getElem?_cons_succ,List.set_cons_zero,List.set_cons_succ,Option.some.injEq,V.int.injEq,V.ref.injEq,V.bl.injEq,V.str.injEq,V.ty.injEq,List.cons.injEq,exists_eq_left',exists_eq_left,exists_and_left,and_assoc,and_true,true_and,List.append_nil,List.cons_append,List.nil_append,decide_eq_true_eq,decide_true,decide_false,eq_self,reduceIte,if_true,if_false,Bool.false_eq_true,Bool.not_true,Bool.not_false,Int.zero_add,reduceCtorEq,false_and,exists_false,false_or,or_false,a_slS,a_comp,a_emit,a_yes,a_iEnum,a_setd,a_sortK,a_dget1,a_dget2,a_disp,a_pairs0,a_pairs1,a_dget,a_augS,a_rGetL,a_raise,a_isE,a_countB]
      exact k "done" _ (.inr (.inr (.inr ⟨hin, hw, hne, rfl⟩))) s1
end
def IvJ (a : Addr) (n s t : Int) (rows : List Pipe) (H : Hp) (i : Nat) (σ : St) (Hi : Hp) : Prop :=
  ∃ (l : Addr) (m : Int) (v6 v7 v8 : Option V), σ = [some (.int n), some (.ref a), some (.int s), some (.int t), some (.ref l), some (.int m), v6, v7, v8] ∧ Same H Hi ∧ Hi l = some (.lst ((endsL s t (rows.take i)).map V.int)) ∧
    (∀ r ∈ rows.take i, m ≤ r.2.2) ∧ m ≤ 0 ∧ (m < 0 → ∃ r ∈ rows.take i, r.2.2 < 0)
abbrev s_judged : Stmt := top 29
theorem sc_judged : FnScope ["_law_count", "_law_pipes", "_law_spring", "_law_drain", "_law_ends", "_law_least", "_law_start", "_law_goal", "_law_width"] ["_law_count", "_law_pipes", "_law_spring", "_law_drain"] (defScope s_judged) := ⟨rfl, rfl, rfl, by decide +kernel, rfl, by decide +kernel, by decide +kernel⟩
section
variable {P : Program} {w : World} {K : PySem.W.Frag} {mg : Str → Option Value} {base : Heap}
theorem ok_judged {f : Addr} {fd : FuncData} (F : Fun K "_law_judged" "_law_judged" s_judged f fd) (T : Txt K mg) {cF cN cW c1 : Addr} (CL : Cls K mg cF cN cW c1)  :
    FnOk P w K mg base CX0 1 f fd ["_law_count", "_law_pipes", "_law_spring", "_law_drain"] (spJudged K) := by
  refine F.ok sc_judged (fun vs H Q E h => ?_) (fun cdv A outer s H vs Q E hr h => ?_)
  · obtain ⟨a, ps, rows, n, s, t, rfl, hA, hP, hz, k⟩ := h
    rfl
  · obtain ⟨a, ps, rows, n, s, t, rfl, hA, hP, hz, k⟩ := h
    have SC := sc_judged
    have hu := hu_of hr
    have hu0 := hr.units0
    refine ⟨_, (pss_cons (ps_set (i := 4) SC.nd rfl (Or.inl rfl) (pe_lst (pa_cons (pv 2) (pa_cons (pv 3) pa_nil))))
  (pss_cons (ps_set (i := 5) SC.nd rfl (Or.inl rfl) pe_int)
  (pss_cons (ps_for PassesOwn.never rfl (pi_list (pv 1)) (pg_tup rfl (pgs_cons (pg_name (i := 6) SC.nd rfl (Or.inl rfl)) (pgs_cons (pg_name (i := 7) SC.nd rfl (Or.inl rfl)) (pgs_cons (pg_name (i := 8) SC.nd rfl (Or.inl rfl)) pgs_nil))))
  (pss_cons (ps_set (i := 4) SC.nd rfl (Or.inl rfl) (pe_op op_cat (pv 4) (pe_lst (pa_cons (pv 6) (pa_cons (pv 7) pa_nil)))))
  (pss_one (ps_set (i := 5) SC.nd rfl (Or.inl rfl) (pe_callB (call_min2 rfl) rfl T.z_min PyProof.Rows.boot_min (pa_cons (pv 5) (pa_cons (pv 8) pa_nil)))))))
  (pss_cons (ps_if (PW.pt (pw_or (pt_cmpR op_lt (pe_callB (call_min_list rfl) rfl T.z_min PyProof.Rows.boot_min (pa_cons (pv 4) pa_nil)) pe_int (nomark _)) (pw_or1 (pt_cmpR op_ge (pe_callB (call_max_list rfl) rfl T.z_max PyProof.Rows.boot_max (pa_cons (pv 4) pa_nil)) (pv 0) (nomark _)))))
  (pss_one (ps_ret pe_str))
  pss_nil)
  (pss_cons (ps_if (pt_cmpR op_lt (pv 5) pe_int (nomark _))
  (pss_one (ps_ret pe_str))
  pss_nil)
  (pss_one (ps_ret (pe_ix ix_list (pe_lst (pa_cons pe_str (pa_cons pe_str pa_nil))) (pe_callTy call_int1 rfl T.z_int PyProof.Rows.boot_int (pa_cons (pe_cmpR op_eq (pv 2) (pv 3) (nomark _)) pa_nil)) (fun _ _ => rfl))))))))), ?_⟩
    rw [show start ["_law_count", "_law_pipes", "_law_spring", "_law_drain", "_law_ends", "_law_least", "_law_start", "_law_goal", "_law_width"] [V.int n, V.ref a, V.int s, V.int t] = [some (V.int n), some (V.ref a), some (V.int s), some (V.int t), none, none, none, none, none] from rfl]
    have hsz : sizeLine = 16777216 := sizeLine_eq
    refine seq_step fun N hN => ?_
    simp only [a_var,a_c,a_op,a_un,a_rI,a_rI0,a_rU,a_rEq,a_rNe,s_ii,s_bb,s_ss,a_test,a_tB,a_and,a_or,a_not,a_andV,a_orV,a_notV,a_if,a_next,a_seq,a_brk,a_cont,a_drop,a_ret,a_retN,a_ifS,a_gName,a_gNil,a_gCons,a_gTup,a_gSub,a_asg,a_par,a_aug,a_ipI,a_nil,a_cons,a_tup,a_lst,a_dnew,a_call,a_cb,a_bm,a_bm0,a_noPart,a_part,a_sl,a_rSlL,a_rIxL,a_rIxT,a_rSetL,a_append,a_insert,a_rIn,a_din,a_dnotin,a_dput,a_for,a_iList,a_iTup,a_iRng1,a_iZip,a_rRep,a_rCat,cxK,List.getElem?_cons_zero,List.getElem?_cons_succ,List.set_cons_zero,List.set_cons_succ,Option.some.injEq,V.int.injEq,V.ref.injEq,V.bl.injEq,V.str.injEq,V.ty.injEq,List.cons.injEq,exists_eq_left',exists_eq_left,exists_and_left,and_assoc,and_true,true_and,List.append_nil,List.cons_append,List.nil_append,decide_eq_true_eq,decide_true,decide_false,eq_self,reduceIte,if_true,if_false,Bool.false_eq_true,Bool.not_true,Bool.not_false,Int.zero_add,reduceCtorEq,false_and,exists_false,false_or,or_false,a_slS,a_comp,a_emit,a_yes,a_iEnum,a_setd,a_sortK,a_dget1,a_dget2,a_disp,a_pairs0,a_pairs1,a_dget,a_augS,a_rGetL,a_raise,a_isE,a_countB]
    refine ⟨(show 2 ≤ sizeLine by decide), fun l0 n0 => ?_⟩
    refine hN _ _ ?_
    clear hN N
    have s1 := same_upd (o := .lst [.int s, .int t]) (Same.refl H) n0
    have hlp := Paired.length hP
    refine seq_step fun N hN => ?_
    simp only [a_var,a_c,a_op,a_un,a_rI,a_rI0,a_rU,a_rEq,a_rNe,s_ii,s_bb,s_ss,a_test,a_tB,a_and,a_or,a_not,a_andV,a_orV,a_notV,a_if,a_next,a_seq,a_brk,a_cont,a_drop,a_ret,a_retN,a_ifS,a_gName,a_gNil,a_gCons,a_gTup,a_gSub,a_asg,a_par,a_aug,a_ipI,a_nil,a_cons,a_tup,a_lst,a_dnew,a_call,a_cb,a_bm,a_bm0,a_noPart,a_part,a_sl,a_rSlL,a_rIxL,a_rIxT,a_rSetL,a_append,a_insert,a_rIn,a_din,a_dnotin,a_dput,a_for,a_iList,a_iTup,a_iRng1,a_iZip,a_rRep,a_rCat,cxK,List.getElem?_cons_zero,List.getElem?_cons_succ,List.set_cons_zero,List.set_cons_succ,Option.some.injEq,V.int.injEq,V.ref.injEq,V.bl.injEq,V.str.injEq,V.ty.injEq,List.cons.injEq,exists_eq_left',exists_eq_left,exists_and_left,and_assoc,and_true,true_and,List.append_nil,List.cons_append,List.nil_append,decide_eq_true_eq,decide_true,decide_false,eq_self,reduceIte,if_true,if_false,Bool.false_eq_true,Bool.not_true,Bool.not_false,Int.zero_add,reduceCtorEq,false_and,exists_false,false_or,or_false,a_slS,a_comp,a_emit,a_yes,a_iEnum,a_setd,a_sortK,a_dget1,a_dget2,a_disp,a_pairs0,a_pairs1,a_dget,a_augS,a_rGetL,a_raise,a_isE,a_countB]
    refine hN _ _ ?_
    clear hN N
    refine seq_step fun N hN => ?_
    simp only [a_for, a_iList, a_var, cxK, List.getElem?_cons_zero, List.getElem?_cons_succ, Option.some.injEq, V.ref.injEq, exists_eq_left', exists_eq_left]
    refine ⟨⟨_, s1.seq hA⟩, ?_⟩
    refine ForOk.list (xs := ps.map V.ref) (IvJ a n s t rows H) ⟨_, _, _, _, _, rfl, s1, upd_same, (fun r hr => nomatch hr), Int.le_refl 0, fun z => absurd z (by decide)⟩ (fun i σ Hi _ ⟨_, _, _, _, _, _, s, _⟩ => s.seq hA) ?_ ?_
    · rintro i x σ Hi hx ⟨l, m, v6, v7, v8, rfl, sH, hL, hm1, hm2, hm3⟩
      have hi : i < ps.length := by
        have q := (List.getElem?_eq_some_iff.mp hx).1
        rw [List.length_map] at q; exact q
      obtain ⟨q, hq⟩ : ∃ q, ps[i]? = some q := ⟨ps[i], List.getElem?_eq_getElem hi⟩
      rw [List.getElem?_map, hq] at hx
      cases hx
      obtain ⟨r, hr', h3⟩ := pairedAt hP hq
      have hle := endsL_len s t (rows.take i)
      rw [List.length_take] at hle
      simp only [a_gTup,a_gCons,a_gNil,a_gName,cxK,Option.some.injEq,V.int.injEq,V.ref.injEq,List.cons.injEq,exists_eq_left',exists_eq_left,exists_and_left,and_assoc,and_true,true_and,eq_self,List.set_cons_zero,List.set_cons_succ]
      refine ⟨_, SqT.of (sH _ _ h3), rfl, ?_⟩
      simp only [a_gTup,a_gCons,a_gNil,a_gName,cxK,Option.some.injEq,V.int.injEq,V.ref.injEq,List.cons.injEq,exists_eq_left',exists_eq_left,exists_and_left,and_assoc,and_true,true_and,eq_self,List.set_cons_zero,List.set_cons_succ]
      refine seq_step fun N hN => ?_
      simp only [a_var,a_c,a_op,a_un,a_rI,a_rI0,a_rU,a_rEq,a_rNe,s_ii,s_bb,s_ss,a_test,a_tB,a_and,a_or,a_not,a_andV,a_orV,a_notV,a_if,a_next,a_seq,a_brk,a_cont,a_drop,a_ret,a_retN,a_ifS,a_gName,a_gNil,a_gCons,a_gTup,a_gSub,a_asg,a_par,a_aug,a_ipI,a_nil,a_cons,a_tup,a_lst,a_dnew,a_call,a_cb,a_bm,a_bm0,a_noPart,a_part,a_sl,a_rSlL,a_rIxL,a_rIxT,a_rSetL,a_append,a_insert,a_rIn,a_din,a_dnotin,a_dput,a_for,a_iList,a_iTup,a_iRng1,a_iZip,a_rRep,a_rCat,cxK,List.getElem?_cons_zero,List.getElem?_cons_succ,List.set_cons_zero,List.set_cons_succ,Option.some.injEq,V.int.injEq,V.ref.injEq,V.bl.injEq,V.str.injEq,V.ty.injEq,List.cons.injEq,exists_eq_left',exists_eq_left,exists_and_left,and_assoc,and_true,true_and,List.append_nil,List.cons_append,List.nil_append,decide_eq_true_eq,decide_true,decide_false,eq_self,reduceIte,if_true,if_false,Bool.false_eq_true,Bool.not_true,Bool.not_false,Int.zero_add,reduceCtorEq,false_and,exists_false,false_or,or_false,a_slS,a_comp,a_emit,a_yes,a_iEnum,a_setd,a_sortK,a_dget1,a_dget2,a_disp,a_pairs0,a_pairs1,a_dget,a_augS,a_rGetL,a_raise,a_isE,a_countB]
      refine ⟨(show 2 ≤ sizeLine by decide), fun p0 np0 => ?_⟩
      have s2 := same_upd (o := .lst [.int r.1, .int r.2.1]) (Same.refl Hi) np0
      refine ⟨_, s2 _ _ hL, _, upd_same, by rw [List.length_map]; show _ + 2 ≤ sizeLine; omega, fun p1 np1 => ?_⟩
      refine hN _ _ ?_
      clear hN N
      have s3 := same_upd (o := .lst ((endsL s t (rows.take i)).map V.int ++ [.int r.1, .int r.2.1])) (sH.trans s2) np1
      simp only [a_var,a_c,a_op,a_un,a_rI,a_rI0,a_rU,a_rEq,a_rNe,s_ii,s_bb,s_ss,a_test,a_tB,a_and,a_or,a_not,a_andV,a_orV,a_notV,a_if,a_next,a_seq,a_brk,a_cont,a_drop,a_ret,a_retN,a_ifS,a_gName,a_gNil,a_gCons,a_gTup,a_gSub,a_asg,a_par,a_aug,a_ipI,a_nil,a_cons,a_tup,a_lst,a_dnew,a_call,a_cb,a_bm,a_bm0,a_noPart,a_part,a_sl,a_rSlL,a_rIxL,a_rIxT,a_rSetL,a_append,a_insert,a_rIn,a_din,a_dnotin,a_dput,a_for,a_iList,a_iTup,a_iRng1,a_iZip,a_rRep,a_rCat,cxK,List.getElem?_cons_zero,List.getElem?_cons_succ,List.set_cons_zero,List.set_cons_succ,Option.some.injEq,V.int.injEq,V.ref.injEq,V.bl.injEq,V.str.injEq,V.ty.injEq,List.cons.injEq,exists_eq_left',exists_eq_left,exists_and_left,and_assoc,and_true,true_and,List.append_nil,List.cons_append,List.nil_append,decide_eq_true_eq,decide_true,decide_false,eq_self,reduceIte,if_true,if_false,Bool.false_eq_true,Bool.not_true,Bool.not_false,Int.zero_add,reduceCtorEq,false_and,exists_false,false_or,or_false,a_slS,a_comp,a_emit,a_yes,a_iEnum,a_setd,a_sortK,a_dget1,a_dget2,a_disp,a_pairs0,a_pairs1,a_dget,a_augS,a_rGetL,a_raise,a_isE,a_countB]
      refine ⟨_, _, _, _, _, rfl, s3, ?_, fun r' hr => ?_, ?_, fun hlt => ?_⟩
      · rw [upd_same, take_snoc hr', endsL_snoc, List.map_append]
        rfl
      · rw [take_snoc hr'] at hr
        rcases List.mem_append.mp hr with z | z
        · have := hm1 r' z
          split <;> omega
        · rw [List.mem_singleton.mp z]
          split <;> omega
      · split <;> omega
      · rw [take_snoc hr']
        by_cases hw : r.2.2 < m
        · exact ⟨r, List.mem_append_right _ (List.mem_singleton.mpr rfl), by omega⟩
        · rw [if_neg hw] at hlt
          obtain ⟨r', h1, h2⟩ := hm3 hlt
          exact ⟨r', List.mem_append_left _ h1, h2⟩
    rintro σ Hi ⟨l, m, v6, v7, v8, rfl, sH, hL, hm1, hm2, hm3⟩
    rw [List.length_map, hlp, List.take_length] at hL hm1 hm3
    have hpl : 0 < (endsL s t rows).length := by rw [endsL_len]; omega
    refine hN _ _ ?_
    clear hN N
    refine seq_step fun N hN => ?_
    simp only [a_var,a_c,a_op,a_un,a_rI,a_rI0,a_rU,a_rEq,a_rNe,s_ii,s_bb,s_ss,a_test,a_tB,a_and,a_or,a_not,a_andV,a_orV,a_notV,a_if,a_next,a_seq,a_brk,a_cont,a_drop,a_ret,a_retN,a_ifS,a_gName,a_gNil,a_gCons,a_gTup,a_gSub,a_asg,a_par,a_aug,a_ipI,a_nil,a_cons,a_tup,a_lst,a_dnew,a_call,a_cb,a_bm,a_bm0,a_noPart,a_part,a_sl,a_rSlL,a_rIxL,a_rIxT,a_rSetL,a_append,a_insert,a_rIn,a_din,a_dnotin,a_dput,a_for,a_iList,a_iTup,a_iRng1,a_iZip,a_rRep,a_rCat,cxK,List.getElem?_cons_zero,List.getElem?_cons_succ,List.set_cons_zero,List.set_cons_succ,Option.some.injEq,V.int.injEq,V.ref.injEq,V.bl.injEq,V.str.injEq,V.ty.injEq,List.cons.injEq,exists_eq_left',exists_eq_left,exists_and_left,and_assoc,and_true,true_and,List.append_nil,List.cons_append,List.nil_append,decide_eq_true_eq,decide_true,decide_false,eq_self,reduceIte,if_true,if_false,Bool.false_eq_true,Bool.not_true,Bool.not_false,Int.zero_add,reduceCtorEq,false_and,exists_false,false_or,or_false,a_slS,a_comp,a_emit,a_yes,a_iEnum,a_setd,a_sortK,a_dget1,a_dget2,a_disp,a_pairs0,a_pairs1,a_dget,a_augS,a_rGetL,a_raise,a_isE,a_countB]
    refine ⟨_, SqL.of hL, hpl, fun M hM hMin => ?_⟩
    try simp only [a_var,a_c,a_op,a_un,a_rI,a_rI0,a_rU,a_rEq,a_rNe,s_ii,s_bb,s_ss,a_test,a_tB,a_and,a_or,a_not,a_andV,a_orV,a_notV,a_if,a_next,a_seq,a_brk,a_cont,a_drop,a_ret,a_retN,a_ifS,a_gName,a_gNil,a_gCons,a_gTup,a_gSub,a_asg,a_par,a_aug,a_ipI,a_nil,a_cons,a_tup,a_lst,a_dnew,a_call,a_cb,a_bm,a_bm0,a_noPart,a_part,a_sl,a_rSlL,a_rIxL,a_rIxT,a_rSetL,a_append,a_insert,a_rIn,a_din,a_dnotin,a_dput,a_for,a_iList,a_iTup,a_iRng1,a_iZip,a_rRep,a_rCat,cxK,List.getElem?_cons_zero,List.getElem?_cons_succ,List.set_cons_zero,List.set_cons_succ,Option.some.injEq,V.int.injEq,V.ref.injEq,V.bl.injEq,V.str.injEq,V.ty.injEq,List.cons.injEq,exists_eq_left',exists_eq_left,exists_and_left,and_assoc,and_true,true_and,List.append_nil,List.cons_append,List.nil_append,decide_eq_true_eq,decide_true,decide_false,eq_self,reduceIte,if_true,if_false,Bool.false_eq_true,Bool.not_true,Bool.not_false,Int.zero_add,reduceCtorEq,false_and,exists_false,false_or,or_false,a_slS,a_comp,a_emit,a_yes,a_iEnum,a_setd,a_sortK,a_dget1,a_dget2,a_disp,a_pairs0,a_pairs1,a_dget,a_augS,a_rGetL,a_raise,a_isE,a_countB]
    refine ite2 (fun e1 => ?_) (fun e1 => ?_)
    · exact k "no station" Hi (.inl ⟨fun hin => by have := (hin M hM).1; omega, rfl⟩) sH
    try simp only [a_var,a_c,a_op,a_un,a_rI,a_rI0,a_rU,a_rEq,a_rNe,s_ii,s_bb,s_ss,a_test,a_tB,a_and,a_or,a_not,a_andV,a_orV,a_notV,a_if,a_next,a_seq,a_brk,a_cont,a_drop,a_ret,a_retN,a_ifS,a_gName,a_gNil,a_gCons,a_gTup,a_gSub,a_asg,a_par,a_aug,a_ipI,a_nil,a_cons,a_tup,a_lst,a_dnew,a_call,a_cb,a_bm,a_bm0,a_noPart,a_part,a_sl,a_rSlL,a_rIxL,a_rIxT,a_rSetL,a_append,a_insert,a_rIn,a_din,a_dnotin,a_dput,a_for,a_iList,a_iTup,a_iRng1,a_iZip,a_rRep,a_rCat,cxK,List.getElem?_cons_zero,List.getElem?_cons_succ,List.set_cons_zero,List.set_cons_succ,Option.some.injEq,V.int.injEq,V.ref.injEq,V.bl.injEq,V.str.injEq,V.ty.injEq,List.cons.injEq,exists_eq_left',exists_eq_left,exists_and_left,and_assoc,and_true,true_and,List.append_nil,List.cons_append,List.nil_append,decide_eq_true_eq,decide_true,decide_false,eq_self,reduceIte,if_true,if_false,Bool.false_eq_true,Bool.not_true,Bool.not_false,Int.zero_add,reduceCtorEq,false_and,exists_false,false_or,or_false,a_slS,a_comp,a_emit,a_yes,a_iEnum,a_setd,a_sortK,a_dget1,a_dget2,a_disp,a_pairs0,a_pairs1,a_dget,a_augS,a_rGetL,a_raise,a_isE,a_countB]
    refine ⟨_, SqL.of hL, hpl, fun M2 hM2 hMax => ?_⟩
    try simp only [a_var,a_c,a_op,a_un,a_rI,a_rI0,a_rU,a_rEq,a_rNe,s_ii,s_bb,s_ss,a_test,a_tB,a_and,a_or,a_not,a_andV,a_orV,a_notV,a_if,a_next,a_seq,a_brk,a_cont,a_drop,a_ret,a_retN,a_ifS,a_gName,a_gNil,a_gCons,a_gTup,a_gSub,a_asg,a_par,a_aug,a_ipI,a_nil,a_cons,a_tup,a_lst,a_dnew,a_call,a_cb,a_bm,a_bm0,a_noPart,a_part,a_sl,a_rSlL,a_rIxL,a_rIxT,a_rSetL,a_append,a_insert,a_rIn,a_din,a_dnotin,a_dput,a_for,a_iList,a_iTup,a_iRng1,a_iZip,a_rRep,a_rCat,cxK,List.getElem?_cons_zero,List.getElem?_cons_succ,List.set_cons_zero,List.set_cons_succ,Option.some.injEq,V.int.injEq,V.ref.injEq,V.bl.injEq,V.str.injEq,V.ty.injEq,List.cons.injEq,exists_eq_left',exists_eq_left,exists_and_left,and_assoc,and_true,true_and,List.append_nil,List.cons_append,List.nil_append,decide_eq_true_eq,decide_true,decide_false,eq_self,reduceIte,if_true,if_false,Bool.false_eq_true,Bool.not_true,Bool.not_false,Int.zero_add,reduceCtorEq,false_and,exists_false,false_or,or_false,a_slS,a_comp,a_emit,a_yes,a_iEnum,a_setd,a_sortK,a_dget1,a_dget2,a_disp,a_pairs0,a_pairs1,a_dget,a_augS,a_rGetL,a_raise,a_isE,a_countB]
    refine ite2 (fun e2 => ?_) (fun e2 => ?_)
    · exact k "no station" Hi (.inl ⟨fun hin => by have := (hin M2 hM2).2; omega, rfl⟩) sH
    have hin : InR n s t rows := fun z hz => by
      have h1 := hMin z hz
      have h2 := hMax z hz
      omega
    refine hN _ _ ?_
    clear hN N
    refine seq_step fun N hN => ?_
    simp only [a_var,a_c,a_op,a_un,a_rI,a_rI0,a_rU,a_rEq,a_rNe,s_ii,s_bb,s_ss,a_test,a_tB,a_and,a_or,a_not,a_andV,a_orV,a_notV,a_if,a_next,a_seq,a_brk,a_cont,a_drop,a_ret,a_retN,a_ifS,a_gName,a_gNil,a_gCons,a_gTup,a_gSub,a_asg,a_par,a_aug,a_ipI,a_nil,a_cons,a_tup,a_lst,a_dnew,a_call,a_cb,a_bm,a_bm0,a_noPart,a_part,a_sl,a_rSlL,a_rIxL,a_rIxT,a_rSetL,a_append,a_insert,a_rIn,a_din,a_dnotin,a_dput,a_for,a_iList,a_iTup,a_iRng1,a_iZip,a_rRep,a_rCat,cxK,List.getElem?_cons_zero,List.getElem?_cons_succ,List.set_cons_zero,List.set_cons_succ,Option.some.injEq,V.int.injEq,V.ref.injEq,V.bl.injEq,V.str.injEq,V.ty.injEq,List.cons.injEq,exists_eq_left',exists_eq_left,exists_and_left,and_assoc,and_true,true_and,List.append_nil,List.cons_append,List.nil_append,decide_eq_true_eq,decide_true,decide_false,eq_self,reduceIte,if_true,if_false,Bool.false_eq_true,Bool.not_true,Bool.not_false,Int.zero_add,reduceCtorEq,false_and,exists_false,false_or,or_false,a_slS,a_comp,a_emit,a_yes,a_iEnum,a_setd,a_sortK,a_dget1,a_dget2,a_disp,a_pairs0,a_pairs1,a_dget,a_augS,a_rGetL,a_raise,a_isE,a_countB]
    refine ite2 (fun e3 => ?_) (fun e3 => ?_)
    · exact k "no width" Hi (.inr (.inl ⟨hin, hm3 e3, rfl⟩)) sH
    have hw : ∀ r ∈ rows, 0 ≤ r.2.2 := fun r hr => by have := hm1 r hr; omega
    refine hN _ _ ?_
    clear hN N
    simp only [a_var,a_c,a_op,a_un,a_rI,a_rI0,a_rU,a_rEq,a_rNe,s_ii,s_bb,s_ss,a_test,a_tB,a_and,a_or,a_not,a_andV,a_orV,a_notV,a_if,a_next,a_seq,a_brk,a_cont,a_drop,a_ret,a_retN,a_ifS,a_gName,a_gNil,a_gCons,a_gTup,a_gSub,a_asg,a_par,a_aug,a_ipI,a_nil,a_cons,a_tup,a_lst,a_dnew,a_call,a_cb,a_bm,a_bm0,a_noPart,a_part,a_sl,a_rSlL,a_rIxL,a_rIxT,a_rSetL,a_append,a_insert,a_rIn,a_din,a_dnotin,a_dput,a_for,a_iList,a_iTup,a_iRng1,a_iZip,a_rRep,a_rCat,cxK,List.getElem?_cons_zero,List.getElem?_cons_succ,List.set_cons_zero,List.set_cons_succ,Option.some.injEq,V.int.injEq,V.ref.injEq,V.bl.injEq,V.str.injEq,V.ty.injEq,List.cons.injEq,exists_eq_left',exists_eq_left,exists_and_left,and_assoc,and_true,true_and,List.append_nil,List.cons_append,List.nil_append,decide_eq_true_eq,decide_true,decide_false,eq_self,reduceIte,if_true,if_false,Bool.false_eq_true,Bool.not_true,Bool.not_false,Int.zero_add,reduceCtorEq,false_and,exists_false,false_or,or_false,a_slS,a_comp,a_emit,a_yes,a_iEnum,a_setd,a_sortK,a_dget1,a_dget2,a_disp,a_pairs0,a_pairs1,a_dget,a_augS,a_rGetL,a_raise,a_isE,a_countB]
    refine ⟨(show 2 ≤ sizeLine by decide), fun p np => ?_⟩
    by_cases e4 : s = t
    · rw [if_pos e4]
      refine ⟨_, SqL.of upd_same, _, rfl, ?_⟩
      exact k "one station" _ (.inr (.inr (.inl ⟨hin, hw, e4, rfl⟩))) (same_upd sH np)
    · rw [if_neg e4]
      refine ⟨_, SqL.of upd_same, _, rfl, ?_⟩
      exact k "done" _ (.inr (.inr (.inr ⟨hin, hw, e4, rfl⟩))) (same_upd sH np)
end
theorem at_ints (L : List Int) {i : Int} (h0 : 0 ≤ i) (h1 : i < L.length) : atI (L.map V.int) i = some (.int (L.getD i.toNat 0)) := by
  have e := atMapInt (ns := L) (i := i.toNat) (by omega)
  rw [show ((i.toNat : Nat) : Int) = i by omega] at e
  exact e
theorem push_row {H : Hp} {l q : Addr} {ps : List Addr} {rows : List Pipe} {r : Pipe} (hl : H l = some (.lst (ps.map V.ref))) (hR : Paired (PRow H) ps rows) (nq : H q = none) :
    Paired (PRow (upd (upd H q (.tup [.int r.1, .int r.2.1, .int r.2.2])) l (.lst (ps.map V.ref ++ [V.ref q])))) (ps ++ [q]) (rows ++ [r]) ∧
    (upd (upd H q (.tup [.int r.1, .int r.2.1, .int r.2.2])) l (.lst (ps.map V.ref ++ [V.ref q]))) l = some (.lst ((ps ++ [q]).map V.ref)) := by
  refine ⟨pairedSnoc (pairedMap (fun p r' e => ?_) hR) ?_, by rw [upd_same, List.map_append]; rfl⟩
  · have e : H p = some (.tup [.int r'.1, .int r'.2.1, .int r'.2.2]) := e
    show _ = some (HO.tup [.int r'.1, .int r'.2.1, .int r'.2.2])
    rw [upd_ne (ne_of e hl (by intro z; cases z)), upd_ne (ne_of_none e nq)]
    exact e
  · show _ = some (HO.tup [.int r.1, .int r.2.1, .int r.2.2])
    rw [upd_ne (ne_of_none hl nq).symm, upd_same]
def IvP8 (L : List (Option V)) (l : Addr) (cs : List Int) (H : Hp) (i : Nat) (σ : St) (Hi : Hp) : Prop :=
  ∃ (v11 v12 v13 : Option V) (ps : List Addr) (rows : List Pipe), σ = L ++ [some (.ref l), v11, v12, v13, none, none, none] ∧ Same H Hi ∧ Hi l = some (.lst (ps.map V.ref)) ∧ Paired (PRow Hi) ps rows ∧ ps.length = i
abbrev s_law : Stmt := top 30
theorem sc_law : FnScope ["_law_script", "_law_cells", "_law_count", "_law_flaws", "_law_spring", "_law_drain", "_law_spot", "_law_far", "_law_wrong", "_law_where", "_law_pipes", "_law_k", "_law_start", "_law_goal", "_law_narrow", "_law_tubes", "_law_due"] ["_law_script"] (defScope s_law) := ⟨rfl, rfl, rfl, by decide +kernel, rfl, by decide +kernel, by decide +kernel⟩
section
variable {P : Program} {w : World} {K : PySem.W.Frag} {mg : Str → Option Value} {base : Heap}
theorem ok_law {f : Addr} {fd : FuncData} (F : Fun K "law" "law" s_law f fd) (T : Txt K mg) {cF cN cW c1 : Addr} (CL : Cls K mg cF cN cW c1) {f_at : Addr} {fd_at : FuncData} (F__law_at : FOk P w K mg base "_law_at" 1 ["_law_script", "_law_k"] (spAt K) f_at fd_at) {f_judged : Addr} {fd_judged : FuncData} (F__law_judged : FOk P w K mg base "_law_judged" 1 ["_law_count", "_law_pipes", "_law_spring", "_law_drain"] (spJudged K) f_judged fd_judged) {f_room : Addr} {fd_room : FuncData} (F__law_room : FOk P w K mg base "_law_room" 1 ["_law_script", "_law_most", "_law_bound"] (spRoomL K) f_room fd_room) {f_rows : Addr} {fd_rows : FuncData} (F__law_rows : FOk P w K mg base "_law_rows" 2 ["_law_found", "_law_due"] spRows f_rows fd_rows) {f_said : Addr} {fd_said : FuncData} (F__law_said : FOk P w K mg base "_law_said" 6 ["_law_count", "_law_tubes", "_law_spring", "_law_drain"] (spSaid K) f_said fd_said) :
    FnOk P w K mg base CX0 12 f fd ["_law_script"] (spLaw K) := by
  refine F.ok sc_law (fun vs H Q E h => ?_) (fun cdv A outer s H vs Q E hr h => ?_)
  · obtain ⟨a, ns, rfl, hS, hlen, k⟩ := h
    rfl
  · obtain ⟨a, ns, rfl, hS, hlen, k⟩ := h
    have SC := sc_law
    have hu := hu_of hr
    have hu0 := hr.units0
    refine ⟨_, (pss_cons (ps_set (i := 1) SC.nd rfl (Or.inl rfl) (pe_slice sl_list (pv 0) (po_some pe_int) (po_some (pe_op op_add pe_int (pe_call F__law_room.G (hr.mono (by decide)) rfl F__law_room.m F__law_room.kp F__law_room.b .nil pass0 (pa_cons (pv 0) (pa_cons pe_int (pa_cons pe_int pa_nil))))))))
  (pss_cons (ps_set (i := 2) SC.nd rfl (Or.inl rfl) (pe_op op_add pe_int (pe_op op_mod (pe_call F__law_at.G (hr.mono (by decide)) rfl F__law_at.m F__law_at.kp F__law_at.b .nil pass0 (pa_cons (pv 0) (pa_cons pe_int pa_nil))) pe_int)))
  (pss_cons (ps_set (i := 3) SC.nd rfl (Or.inl rfl) (pe_call F__law_at.G (hr.mono (by decide)) rfl F__law_at.m F__law_at.kp F__law_at.b .nil pass0 (pa_cons (pv 0) (pa_cons pe_int pa_nil))))
  (pss_cons (ps_set (i := 4) SC.nd rfl (Or.inl rfl) (pe_op op_mod (pe_call F__law_at.G (hr.mono (by decide)) rfl F__law_at.m F__law_at.kp F__law_at.b .nil pass0 (pa_cons (pv 0) (pa_cons pe_int pa_nil))) (pv 2)))
  (pss_cons (ps_set (i := 5) SC.nd rfl (Or.inl rfl) (pe_op op_mod (pe_op op_add (pe_op op_add (pv 4) pe_int) (pe_op op_mod (pe_op op_fdiv (pe_call F__law_at.G (hr.mono (by decide)) rfl F__law_at.m F__law_at.kp F__law_at.b .nil pass0 (pa_cons (pv 0) (pa_cons pe_int pa_nil))) (pv 2)) (pe_op op_sub (pv 2) pe_int))) (pv 2)))
  (pss_cons (ps_set (i := 6) SC.nd rfl (Or.inl rfl) (pe_op op_mod (pe_call F__law_at.G (hr.mono (by decide)) rfl F__law_at.m F__law_at.kp F__law_at.b .nil pass0 (pa_cons (pv 0) (pa_cons pe_int pa_nil))) (pe_op op_add (pe_callB call_len_seq rfl T.z_len PySem.boot_len (pa_cons (pv 1) pa_nil)) pe_int)))
  (pss_cons (ps_set (i := 7) SC.nd rfl (Or.inl rfl) (pe_op op_mod (pe_op op_fdiv (pe_call F__law_at.G (hr.mono (by decide)) rfl F__law_at.m F__law_at.kp F__law_at.b .nil pass0 (pa_cons (pv 0) (pa_cons pe_int pa_nil))) pe_int) (pe_op op_pow pe_int pe_int)))
  (pss_cons (ps_set (i := 8) SC.nd rfl (Or.inl rfl) (pe_ix ix_list (pe_lst (pa_cons (pe_un un_neg pe_int) (pa_cons (pv 2) (pa_cons (pe_op op_add (pv 2) (pv 7)) (pa_cons (pe_op op_sub (pe_un un_neg pe_int) (pe_op op_mod (pv 7) (pe_op op_add (pv 2) pe_int))) pa_nil))))) (pe_op op_mod (pe_call F__law_at.G (hr.mono (by decide)) rfl F__law_at.m F__law_at.kp F__law_at.b .nil pass0 (pa_cons (pv 0) (pa_cons pe_int pa_nil))) pe_int) (fun _ _ => rfl)))
  (pss_cons (ps_set (i := 9) SC.nd rfl (Or.inl rfl) (pe_op op_mod (pe_op op_add (pe_call F__law_at.G (hr.mono (by decide)) rfl F__law_at.m F__law_at.kp F__law_at.b .nil pass0 (pa_cons (pv 0) (pa_cons pe_int pa_nil))) (pe_call F__law_at.G (hr.mono (by decide)) rfl F__law_at.m F__law_at.kp F__law_at.b .nil pass0 (pa_cons (pv 0) (pa_cons pe_int pa_nil)))) pe_int))
  (pss_cons (ps_set (i := 10) SC.nd rfl (Or.inl rfl) (pe_lst pa_nil))
  (pss_cons (ps_for PassesOwn.never rfl (pi_range1 rfl T.z_range (pa_cons (pe_callB call_len_seq rfl T.z_len PySem.boot_len (pa_cons (pv 1) pa_nil)) pa_nil)) (pg_name (i := 11) SC.nd rfl (Or.inl rfl))
  (pss_cons (ps_set (i := 12) SC.nd rfl (Or.inl rfl) (pe_op op_mod (pe_op op_add (pe_ix ix_list (pv 1) (pv 11) (fun _ _ => rfl)) (pv 11)) (pv 2)))
  (pss_cons (ps_set (i := 13) SC.nd rfl (Or.inl rfl) (pe_op op_mod (pe_op op_add (pe_op op_fdiv (pe_ix ix_list (pv 1) (pv 11) (fun _ _ => rfl)) pe_int) (pe_op op_mul pe_int (pv 11))) (pv 2)))
  (pss_one (ps_expr (pe_bm PySem.F.plainAttrs_list PySem.F.slot_list_append PySem.F.type_list_append mt_append (pv 10) (pa_cons (pe_tup (pa_cons (pv 12) (pa_cons (pv 13) (pa_cons (pe_op op_mod (pe_ix ix_list (pv 1) (pv 11) (fun _ _ => rfl)) pe_int) pa_nil)))) pa_nil)))))))
  (pss_cons (ps_if (pt_cmpR op_eq (pe_op op_mod (pe_op op_fdiv (pv 3) pe_int) pe_int) pe_int (nomark _))
  (pss_one (ps_set (i := 5) SC.nd rfl (Or.inl rfl) (pv 4)))
  pss_nil)
  (pss_cons (ps_if (pt_cmpR op_eq (pe_op op_mod (pe_op op_fdiv (pv 3) pe_int) pe_int) pe_int (nomark _))
  (pss_cons (ps_set (i := 14) SC.nd rfl (Or.inl rfl) (pe_ix ix_list (pe_lst (pa_cons (pe_un un_neg pe_int) (pa_cons (pe_op op_sub (pe_un un_neg pe_int) (pe_op op_mod (pv 3) (pe_op op_pow pe_int pe_int))) pa_nil))) (pe_op op_mod (pe_op op_fdiv (pv 3) pe_int) pe_int) (fun _ _ => rfl)))
  (pss_one (ps_set (i := 10) SC.nd rfl (Or.inl rfl) (pe_op op_cat (pe_op op_cat (pe_slice sl_list (pv 10) po_none (po_some (pv 6))) (pe_lst (pa_cons (pe_tup (pa_cons pe_int (pa_cons pe_int (pa_cons (pv 14) pa_nil)))) pa_nil))) (pe_slice sl_list (pv 10) (po_some (pv 6)) po_none)))))
  pss_nil)
  (pss_cons (ps_if (pt_cmpR op_eq (pe_op op_mod (pv 3) pe_int) pe_int (nomark _))
  (pss_one (ps_if (pt_cmpR op_eq (pv 9) pe_int (nomark _))
  (pss_one (ps_set (i := 4) SC.nd rfl (Or.inl rfl) (pv 8)))
  (pss_one (ps_if (pt_cmpR op_eq (pv 9) pe_int (nomark _))
  (pss_one (ps_set (i := 5) SC.nd rfl (Or.inl rfl) (pv 8)))
  (pss_one (ps_if (pt_cmpR op_eq (pv 9) pe_int (nomark _))
  (pss_one (ps_set (i := 10) SC.nd rfl (Or.inl rfl) (pe_op op_cat (pe_op op_cat (pe_slice sl_list (pv 10) po_none (po_some (pv 6))) (pe_lst (pa_cons (pe_tup (pa_cons (pv 8) (pa_cons pe_int (pa_cons pe_int pa_nil)))) pa_nil))) (pe_slice sl_list (pv 10) (po_some (pv 6)) po_none))))
  (pss_one (ps_set (i := 10) SC.nd rfl (Or.inl rfl) (pe_op op_cat (pe_op op_cat (pe_slice sl_list (pv 10) po_none (po_some (pv 6))) (pe_lst (pa_cons (pe_tup (pa_cons pe_int (pa_cons (pv 8) (pa_cons pe_int pa_nil)))) pa_nil))) (pe_slice sl_list (pv 10) (po_some (pv 6)) po_none))))))))))
  pss_nil)
  (pss_cons (ps_set (i := 15) SC.nd rfl (Or.inl rfl) (pe_callTy call_list_of rfl T.z_list PyProof.Rows.boot_list (pa_cons (pv 10) pa_nil)))
  (pss_cons (ps_set (i := 16) SC.nd rfl (Or.inl rfl) (pe_call F__law_judged.G (hr.mono (by decide)) rfl F__law_judged.m F__law_judged.kp F__law_judged.b .nil pass0 (pa_cons (pv 2) (pa_cons (pv 10) (pa_cons (pv 4) (pa_cons (pv 5) pa_nil))))))
  (pss_one (ps_ret (pe_and (pe_cmpR op_eq (pe_call F__law_said.G (hr.mono (by decide)) rfl F__law_said.m F__law_said.kp F__law_said.b .nil pass0 (pa_cons (pv 2) (pa_cons (pv 15) (pa_cons (pv 4) (pa_cons (pv 5) pa_nil))))) (pv 16) (nomark _)) (pe_one (pe_call F__law_rows.G (hr.mono (by decide)) rfl F__law_rows.m F__law_rows.kp F__law_rows.b .nil pass0 (pa_cons (pv 15) (pa_cons (pv 10) pa_nil))))))))))))))))))))))), ?_⟩
    rw [show start ["_law_script", "_law_cells", "_law_count", "_law_flaws", "_law_spring", "_law_drain", "_law_spot", "_law_far", "_law_wrong", "_law_where", "_law_pipes", "_law_k", "_law_start", "_law_goal", "_law_narrow", "_law_tubes", "_law_due"] [V.ref a] = [some (V.ref a), none, none, none, none, none, none, none, none, none, none, none, none, none, none, none, none] from rfl]
    have hsz : sizeLine = 16777216 := sizeLine_eq
    refine seq_step fun N hN => ?_
    simp only [a_var,a_c,a_op,a_un,a_rI,a_rI0,a_rU,a_rEq,a_rNe,s_ii,s_bb,s_ss,a_test,a_tB,a_and,a_or,a_not,a_andV,a_orV,a_notV,a_if,a_next,a_seq,a_brk,a_cont,a_drop,a_ret,a_retN,a_ifS,a_gName,a_gNil,a_gCons,a_gTup,a_gSub,a_asg,a_par,a_aug,a_ipI,a_nil,a_cons,a_tup,a_lst,a_dnew,a_call,a_cb,a_bm,a_bm0,a_noPart,a_part,a_sl,a_rSlL,a_rIxL,a_rIxT,a_rSetL,a_append,a_insert,a_rIn,a_din,a_dnotin,a_dput,a_for,a_iList,a_iTup,a_iRng1,a_iZip,a_rRep,a_rCat,cxK,List.getElem?_cons_zero,List.getElem?_cons_succ,List.set_cons_zero,List.set_cons_succ,Option.some.injEq,V.int.injEq,V.ref.injEq,V.bl.injEq,V.str.injEq,V.ty.injEq,List.cons.injEq,exists_eq_left',exists_eq_left,exists_and_left,and_assoc,and_true,true_and,List.append_nil,List.cons_append,List.nil_append,decide_eq_true_eq,decide_true,decide_false,eq_self,reduceIte,if_true,if_false,Bool.false_eq_true,Bool.not_true,Bool.not_false,Int.zero_add,reduceCtorEq,false_and,exists_false,false_or,or_false,a_slS,a_comp,a_emit,a_yes,a_iEnum,a_setd,a_sortK,a_dget1,a_dget2,a_disp,a_pairs0,a_pairs1,a_dget,a_augS,a_rGetL,a_raise,a_isE,a_countB]
    refine ⟨a, _, 20, 198, rfl, hS, by rw [List.length_map]; exact hlen, ?_⟩
    try simp only [a_var,a_c,a_op,a_un,a_rI,a_rI0,a_rU,a_rEq,a_rNe,s_ii,s_bb,s_ss,a_test,a_tB,a_and,a_or,a_not,a_andV,a_orV,a_notV,a_if,a_next,a_seq,a_brk,a_cont,a_drop,a_ret,a_retN,a_ifS,a_gName,a_gNil,a_gCons,a_gTup,a_gSub,a_asg,a_par,a_aug,a_ipI,a_nil,a_cons,a_tup,a_lst,a_dnew,a_call,a_cb,a_bm,a_bm0,a_noPart,a_part,a_sl,a_rSlL,a_rIxL,a_rIxT,a_rSetL,a_append,a_insert,a_rIn,a_din,a_dnotin,a_dput,a_for,a_iList,a_iTup,a_iRng1,a_iZip,a_rRep,a_rCat,cxK,List.getElem?_cons_zero,List.getElem?_cons_succ,List.set_cons_zero,List.set_cons_succ,Option.some.injEq,V.int.injEq,V.ref.injEq,V.bl.injEq,V.str.injEq,V.ty.injEq,List.cons.injEq,exists_eq_left',exists_eq_left,exists_and_left,and_assoc,and_true,true_and,List.append_nil,List.cons_append,List.nil_append,decide_eq_true_eq,decide_true,decide_false,eq_self,reduceIte,if_true,if_false,Bool.false_eq_true,Bool.not_true,Bool.not_false,Int.zero_add,reduceCtorEq,false_and,exists_false,false_or,or_false,a_slS,a_comp,a_emit,a_yes,a_iEnum,a_setd,a_sortK,a_dget1,a_dget2,a_disp,a_pairs0,a_pairs1,a_dget,a_augS,a_rGetL,a_raise,a_isE,a_countB]
    refine ⟨_, hS, fun p1 n1 => ?_⟩
    obtain ⟨cs, ecs, hcs⟩ := cut_ints ns (some 4) (some (4 + 20))
    rw [ecs]
    refine hN _ _ ?_
    clear hN N
    have s1 : Same H (upd H p1 (.lst (cs.map V.int))) := same_upd (Same.refl H) n1
    have c1 : (upd H p1 (.lst (cs.map V.int))) p1 = some (.lst (cs.map V.int)) := upd_same
    generalize upd H p1 (.lst (cs.map V.int)) = H1 at s1 c1
    have sS := s1.seq hS
    refine seq_step fun N hN => ?_
    simp only [a_var,a_c,a_op,a_un,a_rI,a_rI0,a_rU,a_rEq,a_rNe,s_ii,s_bb,s_ss,a_test,a_tB,a_and,a_or,a_not,a_andV,a_orV,a_notV,a_if,a_next,a_seq,a_brk,a_cont,a_drop,a_ret,a_retN,a_ifS,a_gName,a_gNil,a_gCons,a_gTup,a_gSub,a_asg,a_par,a_aug,a_ipI,a_nil,a_cons,a_tup,a_lst,a_dnew,a_call,a_cb,a_bm,a_bm0,a_noPart,a_part,a_sl,a_rSlL,a_rIxL,a_rIxT,a_rSetL,a_append,a_insert,a_rIn,a_din,a_dnotin,a_dput,a_for,a_iList,a_iTup,a_iRng1,a_iZip,a_rRep,a_rCat,cxK,List.getElem?_cons_zero,List.getElem?_cons_succ,List.set_cons_zero,List.set_cons_succ,Option.some.injEq,V.int.injEq,V.ref.injEq,V.bl.injEq,V.str.injEq,V.ty.injEq,List.cons.injEq,exists_eq_left',exists_eq_left,exists_and_left,and_assoc,and_true,true_and,List.append_nil,List.cons_append,List.nil_append,decide_eq_true_eq,decide_true,decide_false,eq_self,reduceIte,if_true,if_false,Bool.false_eq_true,Bool.not_true,Bool.not_false,Int.zero_add,reduceCtorEq,false_and,exists_false,false_or,or_false,a_slS,a_comp,a_emit,a_yes,a_iEnum,a_setd,a_sortK,a_dget1,a_dget2,a_disp,a_pairs0,a_pairs1,a_dget,a_augS,a_rGetL,a_raise,a_isE,a_countB,spAt]
    refine ⟨ns, sS, by decide, by decide, ?_⟩
    refine hN _ _ ?_
    clear hN N
    obtain ⟨cN, hcN, hc2, hc5⟩ : ∃ m : Nat, (m : Int) = 2 + ns.getD (Int.toNat 0) 0 % 4 ∧ 2 ≤ m ∧ m ≤ 5 := ⟨(2 + ns.getD (Int.toNat 0) 0 % 4).toNat, by omega, by omega, by omega⟩
    rw [← hcN]
    refine seq_step fun N hN => ?_
    simp only [a_var,a_c,a_op,a_un,a_rI,a_rI0,a_rU,a_rEq,a_rNe,s_ii,s_bb,s_ss,a_test,a_tB,a_and,a_or,a_not,a_andV,a_orV,a_notV,a_if,a_next,a_seq,a_brk,a_cont,a_drop,a_ret,a_retN,a_ifS,a_gName,a_gNil,a_gCons,a_gTup,a_gSub,a_asg,a_par,a_aug,a_ipI,a_nil,a_cons,a_tup,a_lst,a_dnew,a_call,a_cb,a_bm,a_bm0,a_noPart,a_part,a_sl,a_rSlL,a_rIxL,a_rIxT,a_rSetL,a_append,a_insert,a_rIn,a_din,a_dnotin,a_dput,a_for,a_iList,a_iTup,a_iRng1,a_iZip,a_rRep,a_rCat,cxK,List.getElem?_cons_zero,List.getElem?_cons_succ,List.set_cons_zero,List.set_cons_succ,Option.some.injEq,V.int.injEq,V.ref.injEq,V.bl.injEq,V.str.injEq,V.ty.injEq,List.cons.injEq,exists_eq_left',exists_eq_left,exists_and_left,and_assoc,and_true,true_and,List.append_nil,List.cons_append,List.nil_append,decide_eq_true_eq,decide_true,decide_false,eq_self,reduceIte,if_true,if_false,Bool.false_eq_true,Bool.not_true,Bool.not_false,Int.zero_add,reduceCtorEq,false_and,exists_false,false_or,or_false,a_slS,a_comp,a_emit,a_yes,a_iEnum,a_setd,a_sortK,a_dget1,a_dget2,a_disp,a_pairs0,a_pairs1,a_dget,a_augS,a_rGetL,a_raise,a_isE,a_countB,spAt]
    refine ⟨ns, sS, by decide, ?_⟩
    refine hN _ _ ?_
    clear hN N
    generalize ns.getD (Int.toNat 1) 0 = fl
    refine seq_step fun N hN => ?_
    simp only [a_var,a_c,a_op,a_un,a_rI,a_rI0,a_rU,a_rEq,a_rNe,s_ii,s_bb,s_ss,a_test,a_tB,a_and,a_or,a_not,a_andV,a_orV,a_notV,a_if,a_next,a_seq,a_brk,a_cont,a_drop,a_ret,a_retN,a_ifS,a_gName,a_gNil,a_gCons,a_gTup,a_gSub,a_asg,a_par,a_aug,a_ipI,a_nil,a_cons,a_tup,a_lst,a_dnew,a_call,a_cb,a_bm,a_bm0,a_noPart,a_part,a_sl,a_rSlL,a_rIxL,a_rIxT,a_rSetL,a_append,a_insert,a_rIn,a_din,a_dnotin,a_dput,a_for,a_iList,a_iTup,a_iRng1,a_iZip,a_rRep,a_rCat,cxK,List.getElem?_cons_zero,List.getElem?_cons_succ,List.set_cons_zero,List.set_cons_succ,Option.some.injEq,V.int.injEq,V.ref.injEq,V.bl.injEq,V.str.injEq,V.ty.injEq,List.cons.injEq,exists_eq_left',exists_eq_left,exists_and_left,and_assoc,and_true,true_and,List.append_nil,List.cons_append,List.nil_append,decide_eq_true_eq,decide_true,decide_false,eq_self,reduceIte,if_true,if_false,Bool.false_eq_true,Bool.not_true,Bool.not_false,Int.zero_add,reduceCtorEq,false_and,exists_false,false_or,or_false,a_slS,a_comp,a_emit,a_yes,a_iEnum,a_setd,a_sortK,a_dget1,a_dget2,a_disp,a_pairs0,a_pairs1,a_dget,a_augS,a_rGetL,a_raise,a_isE,a_countB,spAt]
    refine ⟨ns, sS, by decide, by omega, ?_⟩
    refine hN _ _ ?_
    clear hN N
    generalize ns.getD (Int.toNat 2) 0 % (cN : Int) = sp0
    refine seq_step fun N hN => ?_
    simp only [a_var,a_c,a_op,a_un,a_rI,a_rI0,a_rU,a_rEq,a_rNe,s_ii,s_bb,s_ss,a_test,a_tB,a_and,a_or,a_not,a_andV,a_orV,a_notV,a_if,a_next,a_seq,a_brk,a_cont,a_drop,a_ret,a_retN,a_ifS,a_gName,a_gNil,a_gCons,a_gTup,a_gSub,a_asg,a_par,a_aug,a_ipI,a_nil,a_cons,a_tup,a_lst,a_dnew,a_call,a_cb,a_bm,a_bm0,a_noPart,a_part,a_sl,a_rSlL,a_rIxL,a_rIxT,a_rSetL,a_append,a_insert,a_rIn,a_din,a_dnotin,a_dput,a_for,a_iList,a_iTup,a_iRng1,a_iZip,a_rRep,a_rCat,cxK,List.getElem?_cons_zero,List.getElem?_cons_succ,List.set_cons_zero,List.set_cons_succ,Option.some.injEq,V.int.injEq,V.ref.injEq,V.bl.injEq,V.str.injEq,V.ty.injEq,List.cons.injEq,exists_eq_left',exists_eq_left,exists_and_left,and_assoc,and_true,true_and,List.append_nil,List.cons_append,List.nil_append,decide_eq_true_eq,decide_true,decide_false,eq_self,reduceIte,if_true,if_false,Bool.false_eq_true,Bool.not_true,Bool.not_false,Int.zero_add,reduceCtorEq,false_and,exists_false,false_or,or_false,a_slS,a_comp,a_emit,a_yes,a_iEnum,a_setd,a_sortK,a_dget1,a_dget2,a_disp,a_pairs0,a_pairs1,a_dget,a_augS,a_rGetL,a_raise,a_isE,a_countB,spAt]
    refine ⟨ns, sS, by decide, ⟨by omega, by omega⟩, by omega, by omega, ?_⟩
    refine hN _ _ ?_
    clear hN N
    generalize (sp0 + 1 + ns.getD (Int.toNat 2) 0 / (cN : Int) % ((cN : Int) - 1)) % (cN : Int) = dr0
    refine seq_step fun N hN => ?_
    simp only [a_var,a_c,a_op,a_un,a_rI,a_rI0,a_rU,a_rEq,a_rNe,s_ii,s_bb,s_ss,a_test,a_tB,a_and,a_or,a_not,a_andV,a_orV,a_notV,a_if,a_next,a_seq,a_brk,a_cont,a_drop,a_ret,a_retN,a_ifS,a_gName,a_gNil,a_gCons,a_gTup,a_gSub,a_asg,a_par,a_aug,a_ipI,a_nil,a_cons,a_tup,a_lst,a_dnew,a_call,a_cb,a_bm,a_bm0,a_noPart,a_part,a_sl,a_rSlL,a_rIxL,a_rIxT,a_rSetL,a_append,a_insert,a_rIn,a_din,a_dnotin,a_dput,a_for,a_iList,a_iTup,a_iRng1,a_iZip,a_rRep,a_rCat,cxK,List.getElem?_cons_zero,List.getElem?_cons_succ,List.set_cons_zero,List.set_cons_succ,Option.some.injEq,V.int.injEq,V.ref.injEq,V.bl.injEq,V.str.injEq,V.ty.injEq,List.cons.injEq,exists_eq_left',exists_eq_left,exists_and_left,and_assoc,and_true,true_and,List.append_nil,List.cons_append,List.nil_append,decide_eq_true_eq,decide_true,decide_false,eq_self,reduceIte,if_true,if_false,Bool.false_eq_true,Bool.not_true,Bool.not_false,Int.zero_add,reduceCtorEq,false_and,exists_false,false_or,or_false,a_slS,a_comp,a_emit,a_yes,a_iEnum,a_setd,a_sortK,a_dget1,a_dget2,a_disp,a_pairs0,a_pairs1,a_dget,a_augS,a_rGetL,a_raise,a_isE,a_countB,spAt]
    refine ⟨ns, sS, by decide, _, .inl (SqL.of c1), by omega, ?_⟩
    refine hN _ _ ?_
    clear hN N
    obtain ⟨kN, hkN⟩ : ∃ m : Nat, (m : Int) = ns.getD (Int.toNat 3) 0 % ((cs.map V.int).length + 1) := ⟨(ns.getD (Int.toNat 3) 0 % ((cs.map V.int).length + 1)).toNat, by have := Int.emod_nonneg (ns.getD (Int.toNat 3) 0) (show (((cs.map V.int).length : Int) + 1) ≠ 0 by omega); omega⟩
    rw [← hkN]
    refine seq_step fun N hN => ?_
    simp only [a_var,a_c,a_op,a_un,a_rI,a_rI0,a_rU,a_rEq,a_rNe,s_ii,s_bb,s_ss,a_test,a_tB,a_and,a_or,a_not,a_andV,a_orV,a_notV,a_if,a_next,a_seq,a_brk,a_cont,a_drop,a_ret,a_retN,a_ifS,a_gName,a_gNil,a_gCons,a_gTup,a_gSub,a_asg,a_par,a_aug,a_ipI,a_nil,a_cons,a_tup,a_lst,a_dnew,a_call,a_cb,a_bm,a_bm0,a_noPart,a_part,a_sl,a_rSlL,a_rIxL,a_rIxT,a_rSetL,a_append,a_insert,a_rIn,a_din,a_dnotin,a_dput,a_for,a_iList,a_iTup,a_iRng1,a_iZip,a_rRep,a_rCat,cxK,List.getElem?_cons_zero,List.getElem?_cons_succ,List.set_cons_zero,List.set_cons_succ,Option.some.injEq,V.int.injEq,V.ref.injEq,V.bl.injEq,V.str.injEq,V.ty.injEq,List.cons.injEq,exists_eq_left',exists_eq_left,exists_and_left,and_assoc,and_true,true_and,List.append_nil,List.cons_append,List.nil_append,decide_eq_true_eq,decide_true,decide_false,eq_self,reduceIte,if_true,if_false,Bool.false_eq_true,Bool.not_true,Bool.not_false,Int.zero_add,reduceCtorEq,false_and,exists_false,false_or,or_false,a_slS,a_comp,a_emit,a_yes,a_iEnum,a_setd,a_sortK,a_dget1,a_dget2,a_disp,a_pairs0,a_pairs1,a_dget,a_augS,a_rGetL,a_raise,a_isE,a_countB,spAt]
    refine ⟨ns, sS, by decide, ⟨by decide, by decide⟩, ⟨by decide, by decide, by decide⟩, by decide, ?_⟩
    refine hN _ _ ?_
    clear hN N
    generalize ns.getD (Int.toNat 3) 0 / 4 % 10 ^ (12 : Int).toNat = far
    refine seq_step fun N hN => ?_
    simp only [a_var,a_c,a_op,a_un,a_rI,a_rI0,a_rU,a_rEq,a_rNe,s_ii,s_bb,s_ss,a_test,a_tB,a_and,a_or,a_not,a_andV,a_orV,a_notV,a_if,a_next,a_seq,a_brk,a_cont,a_drop,a_ret,a_retN,a_ifS,a_gName,a_gNil,a_gCons,a_gTup,a_gSub,a_asg,a_par,a_aug,a_ipI,a_nil,a_cons,a_tup,a_lst,a_dnew,a_call,a_cb,a_bm,a_bm0,a_noPart,a_part,a_sl,a_rSlL,a_rIxL,a_rIxT,a_rSetL,a_append,a_insert,a_rIn,a_din,a_dnotin,a_dput,a_for,a_iList,a_iTup,a_iRng1,a_iZip,a_rRep,a_rCat,cxK,List.getElem?_cons_zero,List.getElem?_cons_succ,List.set_cons_zero,List.set_cons_succ,Option.some.injEq,V.int.injEq,V.ref.injEq,V.bl.injEq,V.str.injEq,V.ty.injEq,List.cons.injEq,exists_eq_left',exists_eq_left,exists_and_left,and_assoc,and_true,true_and,List.append_nil,List.cons_append,List.nil_append,decide_eq_true_eq,decide_true,decide_false,eq_self,reduceIte,if_true,if_false,Bool.false_eq_true,Bool.not_true,Bool.not_false,Int.zero_add,reduceCtorEq,false_and,exists_false,false_or,or_false,a_slS,a_comp,a_emit,a_yes,a_iEnum,a_setd,a_sortK,a_dget1,a_dget2,a_disp,a_pairs0,a_pairs1,a_dget,a_augS,a_rGetL,a_raise,a_isE,a_countB,spAt]
    refine ⟨by omega, (show 4 ≤ sizeLine by decide), fun p2 n2 => ?_⟩
    have s2 := same_upd (o := .lst [.int (-1), .int (cN : Int), .int (cN + far), .int (-1 - far % (cN + 2))]) (Same.refl H1) n2
    refine ⟨ns, (s1.trans s2).seq hS, by decide, by decide, ?_⟩
    refine ⟨_, SqL.of upd_same, _, at_ints [-1, (cN : Int), cN + far, -1 - far % (cN + 2)] (Int.emod_nonneg _ (by decide)) (Int.emod_lt_of_pos _ (by decide)), ?_⟩
    refine hN _ _ ?_
    clear hN N
    generalize ([-1, (cN : Int), cN + far, -1 - far % (cN + 2)] : List Int).getD (ns.getD (Int.toNat 3) 0 % 4).toNat 0 = wr
    have s12 := s1.trans s2
    have c2 := s2 _ _ c1
    have sS2 := s12.seq hS
    refine seq_step fun N hN => ?_
    simp only [a_var,a_c,a_op,a_un,a_rI,a_rI0,a_rU,a_rEq,a_rNe,s_ii,s_bb,s_ss,a_test,a_tB,a_and,a_or,a_not,a_andV,a_orV,a_notV,a_if,a_next,a_seq,a_brk,a_cont,a_drop,a_ret,a_retN,a_ifS,a_gName,a_gNil,a_gCons,a_gTup,a_gSub,a_asg,a_par,a_aug,a_ipI,a_nil,a_cons,a_tup,a_lst,a_dnew,a_call,a_cb,a_bm,a_bm0,a_noPart,a_part,a_sl,a_rSlL,a_rIxL,a_rIxT,a_rSetL,a_append,a_insert,a_rIn,a_din,a_dnotin,a_dput,a_for,a_iList,a_iTup,a_iRng1,a_iZip,a_rRep,a_rCat,cxK,List.getElem?_cons_zero,List.getElem?_cons_succ,List.set_cons_zero,List.set_cons_succ,Option.some.injEq,V.int.injEq,V.ref.injEq,V.bl.injEq,V.str.injEq,V.ty.injEq,List.cons.injEq,exists_eq_left',exists_eq_left,exists_and_left,and_assoc,and_true,true_and,List.append_nil,List.cons_append,List.nil_append,decide_eq_true_eq,decide_true,decide_false,eq_self,reduceIte,if_true,if_false,Bool.false_eq_true,Bool.not_true,Bool.not_false,Int.zero_add,reduceCtorEq,false_and,exists_false,false_or,or_false,a_slS,a_comp,a_emit,a_yes,a_iEnum,a_setd,a_sortK,a_dget1,a_dget2,a_disp,a_pairs0,a_pairs1,a_dget,a_augS,a_rGetL,a_raise,a_isE,a_countB,spAt]
    refine ⟨ns, sS2, by decide, ns, sS2, by decide, by decide, ?_⟩
    refine hN _ _ ?_
    clear hN N
    generalize (ns.getD (Int.toNat 2) 0 + ns.getD (Int.toNat 3) 0) % 4 = wh
    generalize hH2 : upd H1 p2 (.lst [.int (-1), .int (cN : Int), .int (cN + far), .int (-1 - far % (cN + 2))]) = H2 at s12 c2 sS2 ⊢
    clear hH2 n2 s2
    refine seq_step fun N hN => ?_
    simp only [a_var,a_c,a_op,a_un,a_rI,a_rI0,a_rU,a_rEq,a_rNe,s_ii,s_bb,s_ss,a_test,a_tB,a_and,a_or,a_not,a_andV,a_orV,a_notV,a_if,a_next,a_seq,a_brk,a_cont,a_drop,a_ret,a_retN,a_ifS,a_gName,a_gNil,a_gCons,a_gTup,a_gSub,a_asg,a_par,a_aug,a_ipI,a_nil,a_cons,a_tup,a_lst,a_dnew,a_call,a_cb,a_bm,a_bm0,a_noPart,a_part,a_sl,a_rSlL,a_rIxL,a_rIxT,a_rSetL,a_append,a_insert,a_rIn,a_din,a_dnotin,a_dput,a_for,a_iList,a_iTup,a_iRng1,a_iZip,a_rRep,a_rCat,cxK,List.getElem?_cons_zero,List.getElem?_cons_succ,List.set_cons_zero,List.set_cons_succ,Option.some.injEq,V.int.injEq,V.ref.injEq,V.bl.injEq,V.str.injEq,V.ty.injEq,List.cons.injEq,exists_eq_left',exists_eq_left,exists_and_left,and_assoc,and_true,true_and,List.append_nil,List.cons_append,List.nil_append,decide_eq_true_eq,decide_true,decide_false,eq_self,reduceIte,if_true,if_false,Bool.false_eq_true,Bool.not_true,Bool.not_false,Int.zero_add,reduceCtorEq,false_and,exists_false,false_or,or_false,a_slS,a_comp,a_emit,a_yes,a_iEnum,a_setd,a_sortK,a_dget1,a_dget2,a_disp,a_pairs0,a_pairs1,a_dget,a_augS,a_rGetL,a_raise,a_isE,a_countB]
    refine ⟨Nat.zero_le _, fun l3 n3 => ?_⟩
    refine hN _ _ ?_
    clear hN N
    have s3 := same_upd (o := .lst []) s12 n3
    have c3 := same_upd (o := .lst []) (Same.refl H2) n3 _ _ c2
    have m3 : H l3 = none := s12.free n3
    have ne3 : p1 ≠ l3 := ne_of_none c2 n3
    refine seq_step fun N hN => ?_
    simp only [a_var,a_c,a_op,a_un,a_rI,a_rI0,a_rU,a_rEq,a_rNe,s_ii,s_bb,s_ss,a_test,a_tB,a_and,a_or,a_not,a_andV,a_orV,a_notV,a_if,a_next,a_seq,a_brk,a_cont,a_drop,a_ret,a_retN,a_ifS,a_gName,a_gNil,a_gCons,a_gTup,a_gSub,a_asg,a_par,a_aug,a_ipI,a_nil,a_cons,a_tup,a_lst,a_dnew,a_call,a_cb,a_bm,a_bm0,a_noPart,a_part,a_sl,a_rSlL,a_rIxL,a_rIxT,a_rSetL,a_append,a_insert,a_rIn,a_din,a_dnotin,a_dput,a_for,a_iList,a_iTup,a_iRng1,a_iZip,a_rRep,a_rCat,cxK,List.getElem?_cons_zero,List.getElem?_cons_succ,List.set_cons_zero,List.set_cons_succ,Option.some.injEq,V.int.injEq,V.ref.injEq,V.bl.injEq,V.str.injEq,V.ty.injEq,List.cons.injEq,exists_eq_left',exists_eq_left,exists_and_left,and_assoc,and_true,true_and,List.append_nil,List.cons_append,List.nil_append,decide_eq_true_eq,decide_true,decide_false,eq_self,reduceIte,if_true,if_false,Bool.false_eq_true,Bool.not_true,Bool.not_false,Int.zero_add,reduceCtorEq,false_and,exists_false,false_or,or_false,a_slS,a_comp,a_emit,a_yes,a_iEnum,a_setd,a_sortK,a_dget1,a_dget2,a_disp,a_pairs0,a_pairs1,a_dget,a_augS,a_rGetL,a_raise,a_isE,a_countB]
    refine ⟨_, .inl (SqL.of c3), rng_lo, by rw [List.length_map]; exact rng_hi (by omega), ?_⟩
    refine ForOk.range (IvP8 [some (.ref a), some (.ref p1), some (.int cN), some (.int fl), some (.int sp0), some (.int dr0), some (.int kN), some (.int far), some (.int wr), some (.int wh)] l3 cs H2) ⟨_, _, _, [], [], rfl, same_upd (Same.refl H2) n3, by rw [upd_same]; rfl, .nil, rfl⟩ ?_ ?_
    · rintro i σ Hi hi ⟨v11, v12, v13, ps, rows, rfl, sH, hl, hP, hz⟩
      have hi' : i < cs.length := by rw [List.length_map] at hi; omega
      have cc : SqL K Hi p1 (cs.map V.int) := SqL.of (sH _ _ c2)
      generalize hcv : cs.getD i 0 = c
      have hat := atMapInt hi'
      rw [hcv] at hat
      simp only [List.cons_append, List.nil_append]
      simp only [a_gName, List.set_cons_zero, List.set_cons_succ, Int.zero_add]
      refine seq_step fun N hN => ?_
      simp only [a_var,a_c,a_op,a_un,a_rI,a_rI0,a_rU,a_rEq,a_rNe,s_ii,s_bb,s_ss,a_test,a_tB,a_and,a_or,a_not,a_andV,a_orV,a_notV,a_if,a_next,a_seq,a_brk,a_cont,a_drop,a_ret,a_retN,a_ifS,a_gName,a_gNil,a_gCons,a_gTup,a_gSub,a_asg,a_par,a_aug,a_ipI,a_nil,a_cons,a_tup,a_lst,a_dnew,a_call,a_cb,a_bm,a_bm0,a_noPart,a_part,a_sl,a_rSlL,a_rIxL,a_rIxT,a_rSetL,a_append,a_insert,a_rIn,a_din,a_dnotin,a_dput,a_for,a_iList,a_iTup,a_iRng1,a_iZip,a_rRep,a_rCat,cxK,List.getElem?_cons_zero,List.getElem?_cons_succ,List.set_cons_zero,List.set_cons_succ,Option.some.injEq,V.int.injEq,V.ref.injEq,V.bl.injEq,V.str.injEq,V.ty.injEq,List.cons.injEq,exists_eq_left',exists_eq_left,exists_and_left,and_assoc,and_true,true_and,List.append_nil,List.cons_append,List.nil_append,decide_eq_true_eq,decide_true,decide_false,eq_self,reduceIte,if_true,if_false,Bool.false_eq_true,Bool.not_true,Bool.not_false,Int.zero_add,reduceCtorEq,false_and,exists_false,false_or,or_false,a_slS,a_comp,a_emit,a_yes,a_iEnum,a_setd,a_sortK,a_dget1,a_dget2,a_disp,a_pairs0,a_pairs1,a_dget,a_augS,a_rGetL,a_raise,a_isE,a_countB]
      refine ⟨_, cc, _, hat, ?_⟩
      simp only [a_var,a_c,a_op,a_un,a_rI,a_rI0,a_rU,a_rEq,a_rNe,s_ii,s_bb,s_ss,a_test,a_tB,a_and,a_or,a_not,a_andV,a_orV,a_notV,a_if,a_next,a_seq,a_brk,a_cont,a_drop,a_ret,a_retN,a_ifS,a_gName,a_gNil,a_gCons,a_gTup,a_gSub,a_asg,a_par,a_aug,a_ipI,a_nil,a_cons,a_tup,a_lst,a_dnew,a_call,a_cb,a_bm,a_bm0,a_noPart,a_part,a_sl,a_rSlL,a_rIxL,a_rIxT,a_rSetL,a_append,a_insert,a_rIn,a_din,a_dnotin,a_dput,a_for,a_iList,a_iTup,a_iRng1,a_iZip,a_rRep,a_rCat,cxK,List.getElem?_cons_zero,List.getElem?_cons_succ,List.set_cons_zero,List.set_cons_succ,Option.some.injEq,V.int.injEq,V.ref.injEq,V.bl.injEq,V.str.injEq,V.ty.injEq,List.cons.injEq,exists_eq_left',exists_eq_left,exists_and_left,and_assoc,and_true,true_and,List.append_nil,List.cons_append,List.nil_append,decide_eq_true_eq,decide_true,decide_false,eq_self,reduceIte,if_true,if_false,Bool.false_eq_true,Bool.not_true,Bool.not_false,Int.zero_add,reduceCtorEq,false_and,exists_false,false_or,or_false,a_slS,a_comp,a_emit,a_yes,a_iEnum,a_setd,a_sortK,a_dget1,a_dget2,a_disp,a_pairs0,a_pairs1,a_dget,a_augS,a_rGetL,a_raise,a_isE,a_countB]
      refine ⟨by omega, ?_⟩
      refine hN _ _ ?_
      clear hN N
      refine seq_step fun N hN => ?_
      simp only [a_var,a_c,a_op,a_un,a_rI,a_rI0,a_rU,a_rEq,a_rNe,s_ii,s_bb,s_ss,a_test,a_tB,a_and,a_or,a_not,a_andV,a_orV,a_notV,a_if,a_next,a_seq,a_brk,a_cont,a_drop,a_ret,a_retN,a_ifS,a_gName,a_gNil,a_gCons,a_gTup,a_gSub,a_asg,a_par,a_aug,a_ipI,a_nil,a_cons,a_tup,a_lst,a_dnew,a_call,a_cb,a_bm,a_bm0,a_noPart,a_part,a_sl,a_rSlL,a_rIxL,a_rIxT,a_rSetL,a_append,a_insert,a_rIn,a_din,a_dnotin,a_dput,a_for,a_iList,a_iTup,a_iRng1,a_iZip,a_rRep,a_rCat,cxK,List.getElem?_cons_zero,List.getElem?_cons_succ,List.set_cons_zero,List.set_cons_succ,Option.some.injEq,V.int.injEq,V.ref.injEq,V.bl.injEq,V.str.injEq,V.ty.injEq,List.cons.injEq,exists_eq_left',exists_eq_left,exists_and_left,and_assoc,and_true,true_and,List.append_nil,List.cons_append,List.nil_append,decide_eq_true_eq,decide_true,decide_false,eq_self,reduceIte,if_true,if_false,Bool.false_eq_true,Bool.not_true,Bool.not_false,Int.zero_add,reduceCtorEq,false_and,exists_false,false_or,or_false,a_slS,a_comp,a_emit,a_yes,a_iEnum,a_setd,a_sortK,a_dget1,a_dget2,a_disp,a_pairs0,a_pairs1,a_dget,a_augS,a_rGetL,a_raise,a_isE,a_countB]
      refine ⟨_, cc, _, hat, ?_⟩
      simp only [a_var,a_c,a_op,a_un,a_rI,a_rI0,a_rU,a_rEq,a_rNe,s_ii,s_bb,s_ss,a_test,a_tB,a_and,a_or,a_not,a_andV,a_orV,a_notV,a_if,a_next,a_seq,a_brk,a_cont,a_drop,a_ret,a_retN,a_ifS,a_gName,a_gNil,a_gCons,a_gTup,a_gSub,a_asg,a_par,a_aug,a_ipI,a_nil,a_cons,a_tup,a_lst,a_dnew,a_call,a_cb,a_bm,a_bm0,a_noPart,a_part,a_sl,a_rSlL,a_rIxL,a_rIxT,a_rSetL,a_append,a_insert,a_rIn,a_din,a_dnotin,a_dput,a_for,a_iList,a_iTup,a_iRng1,a_iZip,a_rRep,a_rCat,cxK,List.getElem?_cons_zero,List.getElem?_cons_succ,List.set_cons_zero,List.set_cons_succ,Option.some.injEq,V.int.injEq,V.ref.injEq,V.bl.injEq,V.str.injEq,V.ty.injEq,List.cons.injEq,exists_eq_left',exists_eq_left,exists_and_left,and_assoc,and_true,true_and,List.append_nil,List.cons_append,List.nil_append,decide_eq_true_eq,decide_true,decide_false,eq_self,reduceIte,if_true,if_false,Bool.false_eq_true,Bool.not_true,Bool.not_false,Int.zero_add,reduceCtorEq,false_and,exists_false,false_or,or_false,a_slS,a_comp,a_emit,a_yes,a_iEnum,a_setd,a_sortK,a_dget1,a_dget2,a_disp,a_pairs0,a_pairs1,a_dget,a_augS,a_rGetL,a_raise,a_isE,a_countB]
      refine ⟨⟨by decide, by decide⟩, .inl ⟨by decide, by decide⟩, by omega, ?_⟩
      refine hN _ _ ?_
      clear hN N
      generalize (c + (i : Int)) % (cN : Int) = sv
      generalize (c / 5 + 2 * (i : Int)) % (cN : Int) = gv
      simp only [a_var,a_c,a_op,a_un,a_rI,a_rI0,a_rU,a_rEq,a_rNe,s_ii,s_bb,s_ss,a_test,a_tB,a_and,a_or,a_not,a_andV,a_orV,a_notV,a_if,a_next,a_seq,a_brk,a_cont,a_drop,a_ret,a_retN,a_ifS,a_gName,a_gNil,a_gCons,a_gTup,a_gSub,a_asg,a_par,a_aug,a_ipI,a_nil,a_cons,a_tup,a_lst,a_dnew,a_call,a_cb,a_bm,a_bm0,a_noPart,a_part,a_sl,a_rSlL,a_rIxL,a_rIxT,a_rSetL,a_append,a_insert,a_rIn,a_din,a_dnotin,a_dput,a_for,a_iList,a_iTup,a_iRng1,a_iZip,a_rRep,a_rCat,cxK,List.getElem?_cons_zero,List.getElem?_cons_succ,List.set_cons_zero,List.set_cons_succ,Option.some.injEq,V.int.injEq,V.ref.injEq,V.bl.injEq,V.str.injEq,V.ty.injEq,List.cons.injEq,exists_eq_left',exists_eq_left,exists_and_left,and_assoc,and_true,true_and,List.append_nil,List.cons_append,List.nil_append,decide_eq_true_eq,decide_true,decide_false,eq_self,reduceIte,if_true,if_false,Bool.false_eq_true,Bool.not_true,Bool.not_false,Int.zero_add,reduceCtorEq,false_and,exists_false,false_or,or_false,a_slS,a_comp,a_emit,a_yes,a_iEnum,a_setd,a_sortK,a_dget1,a_dget2,a_disp,a_pairs0,a_pairs1,a_dget,a_augS,a_rGetL,a_raise,a_isE,a_countB]
      refine ⟨.inl ⟨rfl, _, SqL.of hl⟩, _, cc, _, hat, ?_⟩
      simp only [a_var,a_c,a_op,a_un,a_rI,a_rI0,a_rU,a_rEq,a_rNe,s_ii,s_bb,s_ss,a_test,a_tB,a_and,a_or,a_not,a_andV,a_orV,a_notV,a_if,a_next,a_seq,a_brk,a_cont,a_drop,a_ret,a_retN,a_ifS,a_gName,a_gNil,a_gCons,a_gTup,a_gSub,a_asg,a_par,a_aug,a_ipI,a_nil,a_cons,a_tup,a_lst,a_dnew,a_call,a_cb,a_bm,a_bm0,a_noPart,a_part,a_sl,a_rSlL,a_rIxL,a_rIxT,a_rSetL,a_append,a_insert,a_rIn,a_din,a_dnotin,a_dput,a_for,a_iList,a_iTup,a_iRng1,a_iZip,a_rRep,a_rCat,cxK,List.getElem?_cons_zero,List.getElem?_cons_succ,List.set_cons_zero,List.set_cons_succ,Option.some.injEq,V.int.injEq,V.ref.injEq,V.bl.injEq,V.str.injEq,V.ty.injEq,List.cons.injEq,exists_eq_left',exists_eq_left,exists_and_left,and_assoc,and_true,true_and,List.append_nil,List.cons_append,List.nil_append,decide_eq_true_eq,decide_true,decide_false,eq_self,reduceIte,if_true,if_false,Bool.false_eq_true,Bool.not_true,Bool.not_false,Int.zero_add,reduceCtorEq,false_and,exists_false,false_or,or_false,a_slS,a_comp,a_emit,a_yes,a_iEnum,a_setd,a_sortK,a_dget1,a_dget2,a_disp,a_pairs0,a_pairs1,a_dget,a_augS,a_rGetL,a_raise,a_isE,a_countB]
      refine ⟨by decide, (show 3 ≤ sizeLine by decide), fun q nq => ?_⟩
      have sI := same_upd (o := .tup [.int sv, .int gv, .int (c % 6)]) (Same.refl Hi) nq
      refine ⟨_, sI _ _ hl, by rw [List.length_map]; exact smallM (by omega), ?_⟩
      obtain ⟨g1, g2⟩ := push_row (r := (sv, gv, c % 6)) hl hP nq
      exact ⟨_, _, _, ps ++ [q], rows ++ [(sv, gv, c % 6)], rfl, same_upd' (same_upd sH nq) n3, g2, g1, by rw [List.length_append, hz]; rfl⟩
    rintro σ Hi ⟨v11, v12, v13, ps, rows, rfl, sH, hl, hP, hz⟩
    have hz : ps.length ≤ 63 := by rw [hz, List.length_map]; omega
    have sA := s12.trans sH
    clear sH c3 s3 n3 m3 ne3
    simp only [List.cons_append, List.nil_append]
    refine hN _ _ ?_
    clear hN N
    refine seq_step fun N hN => ?_
    simp only [a_var,a_c,a_op,a_un,a_rI,a_rI0,a_rU,a_rEq,a_rNe,s_ii,s_bb,s_ss,a_test,a_tB,a_and,a_or,a_not,a_andV,a_orV,a_notV,a_if,a_next,a_seq,a_brk,a_cont,a_drop,a_ret,a_retN,a_ifS,a_gName,a_gNil,a_gCons,a_gTup,a_gSub,a_asg,a_par,a_aug,a_ipI,a_nil,a_cons,a_tup,a_lst,a_dnew,a_call,a_cb,a_bm,a_bm0,a_noPart,a_part,a_sl,a_rSlL,a_rIxL,a_rIxT,a_rSetL,a_append,a_insert,a_rIn,a_din,a_dnotin,a_dput,a_for,a_iList,a_iTup,a_iRng1,a_iZip,a_rRep,a_rCat,cxK,List.getElem?_cons_zero,List.getElem?_cons_succ,List.set_cons_zero,List.set_cons_succ,Option.some.injEq,V.int.injEq,V.ref.injEq,V.bl.injEq,V.str.injEq,V.ty.injEq,List.cons.injEq,exists_eq_left',exists_eq_left,exists_and_left,and_assoc,and_true,true_and,List.append_nil,List.cons_append,List.nil_append,decide_eq_true_eq,decide_true,decide_false,eq_self,reduceIte,if_true,if_false,Bool.false_eq_true,Bool.not_true,Bool.not_false,Int.zero_add,reduceCtorEq,false_and,exists_false,false_or,or_false,a_slS,a_comp,a_emit,a_yes,a_iEnum,a_setd,a_sortK,a_dget1,a_dget2,a_disp,a_pairs0,a_pairs1,a_dget,a_augS,a_rGetL,a_raise,a_isE,a_countB]
    suffices key : ∀ t : Int, N [some (.ref a), some (.ref p1), some (.int cN), some (.int fl), some (.int sp0), some (.int t), some (.int kN), some (.int far), some (.int wr), some (.int wh), some (.ref l3), v11, v12, v13, none, none, none] Hi by
      refine ⟨⟨by decide, by decide⟩, by decide, ite2 (fun _ => key _) (fun _ => key _)⟩
    intro dr1
    refine hN _ _ ?_
    clear hN N
    refine seq_step fun N hN => ?_
    suffices key : ∀ (v14 : Option V) (l : Addr) (ps : List Addr) (rows : List Pipe) (H' : Hp), H' l = some (.lst (ps.map V.ref)) → Paired (PRow H') ps rows → ps.length ≤ 64 → Same H H' → N [some (.ref a), some (.ref p1), some (.int cN), some (.int fl), some (.int sp0), some (.int dr1), some (.int kN), some (.int far), some (.int wr), some (.int wh), some (.ref l), v11, v12, v13, v14, none, none] H' by
      simp only [a_ifS, a_test, a_op, a_rI, a_rEq, a_var, a_c, s_ii, cxK, List.getElem?_cons_zero, List.getElem?_cons_succ, Option.some.injEq, V.int.injEq, V.bl.injEq, exists_eq_left', exists_eq_left, exists_and_left, and_assoc, true_and, decide_eq_true_eq, a_next]
      refine ⟨⟨by decide, by decide⟩, by decide, ite2 (fun _ => ?_) (fun _ => key _ l3 ps rows Hi hl hP (by omega) sA)⟩
      refine seq_step fun N1 hN1 => ?_
      simp only [a_var,a_c,a_op,a_un,a_rI,a_rI0,a_rU,a_rEq,a_rNe,s_ii,s_bb,s_ss,a_test,a_tB,a_and,a_or,a_not,a_andV,a_orV,a_notV,a_if,a_next,a_seq,a_brk,a_cont,a_drop,a_ret,a_retN,a_ifS,a_gName,a_gNil,a_gCons,a_gTup,a_gSub,a_asg,a_par,a_aug,a_ipI,a_nil,a_cons,a_tup,a_lst,a_dnew,a_call,a_cb,a_bm,a_bm0,a_noPart,a_part,a_sl,a_rSlL,a_rIxL,a_rIxT,a_rSetL,a_append,a_insert,a_rIn,a_din,a_dnotin,a_dput,a_for,a_iList,a_iTup,a_iRng1,a_iZip,a_rRep,a_rCat,cxK,List.getElem?_cons_zero,List.getElem?_cons_succ,List.set_cons_zero,List.set_cons_succ,Option.some.injEq,V.int.injEq,V.ref.injEq,V.bl.injEq,V.str.injEq,V.ty.injEq,List.cons.injEq,exists_eq_left',exists_eq_left,exists_and_left,and_assoc,and_true,true_and,List.append_nil,List.cons_append,List.nil_append,decide_eq_true_eq,decide_true,decide_false,eq_self,reduceIte,if_true,if_false,Bool.false_eq_true,Bool.not_true,Bool.not_false,Int.zero_add,reduceCtorEq,false_and,exists_false,false_or,or_false,a_slS,a_comp,a_emit,a_yes,a_iEnum,a_setd,a_sortK,a_dget1,a_dget2,a_disp,a_pairs0,a_pairs1,a_dget,a_augS,a_rGetL,a_raise,a_isE,a_countB]
      refine ⟨⟨by decide, by decide, by decide⟩, by decide, (show 2 ≤ sizeLine by decide), fun p4 n4 => ?_⟩
      have s4 := same_upd (o := .lst [.int (-1), .int (-1 - fl % 10 ^ (40 : Int).toNat)]) (Same.refl Hi) n4
      refine ⟨⟨by decide, by decide⟩, by decide, _, SqL.of upd_same, _, at_ints [-1, -1 - fl % 10 ^ (40 : Int).toNat] (Int.emod_nonneg _ (by decide)) (Int.emod_lt_of_pos _ (by decide)), ?_⟩
      refine hN1 _ _ ?_
      clear hN1 N1
      generalize ([-1, -1 - fl % 10 ^ (40 : Int).toNat] : List Int).getD (fl / 8 % 2).toNat 0 = nw
      have hl := s4 _ _ hl
      have hP := rows_same s4 hP
      simp only [a_asg, a_gName, cxK, List.set_cons_zero, List.set_cons_succ]
      refine ins_ok (x := 0) (y := 1) (z := nw) rfl rfl hl hP (by omega) (fun H' Q q => q) (fun H' Q q => q) (fun H' Q q => ⟨_, rfl, q⟩) fun l' ps' rows' H' hl' hP' hz' s' => ?_
      exact key _ l' ps' rows' H' hl' hP' (by omega) (sA.trans (s4.trans s'))
    clear hl hP hz sA
    intro v14 l4 ps rows Hi hl hP hz sA
    refine hN _ _ ?_
    clear hN N
    refine seq_step fun N hN => ?_
    suffices key : ∀ (s t : Int) (l : Addr) (ps : List Addr) (rows : List Pipe) (H' : Hp), H' l = some (.lst (ps.map V.ref)) → Paired (PRow H') ps rows → ps.length ≤ 65 → Same H H' → N [some (.ref a), some (.ref p1), some (.int cN), some (.int fl), some (.int s), some (.int t), some (.int kN), some (.int far), some (.int wr), some (.int wh), some (.ref l), v11, v12, v13, v14, none, none] H' by
      simp only [a_ifS, a_test, a_op, a_rI, a_rEq, a_var, a_c, s_ii, cxK, List.getElem?_cons_zero, List.getElem?_cons_succ, Option.some.injEq, V.int.injEq, V.bl.injEq, exists_eq_left', exists_eq_left, exists_and_left, and_assoc, true_and, decide_eq_true_eq, a_next]
      refine ⟨by decide, ite2 (fun _ => ?_) (fun _ => key sp0 dr1 l4 ps rows Hi hl hP (by omega) sA)⟩
      refine ite2 (fun _ => ?_) (fun _ => ite2 (fun _ => ?_) (fun _ => ite2 (fun _ => ?_) (fun _ => ?_)))
      · simp only [a_var,a_c,a_op,a_un,a_rI,a_rI0,a_rU,a_rEq,a_rNe,s_ii,s_bb,s_ss,a_test,a_tB,a_and,a_or,a_not,a_andV,a_orV,a_notV,a_if,a_next,a_seq,a_brk,a_cont,a_drop,a_ret,a_retN,a_ifS,a_gName,a_gNil,a_gCons,a_gTup,a_gSub,a_asg,a_par,a_aug,a_ipI,a_nil,a_cons,a_tup,a_lst,a_dnew,a_call,a_cb,a_bm,a_bm0,a_noPart,a_part,a_sl,a_rSlL,a_rIxL,a_rIxT,a_rSetL,a_append,a_insert,a_rIn,a_din,a_dnotin,a_dput,a_for,a_iList,a_iTup,a_iRng1,a_iZip,a_rRep,a_rCat,cxK,List.getElem?_cons_zero,List.getElem?_cons_succ,List.set_cons_zero,List.set_cons_succ,Option.some.injEq,V.int.injEq,V.ref.injEq,V.bl.injEq,V.str.injEq,V.ty.injEq,List.cons.injEq,exists_eq_left',exists_eq_left,exists_and_left,and_assoc,and_true,true_and,List.append_nil,List.cons_append,List.nil_append,decide_eq_true_eq,decide_true,decide_false,eq_self,reduceIte,if_true,if_false,Bool.false_eq_true,Bool.not_true,Bool.not_false,Int.zero_add,reduceCtorEq,false_and,exists_false,false_or,or_false,a_slS,a_comp,a_emit,a_yes,a_iEnum,a_setd,a_sortK,a_dget1,a_dget2,a_disp,a_pairs0,a_pairs1,a_dget,a_augS,a_rGetL,a_raise,a_isE,a_countB]
        exact key _ _ l4 ps rows Hi hl hP (by omega) sA
      · simp only [a_var,a_c,a_op,a_un,a_rI,a_rI0,a_rU,a_rEq,a_rNe,s_ii,s_bb,s_ss,a_test,a_tB,a_and,a_or,a_not,a_andV,a_orV,a_notV,a_if,a_next,a_seq,a_brk,a_cont,a_drop,a_ret,a_retN,a_ifS,a_gName,a_gNil,a_gCons,a_gTup,a_gSub,a_asg,a_par,a_aug,a_ipI,a_nil,a_cons,a_tup,a_lst,a_dnew,a_call,a_cb,a_bm,a_bm0,a_noPart,a_part,a_sl,a_rSlL,a_rIxL,a_rIxT,a_rSetL,a_append,a_insert,a_rIn,a_din,a_dnotin,a_dput,a_for,a_iList,a_iTup,a_iRng1,a_iZip,a_rRep,a_rCat,cxK,List.getElem?_cons_zero,List.getElem?_cons_succ,List.set_cons_zero,List.set_cons_succ,Option.some.injEq,V.int.injEq,V.ref.injEq,V.bl.injEq,V.str.injEq,V.ty.injEq,List.cons.injEq,exists_eq_left',exists_eq_left,exists_and_left,and_assoc,and_true,true_and,List.append_nil,List.cons_append,List.nil_append,decide_eq_true_eq,decide_true,decide_false,eq_self,reduceIte,if_true,if_false,Bool.false_eq_true,Bool.not_true,Bool.not_false,Int.zero_add,reduceCtorEq,false_and,exists_false,false_or,or_false,a_slS,a_comp,a_emit,a_yes,a_iEnum,a_setd,a_sortK,a_dget1,a_dget2,a_disp,a_pairs0,a_pairs1,a_dget,a_augS,a_rGetL,a_raise,a_isE,a_countB]
        exact key _ _ l4 ps rows Hi hl hP (by omega) sA
      · simp only [a_asg, a_gName, cxK, List.set_cons_zero, List.set_cons_succ]
        refine ins_ok (x := wr) (y := 0) (z := 1) rfl rfl hl hP (by omega) (fun H' Q q => ⟨_, rfl, q⟩) (fun H' Q q => q) (fun H' Q q => q) fun l' ps' rows' H' hl' hP' hz' s' => ?_
        exact key _ _ l' ps' rows' H' hl' hP' (by omega) (sA.trans s')
      · simp only [a_asg, a_gName, cxK, List.set_cons_zero, List.set_cons_succ]
        refine ins_ok (x := 1) (y := wr) (z := 1) rfl rfl hl hP (by omega) (fun H' Q q => q) (fun H' Q q => ⟨_, rfl, q⟩) (fun H' Q q => q) fun l' ps' rows' H' hl' hP' hz' s' => ?_
        exact key _ _ l' ps' rows' H' hl' hP' (by omega) (sA.trans s')
    clear hl hP hz sA
    intro s t l5 ps rows Hi hl hP hz sA
    refine hN _ _ ?_
    clear hN N
    refine seq_step fun N hN => ?_
    simp only [a_var,a_c,a_op,a_un,a_rI,a_rI0,a_rU,a_rEq,a_rNe,s_ii,s_bb,s_ss,a_test,a_tB,a_and,a_or,a_not,a_andV,a_orV,a_notV,a_if,a_next,a_seq,a_brk,a_cont,a_drop,a_ret,a_retN,a_ifS,a_gName,a_gNil,a_gCons,a_gTup,a_gSub,a_asg,a_par,a_aug,a_ipI,a_nil,a_cons,a_tup,a_lst,a_dnew,a_call,a_cb,a_bm,a_bm0,a_noPart,a_part,a_sl,a_rSlL,a_rIxL,a_rIxT,a_rSetL,a_append,a_insert,a_rIn,a_din,a_dnotin,a_dput,a_for,a_iList,a_iTup,a_iRng1,a_iZip,a_rRep,a_rCat,cxK,List.getElem?_cons_zero,List.getElem?_cons_succ,List.set_cons_zero,List.set_cons_succ,Option.some.injEq,V.int.injEq,V.ref.injEq,V.bl.injEq,V.str.injEq,V.ty.injEq,List.cons.injEq,exists_eq_left',exists_eq_left,exists_and_left,and_assoc,and_true,true_and,List.append_nil,List.cons_append,List.nil_append,decide_eq_true_eq,decide_true,decide_false,eq_self,reduceIte,if_true,if_false,Bool.false_eq_true,Bool.not_true,Bool.not_false,Int.zero_add,reduceCtorEq,false_and,exists_false,false_or,or_false,a_slS,a_comp,a_emit,a_yes,a_iEnum,a_setd,a_sortK,a_dget1,a_dget2,a_disp,a_pairs0,a_pairs1,a_dget,a_augS,a_rGetL,a_raise,a_isE,a_countB]
    refine ⟨_, .inl (SqL.of hl), fun l6 n6 => ?_⟩
    refine hN _ _ ?_
    clear hN N
    have s6 := same_upd (o := .lst (ps.map V.ref)) (Same.refl Hi) n6
    refine seq_step fun N hN => ?_
    simp only [a_var,a_c,a_op,a_un,a_rI,a_rI0,a_rU,a_rEq,a_rNe,s_ii,s_bb,s_ss,a_test,a_tB,a_and,a_or,a_not,a_andV,a_orV,a_notV,a_if,a_next,a_seq,a_brk,a_cont,a_drop,a_ret,a_retN,a_ifS,a_gName,a_gNil,a_gCons,a_gTup,a_gSub,a_asg,a_par,a_aug,a_ipI,a_nil,a_cons,a_tup,a_lst,a_dnew,a_call,a_cb,a_bm,a_bm0,a_noPart,a_part,a_sl,a_rSlL,a_rIxL,a_rIxT,a_rSetL,a_append,a_insert,a_rIn,a_din,a_dnotin,a_dput,a_for,a_iList,a_iTup,a_iRng1,a_iZip,a_rRep,a_rCat,cxK,List.getElem?_cons_zero,List.getElem?_cons_succ,List.set_cons_zero,List.set_cons_succ,Option.some.injEq,V.int.injEq,V.ref.injEq,V.bl.injEq,V.str.injEq,V.ty.injEq,List.cons.injEq,exists_eq_left',exists_eq_left,exists_and_left,and_assoc,and_true,true_and,List.append_nil,List.cons_append,List.nil_append,decide_eq_true_eq,decide_true,decide_false,eq_self,reduceIte,if_true,if_false,Bool.false_eq_true,Bool.not_true,Bool.not_false,Int.zero_add,reduceCtorEq,false_and,exists_false,false_or,or_false,a_slS,a_comp,a_emit,a_yes,a_iEnum,a_setd,a_sortK,a_dget1,a_dget2,a_disp,a_pairs0,a_pairs1,a_dget,a_augS,a_rGetL,a_raise,a_isE,a_countB]
    refine ⟨l5, ps, rows, (cN : Int), s, t, rfl, SqL.of (s6 _ _ hl), rows_same s6 hP, by omega, fun w1 H7 hv1 s7 => ?_⟩
    refine hN _ _ ?_
    clear hN N
    have g6 := s7 _ _ (upd_same (H := Hi) (a := l6) (o := .lst (ps.map V.ref)))
    have s67 := s6.trans s7
    simp only [a_var,a_c,a_op,a_un,a_rI,a_rI0,a_rU,a_rEq,a_rNe,s_ii,s_bb,s_ss,a_test,a_tB,a_and,a_or,a_not,a_andV,a_orV,a_notV,a_if,a_next,a_seq,a_brk,a_cont,a_drop,a_ret,a_retN,a_ifS,a_gName,a_gNil,a_gCons,a_gTup,a_gSub,a_asg,a_par,a_aug,a_ipI,a_nil,a_cons,a_tup,a_lst,a_dnew,a_call,a_cb,a_bm,a_bm0,a_noPart,a_part,a_sl,a_rSlL,a_rIxL,a_rIxT,a_rSetL,a_append,a_insert,a_rIn,a_din,a_dnotin,a_dput,a_for,a_iList,a_iTup,a_iRng1,a_iZip,a_rRep,a_rCat,cxK,List.getElem?_cons_zero,List.getElem?_cons_succ,List.set_cons_zero,List.set_cons_succ,Option.some.injEq,V.int.injEq,V.ref.injEq,V.bl.injEq,V.str.injEq,V.ty.injEq,List.cons.injEq,exists_eq_left',exists_eq_left,exists_and_left,and_assoc,and_true,true_and,List.append_nil,List.cons_append,List.nil_append,decide_eq_true_eq,decide_true,decide_false,eq_self,reduceIte,if_true,if_false,Bool.false_eq_true,Bool.not_true,Bool.not_false,Int.zero_add,reduceCtorEq,false_and,exists_false,false_or,or_false,a_slS,a_comp,a_emit,a_yes,a_iEnum,a_setd,a_sortK,a_dget1,a_dget2,a_disp,a_pairs0,a_pairs1,a_dget,a_augS,a_rGetL,a_raise,a_isE,a_countB]
    refine ⟨l6, ps, rows, cN, s, t, rfl, SqL.of g6, rows_same s67 hP, by omega, by omega, fun w2 H8 hv2 s8 => ?_⟩
    try simp only [a_var,a_c,a_op,a_un,a_rI,a_rI0,a_rU,a_rEq,a_rNe,s_ii,s_bb,s_ss,a_test,a_tB,a_and,a_or,a_not,a_andV,a_orV,a_notV,a_if,a_next,a_seq,a_brk,a_cont,a_drop,a_ret,a_retN,a_ifS,a_gName,a_gNil,a_gCons,a_gTup,a_gSub,a_asg,a_par,a_aug,a_ipI,a_nil,a_cons,a_tup,a_lst,a_dnew,a_call,a_cb,a_bm,a_bm0,a_noPart,a_part,a_sl,a_rSlL,a_rIxL,a_rIxT,a_rSetL,a_append,a_insert,a_rIn,a_din,a_dnotin,a_dput,a_for,a_iList,a_iTup,a_iRng1,a_iZip,a_rRep,a_rCat,cxK,List.getElem?_cons_zero,List.getElem?_cons_succ,List.set_cons_zero,List.set_cons_succ,Option.some.injEq,V.int.injEq,V.ref.injEq,V.bl.injEq,V.str.injEq,V.ty.injEq,List.cons.injEq,exists_eq_left',exists_eq_left,exists_and_left,and_assoc,and_true,true_and,List.append_nil,List.cons_append,List.nil_append,decide_eq_true_eq,decide_true,decide_false,eq_self,reduceIte,if_true,if_false,Bool.false_eq_true,Bool.not_true,Bool.not_false,Int.zero_add,reduceCtorEq,false_and,exists_false,false_or,or_false,a_slS,a_comp,a_emit,a_yes,a_iEnum,a_setd,a_sortK,a_dget1,a_dget2,a_disp,a_pairs0,a_pairs1,a_dget,a_augS,a_rGetL,a_raise,a_isE,a_countB]
    rw [verd_one hv2 hv1]
    try simp only [a_var,a_c,a_op,a_un,a_rI,a_rI0,a_rU,a_rEq,a_rNe,s_ii,s_bb,s_ss,a_test,a_tB,a_and,a_or,a_not,a_andV,a_orV,a_notV,a_if,a_next,a_seq,a_brk,a_cont,a_drop,a_ret,a_retN,a_ifS,a_gName,a_gNil,a_gCons,a_gTup,a_gSub,a_asg,a_par,a_aug,a_ipI,a_nil,a_cons,a_tup,a_lst,a_dnew,a_call,a_cb,a_bm,a_bm0,a_noPart,a_part,a_sl,a_rSlL,a_rIxL,a_rIxT,a_rSetL,a_append,a_insert,a_rIn,a_din,a_dnotin,a_dput,a_for,a_iList,a_iTup,a_iRng1,a_iZip,a_rRep,a_rCat,cxK,List.getElem?_cons_zero,List.getElem?_cons_succ,List.set_cons_zero,List.set_cons_succ,Option.some.injEq,V.int.injEq,V.ref.injEq,V.bl.injEq,V.str.injEq,V.ty.injEq,List.cons.injEq,exists_eq_left',exists_eq_left,exists_and_left,and_assoc,and_true,true_and,List.append_nil,List.cons_append,List.nil_append,decide_eq_true_eq,decide_true,decide_false,eq_self,reduceIte,if_true,if_false,Bool.false_eq_true,Bool.not_true,Bool.not_false,Int.zero_add,reduceCtorEq,false_and,exists_false,false_or,or_false,a_slS,a_comp,a_emit,a_yes,a_iEnum,a_setd,a_sortK,a_dget1,a_dget2,a_disp,a_pairs0,a_pairs1,a_dget,a_augS,a_rGetL,a_raise,a_isE,a_countB]
    exact ⟨l6, l5, ps, rows, rfl, s8 _ _ g6, (s67.trans s8) _ _ hl, by omega, rows_same (s67.trans s8) hP, k _⟩
end
theorem all_mk {l : PySem.W.OpenLaw} {w : World} {K : PySem.W.Frag} {h : Heap} {mg : Str → Option Value} {fa : Addr} (X : K.In h) (G : h.Ns mainGlobals mg) (hfa : mg "law" = some (.ref fa))
    {f_room : Addr} {od_room an_room : Option Addr} {sl_room : Array (Option Value)} {oc_room kV_room dc_room pm_room cd_room ct_room : Value} {f_whole : Addr} {od_whole an_whole : Option Addr} {sl_whole : Array (Option Value)} {oc_whole kV_whole dc_whole pm_whole cd_whole ct_whole : Value} {f_at : Addr} {od_at an_at : Option Addr} {sl_at : Array (Option Value)} {oc_at kV_at dc_at pm_at cd_at ct_at : Value} {f_rows : Addr} {od_rows an_rows : Option Addr} {sl_rows : Array (Option Value)} {oc_rows kV_rows dc_rows pm_rows cd_rows ct_rows : Value} {f_steps_by_station : Addr} {od_steps_by_station an_steps_by_station : Option Addr} {sl_steps_by_station : Array (Option Value)} {oc_steps_by_station kV_steps_by_station dc_steps_by_station pm_steps_by_station cd_steps_by_station ct_steps_by_station : Value} {f_roads_from : Addr} {od_roads_from an_roads_from : Option Addr} {sl_roads_from : Array (Option Value)} {oc_roads_from kV_roads_from dc_roads_from pm_roads_from cd_roads_from ct_roads_from : Value} {f_reached_from : Addr} {od_reached_from an_reached_from : Option Addr} {sl_reached_from : Array (Option Value)} {oc_reached_from kV_reached_from dc_reached_from pm_reached_from cd_reached_from ct_reached_from : Value} {f_road_to : Addr} {od_road_to an_road_to : Option Addr} {sl_road_to : Array (Option Value)} {oc_road_to kV_road_to dc_road_to pm_road_to cd_road_to ct_road_to : Value} {f_sent_along : Addr} {od_sent_along an_sent_along : Option Addr} {sl_sent_along : Array (Option Value)} {oc_sent_along kV_sent_along dc_sent_along pm_sent_along cd_sent_along ct_sent_along : Value} {f_room_along : Addr} {od_room_along an_room_along : Option Addr} {sl_room_along : Array (Option Value)} {oc_room_along kV_room_along dc_room_along pm_room_along cd_room_along ct_room_along : Value} {f_greatest_plan : Addr} {od_greatest_plan an_greatest_plan : Option Addr} {sl_greatest_plan : Array (Option Value)} {oc_greatest_plan kV_greatest_plan dc_greatest_plan pm_greatest_plan cd_greatest_plan ct_greatest_plan : Value} {f_refuse_no_station : Addr} {od_refuse_no_station an_refuse_no_station : Option Addr} {sl_refuse_no_station : Array (Option Value)} {oc_refuse_no_station kV_refuse_no_station dc_refuse_no_station pm_refuse_no_station cd_refuse_no_station ct_refuse_no_station : Value} {f_refuse_no_width : Addr} {od_refuse_no_width an_refuse_no_width : Option Addr} {sl_refuse_no_width : Array (Option Value)} {oc_refuse_no_width kV_refuse_no_width dc_refuse_no_width pm_refuse_no_width cd_refuse_no_width ct_refuse_no_width : Value} {f_refuse_one_station : Addr} {od_refuse_one_station an_refuse_one_station : Option Addr} {sl_refuse_one_station : Array (Option Value)} {oc_refuse_one_station kV_refuse_one_station dc_refuse_one_station pm_refuse_one_station cd_refuse_one_station ct_refuse_one_station : Value} {f_best_flow : Addr} {od_best_flow an_best_flow : Option Addr} {sl_best_flow : Array (Option Value)} {oc_best_flow kV_best_flow dc_best_flow pm_best_flow cd_best_flow ct_best_flow : Value} {f_said : Addr} {od_said an_said : Option Addr} {sl_said : Array (Option Value)} {oc_said kV_said dc_said pm_said cd_said ct_said : Value} {f_judged : Addr} {od_judged an_judged : Option Addr} {sl_judged : Array (Option Value)} {oc_judged kV_judged dc_judged pm_judged cd_judged ct_judged : Value} {f_law : Addr} {od_law an_law : Option Addr} {sl_law : Array (Option Value)} {oc_law kV_law dc_law pm_law cd_law ct_law : Value} {t_AGAINST : Tok} {t_ALONG : Tok} {t_GOAL : Tok} {t_START : Tok} {t_WIDTH : Tok} {cF cN cW c1 : Addr}
    (a_room : PySem.W.nsIn K mainGlobals "_law_room" = some (some (.ref f_room))) (l_room : K.lookup f_room = some ⟨oc_room, od_room, .func (PySem.W.fnOf "_law_room" "_law_room" (defArgs s_room) (defBody s_room) (defScope s_room) .none kV_room dc_room pm_room an_room cd_room ct_room), sl_room⟩) (c_room : PySem.W.codeIn K cd_room "_law_room" = true) (k_room : PySem.W.keepIn K (.ref f_room) = true)
    (a_whole : PySem.W.nsIn K mainGlobals "_law_whole" = some (some (.ref f_whole))) (l_whole : K.lookup f_whole = some ⟨oc_whole, od_whole, .func (PySem.W.fnOf "_law_whole" "_law_whole" (defArgs s_whole) (defBody s_whole) (defScope s_whole) .none kV_whole dc_whole pm_whole an_whole cd_whole ct_whole), sl_whole⟩) (c_whole : PySem.W.codeIn K cd_whole "_law_whole" = true) (k_whole : PySem.W.keepIn K (.ref f_whole) = true)
    (a_at : PySem.W.nsIn K mainGlobals "_law_at" = some (some (.ref f_at))) (l_at : K.lookup f_at = some ⟨oc_at, od_at, .func (PySem.W.fnOf "_law_at" "_law_at" (defArgs s_at) (defBody s_at) (defScope s_at) .none kV_at dc_at pm_at an_at cd_at ct_at), sl_at⟩) (c_at : PySem.W.codeIn K cd_at "_law_at" = true) (k_at : PySem.W.keepIn K (.ref f_at) = true)
    (a_rows : PySem.W.nsIn K mainGlobals "_law_rows" = some (some (.ref f_rows))) (l_rows : K.lookup f_rows = some ⟨oc_rows, od_rows, .func (PySem.W.fnOf "_law_rows" "_law_rows" (defArgs s_rows) (defBody s_rows) (defScope s_rows) .none kV_rows dc_rows pm_rows an_rows cd_rows ct_rows), sl_rows⟩) (c_rows : PySem.W.codeIn K cd_rows "_law_rows" = true) (k_rows : PySem.W.keepIn K (.ref f_rows) = true)
    (a_steps_by_station : PySem.W.nsIn K mainGlobals "steps_by_station" = some (some (.ref f_steps_by_station))) (l_steps_by_station : K.lookup f_steps_by_station = some ⟨oc_steps_by_station, od_steps_by_station, .func (PySem.W.fnOf "steps_by_station" "steps_by_station" (defArgs s_steps_by_station) (defBody s_steps_by_station) (defScope s_steps_by_station) .none kV_steps_by_station dc_steps_by_station pm_steps_by_station an_steps_by_station cd_steps_by_station ct_steps_by_station), sl_steps_by_station⟩) (c_steps_by_station : PySem.W.codeIn K cd_steps_by_station "steps_by_station" = true) (k_steps_by_station : PySem.W.keepIn K (.ref f_steps_by_station) = true)
    (a_roads_from : PySem.W.nsIn K mainGlobals "roads_from" = some (some (.ref f_roads_from))) (l_roads_from : K.lookup f_roads_from = some ⟨oc_roads_from, od_roads_from, .func (PySem.W.fnOf "roads_from" "roads_from" (defArgs s_roads_from) (defBody s_roads_from) (defScope s_roads_from) .none kV_roads_from dc_roads_from pm_roads_from an_roads_from cd_roads_from ct_roads_from), sl_roads_from⟩) (c_roads_from : PySem.W.codeIn K cd_roads_from "roads_from" = true) (k_roads_from : PySem.W.keepIn K (.ref f_roads_from) = true)
    (a_reached_from : PySem.W.nsIn K mainGlobals "reached_from" = some (some (.ref f_reached_from))) (l_reached_from : K.lookup f_reached_from = some ⟨oc_reached_from, od_reached_from, .func (PySem.W.fnOf "reached_from" "reached_from" (defArgs s_reached_from) (defBody s_reached_from) (defScope s_reached_from) .none kV_reached_from dc_reached_from pm_reached_from an_reached_from cd_reached_from ct_reached_from), sl_reached_from⟩) (c_reached_from : PySem.W.codeIn K cd_reached_from "reached_from" = true) (k_reached_from : PySem.W.keepIn K (.ref f_reached_from) = true)
    (a_road_to : PySem.W.nsIn K mainGlobals "road_to" = some (some (.ref f_road_to))) (l_road_to : K.lookup f_road_to = some ⟨oc_road_to, od_road_to, .func (PySem.W.fnOf "road_to" "road_to" (defArgs s_road_to) (defBody s_road_to) (defScope s_road_to) .none kV_road_to dc_road_to pm_road_to an_road_to cd_road_to ct_road_to), sl_road_to⟩) (c_road_to : PySem.W.codeIn K cd_road_to "road_to" = true) (k_road_to : PySem.W.keepIn K (.ref f_road_to) = true)
    (a_sent_along : PySem.W.nsIn K mainGlobals "sent_along" = some (some (.ref f_sent_along))) (l_sent_along : K.lookup f_sent_along = some ⟨oc_sent_along, od_sent_along, .func (PySem.W.fnOf "sent_along" "sent_along" (defArgs s_sent_along) (defBody s_sent_along) (defScope s_sent_along) .none kV_sent_along dc_sent_along pm_sent_along an_sent_along cd_sent_along ct_sent_along), sl_sent_along⟩) (c_sent_along : PySem.W.codeIn K cd_sent_along "sent_along" = true) (k_sent_along : PySem.W.keepIn K (.ref f_sent_along) = true)
    (a_room_along : PySem.W.nsIn K mainGlobals "room_along" = some (some (.ref f_room_along))) (l_room_along : K.lookup f_room_along = some ⟨oc_room_along, od_room_along, .func (PySem.W.fnOf "room_along" "room_along" (defArgs s_room_along) (defBody s_room_along) (defScope s_room_along) .none kV_room_along dc_room_along pm_room_along an_room_along cd_room_along ct_room_along), sl_room_along⟩) (c_room_along : PySem.W.codeIn K cd_room_along "room_along" = true) (k_room_along : PySem.W.keepIn K (.ref f_room_along) = true)
    (a_greatest_plan : PySem.W.nsIn K mainGlobals "greatest_plan" = some (some (.ref f_greatest_plan))) (l_greatest_plan : K.lookup f_greatest_plan = some ⟨oc_greatest_plan, od_greatest_plan, .func (PySem.W.fnOf "greatest_plan" "greatest_plan" (defArgs s_greatest_plan) (defBody s_greatest_plan) (defScope s_greatest_plan) .none kV_greatest_plan dc_greatest_plan pm_greatest_plan an_greatest_plan cd_greatest_plan ct_greatest_plan), sl_greatest_plan⟩) (c_greatest_plan : PySem.W.codeIn K cd_greatest_plan "greatest_plan" = true) (k_greatest_plan : PySem.W.keepIn K (.ref f_greatest_plan) = true)
    (a_refuse_no_station : PySem.W.nsIn K mainGlobals "refuse_no_station" = some (some (.ref f_refuse_no_station))) (l_refuse_no_station : K.lookup f_refuse_no_station = some ⟨oc_refuse_no_station, od_refuse_no_station, .func (PySem.W.fnOf "refuse_no_station" "refuse_no_station" (defArgs s_refuse_no_station) (defBody s_refuse_no_station) (defScope s_refuse_no_station) .none kV_refuse_no_station dc_refuse_no_station pm_refuse_no_station an_refuse_no_station cd_refuse_no_station ct_refuse_no_station), sl_refuse_no_station⟩) (c_refuse_no_station : PySem.W.codeIn K cd_refuse_no_station "refuse_no_station" = true) (k_refuse_no_station : PySem.W.keepIn K (.ref f_refuse_no_station) = true)
    (a_refuse_no_width : PySem.W.nsIn K mainGlobals "refuse_no_width" = some (some (.ref f_refuse_no_width))) (l_refuse_no_width : K.lookup f_refuse_no_width = some ⟨oc_refuse_no_width, od_refuse_no_width, .func (PySem.W.fnOf "refuse_no_width" "refuse_no_width" (defArgs s_refuse_no_width) (defBody s_refuse_no_width) (defScope s_refuse_no_width) .none kV_refuse_no_width dc_refuse_no_width pm_refuse_no_width an_refuse_no_width cd_refuse_no_width ct_refuse_no_width), sl_refuse_no_width⟩) (c_refuse_no_width : PySem.W.codeIn K cd_refuse_no_width "refuse_no_width" = true) (k_refuse_no_width : PySem.W.keepIn K (.ref f_refuse_no_width) = true)
    (a_refuse_one_station : PySem.W.nsIn K mainGlobals "refuse_one_station" = some (some (.ref f_refuse_one_station))) (l_refuse_one_station : K.lookup f_refuse_one_station = some ⟨oc_refuse_one_station, od_refuse_one_station, .func (PySem.W.fnOf "refuse_one_station" "refuse_one_station" (defArgs s_refuse_one_station) (defBody s_refuse_one_station) (defScope s_refuse_one_station) .none kV_refuse_one_station dc_refuse_one_station pm_refuse_one_station an_refuse_one_station cd_refuse_one_station ct_refuse_one_station), sl_refuse_one_station⟩) (c_refuse_one_station : PySem.W.codeIn K cd_refuse_one_station "refuse_one_station" = true) (k_refuse_one_station : PySem.W.keepIn K (.ref f_refuse_one_station) = true)
    (a_best_flow : PySem.W.nsIn K mainGlobals "best_flow" = some (some (.ref f_best_flow))) (l_best_flow : K.lookup f_best_flow = some ⟨oc_best_flow, od_best_flow, .func (PySem.W.fnOf "best_flow" "best_flow" (defArgs s_best_flow) (defBody s_best_flow) (defScope s_best_flow) .none kV_best_flow dc_best_flow pm_best_flow an_best_flow cd_best_flow ct_best_flow), sl_best_flow⟩) (c_best_flow : PySem.W.codeIn K cd_best_flow "best_flow" = true) (k_best_flow : PySem.W.keepIn K (.ref f_best_flow) = true)
    (a_said : PySem.W.nsIn K mainGlobals "_law_said" = some (some (.ref f_said))) (l_said : K.lookup f_said = some ⟨oc_said, od_said, .func (PySem.W.fnOf "_law_said" "_law_said" (defArgs s_said) (defBody s_said) (defScope s_said) .none kV_said dc_said pm_said an_said cd_said ct_said), sl_said⟩) (c_said : PySem.W.codeIn K cd_said "_law_said" = true) (k_said : PySem.W.keepIn K (.ref f_said) = true)
    (a_judged : PySem.W.nsIn K mainGlobals "_law_judged" = some (some (.ref f_judged))) (l_judged : K.lookup f_judged = some ⟨oc_judged, od_judged, .func (PySem.W.fnOf "_law_judged" "_law_judged" (defArgs s_judged) (defBody s_judged) (defScope s_judged) .none kV_judged dc_judged pm_judged an_judged cd_judged ct_judged), sl_judged⟩) (c_judged : PySem.W.codeIn K cd_judged "_law_judged" = true) (k_judged : PySem.W.keepIn K (.ref f_judged) = true)
    (a_law : PySem.W.nsIn K mainGlobals "law" = some (some (.ref f_law))) (l_law : K.lookup f_law = some ⟨oc_law, od_law, .func (PySem.W.fnOf "law" "law" (defArgs s_law) (defBody s_law) (defScope s_law) .none kV_law dc_law pm_law an_law cd_law ct_law), sl_law⟩) (c_law : PySem.W.codeIn K cd_law "law" = true) (k_law : PySem.W.keepIn K (.ref f_law) = true)
    (z_ValueError : PySem.W.nsIn K mainGlobals "ValueError" = some none)
    (z_bool : PySem.W.nsIn K mainGlobals "bool" = some none)
    (z_enumerate : PySem.W.nsIn K mainGlobals "enumerate" = some none)
    (z_int : PySem.W.nsIn K mainGlobals "int" = some none)
    (z_isinstance : PySem.W.nsIn K mainGlobals "isinstance" = some none)
    (z_len : PySem.W.nsIn K mainGlobals "len" = some none)
    (z_list : PySem.W.nsIn K mainGlobals "list" = some none)
    (z_max : PySem.W.nsIn K mainGlobals "max" = some none)
    (z_min : PySem.W.nsIn K mainGlobals "min" = some none)
    (z_range : PySem.W.nsIn K mainGlobals "range" = some none)
    (z_sorted : PySem.W.nsIn K mainGlobals "sorted" = some none)
    (z_tuple : PySem.W.nsIn K mainGlobals "tuple" = some none)
    (g_AGAINST : PySem.W.nsIn K mainGlobals "AGAINST" = some (some (.str "against" t_AGAINST)))
    (g_ALONG : PySem.W.nsIn K mainGlobals "ALONG" = some (some (.str "along" t_ALONG)))
    (g_GOAL : PySem.W.nsIn K mainGlobals "GOAL" = some (some (.int 1 t_GOAL)))
    (g_START : PySem.W.nsIn K mainGlobals "START" = some (some (.int 0 t_START)))
    (g_WIDTH : PySem.W.nsIn K mainGlobals "WIDTH" = some (some (.int 2 t_WIDTH)))
    (g_FlowError : PySem.W.nsIn K mainGlobals "FlowError" = some (some (.ref cF)))
    (g_NoStation : PySem.W.nsIn K mainGlobals "NoStation" = some (some (.ref cN)))
    (g_NoWidth : PySem.W.nsIn K mainGlobals "NoWidth" = some (some (.ref cW)))
    (g_OneStation : PySem.W.nsIn K mainGlobals "OneStation" = some (some (.ref c1)))
    (sF : PySem.W.subIn K (.ref cF) (.type "BaseException") = some true)
    (x_N : PySem.W.excIn K cN vErr "ValueError.__new__" = true) (y1_N : PySem.W.findIn K (.ref cN) "__getattribute__" = some (some (.builtin "BaseException.__getattribute__"))) (y2_N : PySem.W.findIn K (.ref cN) "__getattr__" = some none) (y3_N : PySem.W.findIn K (.ref cN) "__class__" = some (some (.builtin "object.__class__"))) (n_N : cN ≠ cF) (kF_N : PySem.W.kitOne K (.ref cN) (.ref cF) = some true) (kV_N : PySem.W.kitOne K (.ref cN) (.type "ValueError") = some true)
    (q_NN : PySem.W.kitOne K (.ref cN) (.ref cN) = some true)
    (q_NW : PySem.W.kitOne K (.ref cN) (.ref cW) = some false)
    (q_N1 : PySem.W.kitOne K (.ref cN) (.ref c1) = some false)
    (x_W : PySem.W.excIn K cW vErr "ValueError.__new__" = true) (y1_W : PySem.W.findIn K (.ref cW) "__getattribute__" = some (some (.builtin "BaseException.__getattribute__"))) (y2_W : PySem.W.findIn K (.ref cW) "__getattr__" = some none) (y3_W : PySem.W.findIn K (.ref cW) "__class__" = some (some (.builtin "object.__class__"))) (n_W : cW ≠ cF) (kF_W : PySem.W.kitOne K (.ref cW) (.ref cF) = some true) (kV_W : PySem.W.kitOne K (.ref cW) (.type "ValueError") = some true)
    (q_WN : PySem.W.kitOne K (.ref cW) (.ref cN) = some false)
    (q_WW : PySem.W.kitOne K (.ref cW) (.ref cW) = some true)
    (q_W1 : PySem.W.kitOne K (.ref cW) (.ref c1) = some false)
    (x_1 : PySem.W.excIn K c1 vErr "ValueError.__new__" = true) (y1_1 : PySem.W.findIn K (.ref c1) "__getattribute__" = some (some (.builtin "BaseException.__getattribute__"))) (y2_1 : PySem.W.findIn K (.ref c1) "__getattr__" = some none) (y3_1 : PySem.W.findIn K (.ref c1) "__class__" = some (some (.builtin "object.__class__"))) (n_1 : c1 ≠ cF) (kF_1 : PySem.W.kitOne K (.ref c1) (.ref cF) = some true) (kV_1 : PySem.W.kitOne K (.ref c1) (.type "ValueError") = some true)
    (q_1N : PySem.W.kitOne K (.ref c1) (.ref cN) = some false)
    (q_1W : PySem.W.kitOne K (.ref c1) (.ref cW) = some false)
    (q_11 : PySem.W.kitOne K (.ref c1) (.ref c1) = some true) :
    ∃ fd : FuncData, (∀ (s : Shared) (v : Value), BindsTo s fd ⟨[v], []⟩ [("_law_script", v)]) ∧ ∀ base : Heap, K.In base → base.Ns mainGlobals mg → FnOk l.prog w K mg base CX0 12 fa fd ["_law_script"] (spLaw K) := by
  have e := hfa.symm.trans (PySem.W.mg_of X G a_law)
  cases e
  have T : Txt K mg := ⟨PySem.W.mg_none_of X G z_ValueError, PySem.W.mg_none_of X G z_bool, PySem.W.mg_none_of X G z_enumerate, PySem.W.mg_none_of X G z_int, PySem.W.mg_none_of X G z_isinstance, PySem.W.mg_none_of X G z_len, PySem.W.mg_none_of X G z_list, PySem.W.mg_none_of X G z_max, PySem.W.mg_none_of X G z_min, PySem.W.mg_none_of X G z_range, PySem.W.mg_none_of X G z_sorted, PySem.W.mg_none_of X G z_tuple, ⟨_, PySem.W.mg_of X G g_AGAINST⟩, ⟨_, PySem.W.mg_of X G g_ALONG⟩, ⟨_, PySem.W.mg_of X G g_GOAL⟩, ⟨_, PySem.W.mg_of X G g_START⟩, ⟨_, PySem.W.mg_of X G g_WIDTH⟩⟩
  have CL : Cls K mg cF cN cW c1 := ⟨PySem.W.mg_of X G g_FlowError, PySem.W.mg_of X G g_NoStation, PySem.W.mg_of X G g_NoWidth, PySem.W.mg_of X G g_OneStation, ⟨⟨x_N, y1_N, y2_N, y3_N⟩, exm_of sF n_N kF_N, q_NN, q_NW, q_N1, kV_N⟩, ⟨⟨x_W, y1_W, y2_W, y3_W⟩, exm_of sF n_W kF_W, q_WN, q_WW, q_W1, kV_W⟩, ⟨⟨x_1, y1_1, y2_1, y3_1⟩, exm_of sF n_1 kF_1, q_1N, q_1W, q_11, kV_1⟩⟩
  have F_room := fun_mk (st := s_room) l_room c_room k_room
  have b_room := F_room.binds (ps := ["_law_script", "_law_most", "_law_bound"]) fun _ _ _ _ _ _ us hl => match us, hl with | [_, _, _], _ => rfl
  have F_whole := fun_mk (st := s_whole) l_whole c_whole k_whole
  have b_whole := F_whole.binds (ps := ["_law_found"]) fun _ _ _ _ _ _ us hl => match us, hl with | [_], _ => rfl
  have F_at := fun_mk (st := s_at) l_at c_at k_at
  have b_at := F_at.binds (ps := ["_law_script", "_law_k"]) fun _ _ _ _ _ _ us hl => match us, hl with | [_, _], _ => rfl
  have F_rows := fun_mk (st := s_rows) l_rows c_rows k_rows
  have b_rows := F_rows.binds (ps := ["_law_found", "_law_due"]) fun _ _ _ _ _ _ us hl => match us, hl with | [_, _], _ => rfl
  have F_steps_by_station := fun_mk (st := s_steps_by_station) l_steps_by_station c_steps_by_station k_steps_by_station
  have b_steps_by_station := F_steps_by_station.binds (ps := ["pipes", "plan"]) fun _ _ _ _ _ _ us hl => match us, hl with | [_, _], _ => rfl
  have F_roads_from := fun_mk (st := s_roads_from) l_roads_from c_roads_from k_roads_from
  have b_roads_from := F_roads_from.binds (ps := ["pipes", "plan", "start"]) fun _ _ _ _ _ _ us hl => match us, hl with | [_, _, _], _ => rfl
  have F_reached_from := fun_mk (st := s_reached_from) l_reached_from c_reached_from k_reached_from
  have b_reached_from := F_reached_from.binds (ps := ["count", "pipes", "plan", "station"]) fun _ _ _ _ _ _ us hl => match us, hl with | [_, _, _, _], _ => rfl
  have F_road_to := fun_mk (st := s_road_to) l_road_to c_road_to k_road_to
  have b_road_to := F_road_to.binds (ps := ["count", "pipes", "plan", "start", "goal"]) fun _ _ _ _ _ _ us hl => match us, hl with | [_, _, _, _, _], _ => rfl
  have F_sent_along := fun_mk (st := s_sent_along) l_sent_along c_sent_along k_sent_along
  have b_sent_along := F_sent_along.binds (ps := ["plan", "steps", "amount"]) fun _ _ _ _ _ _ us hl => match us, hl with | [_, _, _], _ => rfl
  have F_room_along := fun_mk (st := s_room_along) l_room_along c_room_along k_room_along
  have b_room_along := F_room_along.binds (ps := ["pipes", "plan", "road"]) fun _ _ _ _ _ _ us hl => match us, hl with | [_, _, _], _ => rfl
  have F_greatest_plan := fun_mk (st := s_greatest_plan) l_greatest_plan c_greatest_plan k_greatest_plan
  have b_greatest_plan := F_greatest_plan.binds (ps := ["count", "pipes", "spring", "drain"]) fun _ _ _ _ _ _ us hl => match us, hl with | [_, _, _, _], _ => rfl
  have F_refuse_no_station := fun_mk (st := s_refuse_no_station) l_refuse_no_station c_refuse_no_station k_refuse_no_station
  have b_refuse_no_station := F_refuse_no_station.binds (ps := ["count", "pipes", "spring", "drain"]) fun _ _ _ _ _ _ us hl => match us, hl with | [_, _, _, _], _ => rfl
  have F_refuse_no_width := fun_mk (st := s_refuse_no_width) l_refuse_no_width c_refuse_no_width k_refuse_no_width
  have b_refuse_no_width := F_refuse_no_width.binds (ps := ["pipes"]) fun _ _ _ _ _ _ us hl => match us, hl with | [_], _ => rfl
  have F_refuse_one_station := fun_mk (st := s_refuse_one_station) l_refuse_one_station c_refuse_one_station k_refuse_one_station
  have b_refuse_one_station := F_refuse_one_station.binds (ps := ["spring", "drain"]) fun _ _ _ _ _ _ us hl => match us, hl with | [_, _], _ => rfl
  have F_best_flow := fun_mk (st := s_best_flow) l_best_flow c_best_flow k_best_flow
  have b_best_flow := F_best_flow.binds (ps := ["count", "pipes", "spring", "drain"]) fun _ _ _ _ _ _ us hl => match us, hl with | [_, _, _, _], _ => rfl
  have F_said := fun_mk (st := s_said) l_said c_said k_said
  have b_said := F_said.binds (ps := ["_law_count", "_law_tubes", "_law_spring", "_law_drain"]) fun _ _ _ _ _ _ us hl => match us, hl with | [_, _, _, _], _ => rfl
  have F_judged := fun_mk (st := s_judged) l_judged c_judged k_judged
  have b_judged := F_judged.binds (ps := ["_law_count", "_law_pipes", "_law_spring", "_law_drain"]) fun _ _ _ _ _ _ us hl => match us, hl with | [_, _, _, _], _ => rfl
  have F_law := fun_mk (st := s_law) l_law c_law k_law
  refine ⟨PySem.W.fnOf "law" "law" (defArgs s_law) (defBody s_law) (defScope s_law) .none kV_law dc_law pm_law an_law cd_law ct_law, fun s v => .of_eq rfl, fun base _ _ => ?_⟩
  have O_room : FOk l.prog w K mg base "_law_room" 1 ["_law_script", "_law_most", "_law_bound"] (spRoomL K) f_room _ := ⟨ok_room F_room T CL , PySem.W.mg_of X G a_room, k_room, b_room⟩
  have O_whole : FOk l.prog w K mg base "_law_whole" 1 ["_law_found"] spWhole f_whole _ := ⟨ok_whole F_whole T CL , PySem.W.mg_of X G a_whole, k_whole, b_whole⟩
  have O_at : FOk l.prog w K mg base "_law_at" 1 ["_law_script", "_law_k"] (spAt K) f_at _ := ⟨ok_at F_at T CL , PySem.W.mg_of X G a_at, k_at, b_at⟩
  have O_rows : FOk l.prog w K mg base "_law_rows" 2 ["_law_found", "_law_due"] spRows f_rows _ := ⟨ok_rows F_rows T CL O_whole, PySem.W.mg_of X G a_rows, k_rows, b_rows⟩
  have O_steps_by_station : FOk l.prog w K mg base "steps_by_station" 1 ["pipes", "plan"] (spSteps K) f_steps_by_station _ := ⟨ok_steps_by_station F_steps_by_station T CL , PySem.W.mg_of X G a_steps_by_station, k_steps_by_station, b_steps_by_station⟩
  have O_roads_from : FOk l.prog w K mg base "roads_from" 2 ["pipes", "plan", "start"] (spRoads K) f_roads_from _ := ⟨ok_roads_from F_roads_from T CL O_steps_by_station, PySem.W.mg_of X G a_roads_from, k_roads_from, b_roads_from⟩
  have O_reached_from : FOk l.prog w K mg base "reached_from" 3 ["count", "pipes", "plan", "station"] (spReached K) f_reached_from _ := ⟨ok_reached_from F_reached_from T CL O_roads_from, PySem.W.mg_of X G a_reached_from, k_reached_from, b_reached_from⟩
  have O_road_to : FOk l.prog w K mg base "road_to" 3 ["count", "pipes", "plan", "start", "goal"] (spRoad K) f_road_to _ := ⟨ok_road_to F_road_to T CL O_roads_from, PySem.W.mg_of X G a_road_to, k_road_to, b_road_to⟩
  have O_sent_along : FOk l.prog w K mg base "sent_along" 1 ["plan", "steps", "amount"] (spSent K) f_sent_along _ := ⟨ok_sent_along F_sent_along T CL , PySem.W.mg_of X G a_sent_along, k_sent_along, b_sent_along⟩
  have O_room_along : FOk l.prog w K mg base "room_along" 1 ["pipes", "plan", "road"] (spRoom K) f_room_along _ := ⟨ok_room_along F_room_along T CL , PySem.W.mg_of X G a_room_along, k_room_along, b_room_along⟩
  have O_greatest_plan : FOk l.prog w K mg base "greatest_plan" 4 ["count", "pipes", "spring", "drain"] (spGreat K) f_greatest_plan _ := ⟨ok_greatest_plan F_greatest_plan T CL O_road_to O_room_along O_sent_along, PySem.W.mg_of X G a_greatest_plan, k_greatest_plan, b_greatest_plan⟩
  have O_refuse_no_station : FOkR l.prog w K mg base "refuse_no_station" 1 ["count", "pipes", "spring", "drain"] (spRefStR K cN) f_refuse_no_station _ := ⟨ok_refuse_no_station F_refuse_no_station T CL , PySem.W.mg_of X G a_refuse_no_station, k_refuse_no_station, b_refuse_no_station⟩
  have O_refuse_no_width : FOkR l.prog w K mg base "refuse_no_width" 1 ["pipes"] (spRefWR K cW) f_refuse_no_width _ := ⟨ok_refuse_no_width F_refuse_no_width T CL , PySem.W.mg_of X G a_refuse_no_width, k_refuse_no_width, b_refuse_no_width⟩
  have O_refuse_one_station : FOkR l.prog w K mg base "refuse_one_station" 1 ["spring", "drain"] (spRef1R c1) f_refuse_one_station _ := ⟨ok_refuse_one_station F_refuse_one_station T CL , PySem.W.mg_of X G a_refuse_one_station, k_refuse_one_station, b_refuse_one_station⟩
  have O_best_flow : FOkR l.prog w K mg base "best_flow" 5 ["count", "pipes", "spring", "drain"] (spBestR K cN cW c1) f_best_flow _ := ⟨ok_best_flow F_best_flow T CL O_greatest_plan O_reached_from O_refuse_no_station O_refuse_no_width O_refuse_one_station, PySem.W.mg_of X G a_best_flow, k_best_flow, b_best_flow⟩
  have O_said : FOk l.prog w K mg base "_law_said" 6 ["_law_count", "_law_tubes", "_law_spring", "_law_drain"] (spSaid K) f_said _ := ⟨ok_said F_said T CL O_best_flow, PySem.W.mg_of X G a_said, k_said, b_said⟩
  have O_judged : FOk l.prog w K mg base "_law_judged" 1 ["_law_count", "_law_pipes", "_law_spring", "_law_drain"] (spJudged K) f_judged _ := ⟨ok_judged F_judged T CL , PySem.W.mg_of X G a_judged, k_judged, b_judged⟩
  exact ok_law F_law T CL O_at O_judged O_room O_rows O_said
theorem walk {l : PySem.W.OpenLaw} {q : Program} {loose : List Str} {XP : (Str → Option Value) → Heap → Prop} {YP : World → Heap → Prop} {d : DefRec} {K : Params → PySem.W.Frag} (hn : l.most = some 63) (hdf : d.params.defaults = [])
    (hY : ∀ (w : World) (h : Heap), YP w h → (K w.params).In h)
    (F : ∀ (w : World) (mg : Str → Option Value) (fa : Addr) (h : Heap), (K w.params).In h → h.Ns mainGlobals mg → mg d.name = some (.ref fa) →
      ∃ fd : FuncData, (∀ (s : Shared) (u : Value), BindsTo s fd ⟨[u], []⟩ [("_law_script", u)]) ∧ ∀ base : Heap, (K w.params).In base → base.Ns mainGlobals mg → FnOk l.prog w (K w.params) mg base CX0 12 fa fd ["_law_script"] (spLaw (K w.params))) :
    PySem.W.WalkO q loose XP YP l.row.toRowW d [] (fun f vs => PySem.call f vs) :=
  L2.walk_of (n := 63) (k := 12) (x := "_law_script") (CX := fun _ => CX0) (sp := fun w => spLaw (K w.params)) hn (by decide) hdf ⟨rfl, by decide, by decide⟩ hY F (fun _ _ a ns hl _ hS => ⟨a, ns, rfl, hS, hl, fun _ => rfl⟩) fun _ _ _ _ _ z => z
end Lw
open PySem PySem.W PyProof.Rows
set_option maxRecDepth 100000 in
set_option maxHeartbeats 0 in
theorem PySem.Challenge.cw_pipeworks_k08_refused_holds : PySem.Challenge.rw_pipeworks_k08_refused.Holds := by
  w_on; o_law; k_head; (case hw => w_witness2)
  k_fill
  refine Lw.walk (l := PySem.Challenge.rw_pipeworks_k08_refused) rfl rfl (fun w h Y => PySem.W.kIn_of Y) ?F
  case F =>
    intro w mg fa h KX G hmg
    refine' Lw.all_mk KX G hmg ?a_room ?l_room ?c_room ?k_room ?a_whole ?l_whole ?c_whole ?k_whole ?a_at ?l_at ?c_at ?k_at ?a_rows ?l_rows ?c_rows ?k_rows ?a_steps_by_station ?l_steps_by_station ?c_steps_by_station ?k_steps_by_station ?a_roads_from ?l_roads_from ?c_roads_from ?k_roads_from ?a_reached_from ?l_reached_from ?c_reached_from ?k_reached_from ?a_road_to ?l_road_to ?c_road_to ?k_road_to ?a_sent_along ?l_sent_along ?c_sent_along ?k_sent_along ?a_room_along ?l_room_along ?c_room_along ?k_room_along ?a_greatest_plan ?l_greatest_plan ?c_greatest_plan ?k_greatest_plan ?a_refuse_no_station ?l_refuse_no_station ?c_refuse_no_station ?k_refuse_no_station ?a_refuse_no_width ?l_refuse_no_width ?c_refuse_no_width ?k_refuse_no_width ?a_refuse_one_station ?l_refuse_one_station ?c_refuse_one_station ?k_refuse_one_station ?a_best_flow ?l_best_flow ?c_best_flow ?k_best_flow ?a_said ?l_said ?c_said ?k_said ?a_judged ?l_judged ?c_judged ?k_judged ?a_law ?l_law ?c_law ?k_law ?z_ValueError ?z_bool ?z_enumerate ?z_int ?z_isinstance ?z_len ?z_list ?z_max ?z_min ?z_range ?z_sorted ?z_tuple ?g_AGAINST ?g_ALONG ?g_GOAL ?g_START ?g_WIDTH ?g_FlowError ?g_NoStation ?g_NoWidth ?g_OneStation ?sF ?x_N ?y1_N ?y2_N ?y3_N ?n_N ?kF_N ?kV_N ?q_NN ?q_NW ?q_N1 ?x_W ?y1_W ?y2_W ?y3_W ?n_W ?kF_W ?kV_W ?q_WN ?q_WW ?q_W1 ?x_1 ?y1_1 ?y2_1 ?y3_1 ?n_1 ?kF_1 ?kV_1 ?q_1N ?q_1W ?q_11
    (case a_room => k_is)
    (case l_room => k_is)
    (case c_room => k_is)
    (case k_room => k_is)
    (case a_whole => k_is)
    (case l_whole => k_is)
    (case c_whole => k_is)
    (case k_whole => k_is)
    (case a_at => k_is)
    (case l_at => k_is)
    (case c_at => k_is)
    (case k_at => k_is)
    (case a_rows => k_is)
    (case l_rows => k_is)
    (case c_rows => k_is)
    (case k_rows => k_is)
    (case a_steps_by_station => k_is)
    (case l_steps_by_station => k_is)
    (case c_steps_by_station => k_is)
    (case k_steps_by_station => k_is)
    (case a_roads_from => k_is)
    (case l_roads_from => k_is)
    (case c_roads_from => k_is)
    (case k_roads_from => k_is)
    (case a_reached_from => k_is)
    (case l_reached_from => k_is)
    (case c_reached_from => k_is)
    (case k_reached_from => k_is)
    (case a_road_to => k_is)
    (case l_road_to => k_is)
    (case c_road_to => k_is)
    (case k_road_to => k_is)
    (case a_sent_along => k_is)
    (case l_sent_along => k_is)
    (case c_sent_along => k_is)
    (case k_sent_along => k_is)
    (case a_room_along => k_is)
    (case l_room_along => k_is)
    (case c_room_along => k_is)
    (case k_room_along => k_is)
    (case a_greatest_plan => k_is)
    (case l_greatest_plan => k_is)
    (case c_greatest_plan => k_is)
    (case k_greatest_plan => k_is)
    (case a_refuse_no_station => k_is)
    (case l_refuse_no_station => k_is)
    (case c_refuse_no_station => k_is)
    (case k_refuse_no_station => k_is)
    (case a_refuse_no_width => k_is)
    (case l_refuse_no_width => k_is)
    (case c_refuse_no_width => k_is)
    (case k_refuse_no_width => k_is)
    (case a_refuse_one_station => k_is)
    (case l_refuse_one_station => k_is)
    (case c_refuse_one_station => k_is)
    (case k_refuse_one_station => k_is)
    (case a_best_flow => k_is)
    (case l_best_flow => k_is)
    (case c_best_flow => k_is)
    (case k_best_flow => k_is)
    (case a_said => k_is)
    (case l_said => k_is)
    (case c_said => k_is)
    (case k_said => k_is)
    (case a_judged => k_is)
    (case l_judged => k_is)
    (case c_judged => k_is)
    (case k_judged => k_is)
    (case a_law => k_is)
    (case l_law => k_is)
    (case c_law => k_is)
    (case k_law => k_is)
    (case z_ValueError => k_is)
    (case z_bool => k_is)
    (case z_enumerate => k_is)
    (case z_int => k_is)
    (case z_isinstance => k_is)
    (case z_len => k_is)
    (case z_list => k_is)
    (case z_max => k_is)
    (case z_min => k_is)
    (case z_range => k_is)
    (case z_sorted => k_is)
    (case z_tuple => k_is)
    (case g_AGAINST => k_is)
    (case g_ALONG => k_is)
    (case g_GOAL => k_is)
    (case g_START => k_is)
    (case g_WIDTH => k_is)
    (case g_FlowError => k_is)
    (case g_NoStation => k_is)
    (case g_NoWidth => k_is)
    (case g_OneStation => k_is)
    (case sF => k_is)
    (case x_N => k_exc)
    (case y1_N => k_is)
    (case y2_N => k_is)
    (case y3_N => k_is)
    (case n_N => decide)
    (case kF_N => kit_is)
    (case kV_N => kit_is)
    (case q_NN => kit_is)
    (case q_NW => kit_is)
    (case q_N1 => kit_is)
    (case x_W => k_exc)
    (case y1_W => k_is)
    (case y2_W => k_is)
    (case y3_W => k_is)
    (case n_W => decide)
    (case kF_W => kit_is)
    (case kV_W => kit_is)
    (case q_WN => kit_is)
    (case q_WW => kit_is)
    (case q_W1 => kit_is)
    (case x_1 => k_exc)
    (case y1_1 => k_is)
    (case y2_1 => k_is)
    (case y3_1 => k_is)
    (case n_1 => decide)
    (case kF_1 => kit_is)
    (case kV_1 => kit_is)
    (case q_1N => kit_is)
    (case q_1W => kit_is)
    (case q_11 => kit_is)