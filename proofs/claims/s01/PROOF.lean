import PyProof.Rows.All
import Wide.All
import OpenK.AllK
import Wide.FinOn
import PyProof.EqAt
import PyProof.EqKinds
import PyProof.TupleCall
import KE.BitLaws
import Open.SpecLaws
import KE.OsHead
import KE.OsGo
import PyKrae
import KE.KDictSum
import PyProof.Rows.SortShellAny
import PySem.Challenge.RW_likeliersets_s01_answers
section
set_option Elab.async false
set_option linter.all false
set_option maxRecDepth 100000
namespace L2
open PySem PySem.Spec PyProof.Rows
abbrev Key := Sum Int Str
def keyIs : Key → Value → Bool
  | .inl k, v => Value.isInt k v
  | .inr x, v => Value.isStrOf x v
def keyH (w : World) : Key → Int
  | .inl k => hashInt k
  | .inr x => hashStr w x
theorem keyIs_shape : ∀ {k : Key} {v : Value}, keyIs k v = true → (∃ i t, k = Sum.inl i ∧ v = Value.int i t) ∨ (∃ x t, k = Sum.inr x ∧ v = Value.str x t)
  | .inl i, v, h => by
    obtain ⟨t, e⟩ := Value.isInt_shape (k := i) (v := v) h
    exact .inl ⟨i, t, rfl, e⟩
  | .inr x, v, h => by
    obtain ⟨t, e⟩ := Value.isStrOf_shape (x := x) (v := v) h
    exact .inr ⟨x, t, rfl, e⟩
theorem keyIs_int (i : Int) (t : Tok) : keyIs (.inl i) (.int i t) = true := by simp [keyIs, Value.isInt]
theorem keyIs_str (x : Str) (t : Tok) : keyIs (.inr x) (.str x t) = true := by simp [keyIs, Value.isStrOf]
theorem key_ll (a b : Int) : decide ((Sum.inl a : Key) = Sum.inl b) = (a == b) := by
  by_cases e : a = b
  · subst e; simp
  · have h : ¬ (Sum.inl a : Key) = Sum.inl b := fun q => e (Sum.inl.inj q)
    rw [decide_eq_false h]
    exact (beq_eq_false_iff_ne.mpr e).symm
theorem key_rr (a b : Str) : decide ((Sum.inr a : Key) = Sum.inr b) = decide (a = b) := by
  by_cases e : a = b
  · subst e; simp
  · have h : ¬ (Sum.inr a : Key) = Sum.inr b := fun q => e (Sum.inr.inj q)
    rw [decide_eq_false h, decide_eq_false e]
theorem key_lr (a : Int) (b : Str) : decide ((Sum.inl a : Key) = Sum.inr b) = false := decide_eq_false (fun q => nomatch q)
theorem key_rl (a : Str) (b : Int) : decide ((Sum.inr a : Key) = Sum.inl b) = false := decide_eq_false (fun q => nomatch q)
def mixKind (prog : Program) (w : World) : PySem.KeyKind prog w Key where
  is := keyIs
  hash := keyH w
  inj := fun v a b ha hb => by
    rcases keyIs_shape ha with ⟨i, t, rfl, rfl⟩ | ⟨x, t, rfl, rfl⟩
    · rcases keyIs_shape hb with ⟨j, u, rfl, e⟩ | ⟨y, u, rfl, e⟩
      · injection e with e1 _; rw [e1]
      · exact nomatch e
    · rcases keyIs_shape hb with ⟨j, u, rfl, e⟩ | ⟨y, u, rfl, e⟩
      · exact nomatch e
      · injection e with e1 _; rw [e1]
  byValue := fun k v h => by
    rcases keyIs_shape h with ⟨i, t, rfl, rfl⟩ | ⟨x, t, rfl, rfl⟩ <;> rfl
  pyHash := fun hv h => by
    rcases keyIs_shape hv with ⟨i, t, rfl, rfl⟩ | ⟨x, t, rfl, rfl⟩
    · exact wpAny_pyHash_int h
    · exact wpAny_pyHash_str h
  eqBool := fun hu hv h => by
    rcases keyIs_shape hu with ⟨i, t, rfl, rfl⟩ | ⟨x, t, rfl, rfl⟩
    · rcases keyIs_shape hv with ⟨j, u, rfl, rfl⟩ | ⟨y, u, rfl, rfl⟩
      · rw [key_ll] at h; exact wpAny_eqBool_int h
      · rw [key_lr] at h; exact SeqAt.EqAt.int_str i t y u _ _ _ _ h
    · rcases keyIs_shape hv with ⟨j, u, rfl, rfl⟩ | ⟨y, u, rfl, rfl⟩
      · rw [key_rl] at h; exact SeqAt.EqAt.str_int x t j u _ _ _ _ h
      · rw [key_rr] at h; exact wpAny_eqBool_str h
  «strs» := fun k x t v h => by
    rcases keyIs_shape h with ⟨i, u, rfl, e⟩ | ⟨y, u, rfl, e⟩
    · exact nomatch e
    · injection e with e1 _
      subst e1
      cases v <;> rfl
theorem mixKind_is (prog : Program) (w : World) (k : Key) (v : Value) : (mixKind prog w).is k v = keyIs k v := rfl
theorem mixKind_int (prog : Program) (w : World) (i : Int) (t : Tok) : (mixKind prog w).is (.inl i) (.int i t) = true := keyIs_int i t
theorem mixKind_str (prog : Program) (w : World) (x : Str) (t : Tok) : (mixKind prog w).is (.inr x) (.str x t) = true := keyIs_str x t
end L2
namespace L2
open PySem PySem.Spec PyProof.Rows
inductive V where
  | non | bl (b : Bool) | int (i : Int) | str (x : Str) | byt (b : Array UInt8) | flt (b : UInt64) | ref (a : Addr) | ty (n : String)
  deriving DecidableEq
def RelV : V → Value → Prop
  | .non, u => u = Value.none
  | .bl b, u => u = Value.bool b
  | .int i, u => ∃ t, u = Value.int i t
  | .str x, u => ∃ t, u = Value.str x t
  | .byt b, u => ∃ t, u = Value.bytes b t
  | .flt b, u => ∃ t, u = Value.float b t
  | .ref a, u => u = Value.ref a
  | .ty n, u => u = Value.type n
abbrev Vals : List V → List Value → Prop := Paired RelV
theorem Vals.length {xs : List V} {us : List Value} (r : Vals xs us) : xs.length = us.length := Paired.length r
theorem Vals.get : ∀ {xs : List V} {us : List Value} {i : Nat} {x : V}, Vals xs us → xs[i]? = some x → ∃ u, us[i]? = some u ∧ RelV x u
  | _, _, _, _, .nil, e => by simp at e
  | _, _, 0, _, .cons r _, e => by simp at e; subst e; exact ⟨_, rfl, r⟩
  | _, _, i + 1, x, .cons _ t, e => by
    obtain ⟨u, h1, h2⟩ := Vals.get (i := i) (x := x) t (by simpa using e)
    exact ⟨u, by simpa using h1, h2⟩
theorem Vals.set {x : V} {u : Value} (r : RelV x u) : ∀ {xs : List V} {us : List Value} (i : Nat), Vals xs us → Vals (xs.set i x) (us.set i u)
  | _, _, _, .nil => .nil
  | _, _, 0, .cons _ t => .cons r t
  | _, _, i + 1, .cons q t => .cons q (Vals.set r i t)
theorem Vals.append : ∀ {xs ys : List V} {us ws : List Value}, Vals xs us → Vals ys ws → Vals (xs ++ ys) (us ++ ws)
  | _, _, _, _, .nil, s => s
  | _, _, _, _, .cons r t, s => .cons r (Vals.append t s)
theorem Vals.take : ∀ {xs : List V} {us : List Value} (n : Nat), Vals xs us → Vals (xs.take n) (us.take n)
  | _, _, 0, _ => .nil
  | _, _, _ + 1, .nil => .nil
  | _, _, n + 1, .cons r t => .cons r (Vals.take n t)
theorem Vals.drop : ∀ {xs : List V} {us : List Value} (n : Nat), Vals xs us → Vals (xs.drop n) (us.drop n)
  | _, _, 0, r => r
  | _, _, _ + 1, .nil => .nil
  | _, _, n + 1, .cons _ t => Vals.drop n t
def RelO : Option V → Option Value → Prop
  | some v, some u => RelV v u
  | none, none => True
  | _, _ => False
def KV {κ : Type} : List (κ × V) → List (κ × Value) → Prop := Paired fun (p : κ × V) (q : κ × Value) => p.1 = q.1 ∧ RelV p.2 q.2
def kV : Key → V
  | .inl i => .int i
  | .inr x => .str x
inductive HO where
  | lst (xs : List V)
  | tup (xs : List V)
  | dK (kvs : List (Key × V)) | dT (kvs : List (List Key × V))
  | set (S : Int → Bool) (n : Nat)
  | ins (C dx : Addr) (fs : List (Str × V))
  | own (x : Addr)
  | xd (fs : List (Str × V))
  | met (f x : Addr)
  | rng (lo hi : Int)
  | frz (o : Obj) (u : HO)
  | tbl (ps : Array Value)
  | ext (φ : Heap → Prop)
abbrev Hp := Addr → Option HO
def upd (H : Hp) (a : Addr) (o : HO) : Hp := fun b => if b = a then some o else H b
theorem upd_same {H : Hp} {a : Addr} {o : HO} : upd H a o a = some o := by unfold upd; rw [if_pos rfl]
theorem upd_ne {H : Hp} {a b : Addr} {o : HO} (h : b ≠ a) : upd H a o b = H b := by unfold upd; rw [if_neg h]
theorem upd_upd {H : Hp} {a : Addr} {o u : HO} : upd (upd H a o) a u = upd H a u := by
  funext b; unfold upd; split <;> rfl
theorem ne_of {H : Hp} {a b : Addr} {o u : HO} (h : H a = some o) (h' : H b = some u) (d : o ≠ u) : a ≠ b := by
  intro e; subst e; rw [h] at h'; exact d (Option.some.inj h')
theorem ne_of_none {H : Hp} {a b : Addr} {o : HO} (h : H a = some o) (h' : H b = none) : a ≠ b := by
  intro e; subst e; rw [h] at h'; cases h'
section
variable (P : Program) (w : World)
def ObjOk (H : Hp) (h : Heap) (a : Addr) : HO → Prop
  | .lst xs => xs.length ≤ sizeLine ∧ ∃ (its : List Value) (n : Nat), Vals xs its ∧ h.get? a = some { cls := .type "list", data := .seq its.toArray n }
  | .tup xs => xs.length ≤ sizeLine ∧ ∃ its : List Value, Vals xs its ∧ IsTup h a its.toArray
  | .dK kvs => kvs.length ≤ sizeLine ∧ (a == sysModules) = false ∧ ∃ vs, KV kvs vs ∧ h.DictOf (mixKind P w) a vs
  | .dT kvs => kvs.length ≤ sizeLine ∧ (a == sysModules) = false ∧ ∃ xs : List (List Key × Addr × Value),
      Paired (fun (p : List Key × V) (q : List Key × Addr × Value) => p.1 = q.1 ∧ H q.2.1 = some (.tup (p.1.map kV)) ∧ RelV p.2 q.2.2) kvs xs ∧
      ∃ o es ep, h.get? a = some o ∧ o.ExactDict ∧ o.data = .dict es ep ∧ es.toList = xs.map (entryOfKey (tupleKind (mixKind P w))) ∧ (xs.map (·.1)).Nodup
  | .set S n => h.SetOf (intKind P w) a S n
  | .ins C dx fs => H dx = some (.own a) ∧ fs.length ≤ 1000 ∧ dx ≠ a ∧ h.get? a = some (PySem.W.instObj C dx) ∧
      ∃ mA, h.Ns1 dx mA ∧ (∀ f, RelO (fs.lookup f) (mA f)) ∧ PySem.Within mA (fs.map (·.1))
  | .own _ => ∃ o, h.get? a = some o
  | .xd fs => ∃ mA, h.Ns1 a mA ∧ ∀ f, RelO (fs.lookup f) (mA f)
  | .rng lo hi => ∃ t u v, h.get? a = some { cls := .type "range", data := .fields #[.int lo t, .int hi u, .int 1 v] }
  | .frz o u => h.get? a = some o ∧ ObjOk H h a u
  | .tbl ps => h.get? a = some { cls := .none, data := .fields ps }
  | .met f x => h.get? a = some (PySem.W.methodObj (.ref f) (.ref x))
  | .ext φ => φ h ∧ (∃ o, h.get? a = some o) ∧ ∀ h1 h2 : Heap, φ h1 → (∀ o, h1.get? a = some o → h2.get? a = some o) → φ h2
def HOk (H : Hp) (h : Heap) : Prop := ∀ a o, H a = some o → ObjOk P w H h a o
end
section
variable {P : Program} {w : World} {H H' : Hp} {h h' : Heap} {a : Addr} {o : HO}
theorem ObjOk.lt (x : ObjOk P w H h a o) : a < h.objs.size := by
  cases o with
  | lst xs => obtain ⟨_, _, _, _, e⟩ := x; exact Heap.lt_size e
  | tup xs => obtain ⟨_, _, _, p⟩ := x; exact p.lt
  | dK kvs => obtain ⟨_, _, _, _, o, _, _, e, _⟩ := x; exact Heap.lt_size e
  | dT kvs => obtain ⟨_, _, _, _, o, _, _, e, _⟩ := x; exact Heap.lt_size e
  | set S n => obtain ⟨o, _, _, _, e, _⟩ := x; exact Heap.lt_size e
  | ins C dx fs => obtain ⟨_, _, _, e, _⟩ := x; exact Heap.lt_size e
  | own y => obtain ⟨_, e⟩ := x; exact Heap.lt_size e
  | xd fs => obtain ⟨_, ⟨_, _, _, e, _⟩, _⟩ := x; exact Heap.lt_size e
  | rng lo hi => obtain ⟨_, _, _, e⟩ := x; exact Heap.lt_size e
  | frz ob u => obtain ⟨e, _⟩ := x; exact Heap.lt_size e
  | tbl ps => exact Heap.lt_size (show h.get? a = some _ from x)
  | met f y => exact Heap.lt_size (show h.get? a = some _ from x)
  | ext φ => obtain ⟨_, ⟨_, e⟩, _⟩ := x; exact Heap.lt_size e
theorem Paired.mapP {α β : Type} {F G : α → β → Prop} : ∀ {l₁ : List α} {l₂ : List β}, Paired F l₁ l₂ → (∀ a b, F a b → G a b) → Paired G l₁ l₂
  | _, _, .nil, _ => .nil
  | _, _, .cons r t, f => .cons (f _ _ r) (Paired.mapP t f)
theorem ObjOk.stay (x : ObjOk P w H h a o) (k : ∀ b u, (b = a ∨ H b = some (.own a)) → h.get? b = some u → h'.get? b = some u)
    (ho : ∀ b, H b = some (.own a) → H' b = some (.own a)) (ht : ∀ b xs, H b = some (.tup xs) → H' b = some (.tup xs)) : ObjOk P w H' h' a o := by
  induction o with
  | lst xs => obtain ⟨z, its, n, r, e⟩ := x; exact ⟨z, its, n, r, k _ _ (.inl rfl) e⟩
  | tup xs => obtain ⟨z, its, r, ob, e, c⟩ := x; exact ⟨z, its, r, ob, k _ _ (.inl rfl) e, c⟩
  | dK kvs => obtain ⟨z, y, vs, r, ob, es, ep, e, c⟩ := x; exact ⟨z, y, vs, r, ob, es, ep, k _ _ (.inl rfl) e, c⟩
  | dT kvs =>
    obtain ⟨z, y, xs, r, ob, es, ep, e, c⟩ := x
    exact ⟨z, y, xs, Paired.mapP r fun p q z => ⟨z.1, ht _ _ z.2.1, z.2.2⟩, ob, es, ep, k _ _ (.inl rfl) e, c⟩
  | set S n => obtain ⟨ob, es, ep, t, e, c⟩ := x; exact ⟨ob, es, ep, t, k _ _ (.inl rfl) e, c⟩
  | ins C dx fs =>
    obtain ⟨d, z, ne, e, mA, ⟨od, es, ep, e2, c⟩, r⟩ := x
    exact ⟨ho _ d, z, ne, k _ _ (.inl rfl) e, mA, ⟨od, es, ep, k _ _ (.inr d) e2, c⟩, r⟩
  | own y => obtain ⟨ob, e⟩ := x; exact ⟨ob, k _ _ (.inl rfl) e⟩
  | xd fs => obtain ⟨mA, ⟨od, es, ep, e, c⟩, r⟩ := x; exact ⟨mA, ⟨od, es, ep, k _ _ (.inl rfl) e, c⟩, r⟩
  | rng lo hi => obtain ⟨t, u, v, e⟩ := x; exact ⟨t, u, v, k _ _ (.inl rfl) e⟩
  | frz ob u ih => obtain ⟨e, q⟩ := x; exact ⟨k _ _ (.inl rfl) e, ih q⟩
  | tbl ps =>
    have e : h.get? a = some { cls := .none, data := .fields ps } := x
    show h'.get? a = some { cls := .none, data := .fields ps }
    exact k a _ (.inl rfl) e
  | met f y =>
    have e : h.get? a = some (PySem.W.methodObj (.ref f) (.ref y)) := x
    show h'.get? a = some (PySem.W.methodObj (.ref f) (.ref y))
    exact k a _ (.inl rfl) e
  | ext φ => obtain ⟨p, ⟨o, e⟩, st⟩ := x; exact ⟨st _ _ p fun o q => k _ _ (.inl rfl) q, ⟨o, k _ _ (.inl rfl) e⟩, st⟩
theorem HOk.lt (x : HOk P w H h) (e : H a = some o) : a < h.objs.size := (x a o e).lt
theorem HOk.fresh (x : HOk P w H h) (e : h.objs.size ≤ a) : H a = none := by
  cases q : H a with
  | none => rfl
  | some u => exact absurd (Nat.lt_of_lt_of_le (x.lt q) e) (Nat.lt_irrefl _)
theorem HOk.kept (x : HOk P w H h) (k : ∀ b u, h.get? b = some u → h'.get? b = some u) : HOk P w H h' := fun a o e =>
  (x a o e).stay (fun b u _ q => k b u q) (fun _ q => q) fun _ _ q => q
theorem HOk.laid (x : HOk P w H h) (k : ∀ b u, h.get? b = some u → h'.get? b = some u) (hp : h.objs.size ≤ a) (new : ObjOk P w (upd H a o) h' a o) : HOk P w (upd H a o) h' := fun b u e => by
  have hn := x.fresh hp
  by_cases hb : b = a
  · subst hb; rw [upd_same] at e; cases e; exact new
  · rw [upd_ne hb] at e
    exact (x b u e).stay (fun c v _ q => k c v q) (fun c q => by rw [upd_ne (ne_of_none q hn)]; exact q) fun c xs q => by rw [upd_ne (ne_of_none q hn)]; exact q
end
def Rd (H : Hp) (a : Addr) (u : HO) : Prop := H a = some u ∨ ∃ o, H a = some (.frz o u)
theorem Rd.ok {P : Program} {w : World} {H : Hp} {h : Heap} {a : Addr} {u : HO} (r : Rd H a u) (x : HOk P w H h) : ObjOk P w H h a u := by
  rcases r with r | ⟨o, r⟩
  · exact x a u r
  · obtain ⟨_, q⟩ := x a _ r
    exact q
def Mut : Option HO → Prop
  | some (.lst _) => True
  | some (.dK _) => True
  | some (.dT _) => True
  | some (.set _ _) => True
  | some (.ins _ _ _) => True
  | some (.ext _) => True
  | _ => False
section
variable {P : Program} {w : World} {H : Hp} {h h' : Heap} {x e : Addr} {o' : HO}
theorem HOk.write (ok : HOk P w H h) (mu : Mut (H x)) (he : e = x ∨ H e = some (.own x)) (k : ∀ b u, b ≠ e → h.get? b = some u → h'.get? b = some u) (heo : ∃ u, h'.get? e = some u)
    (new : ObjOk P w (upd H x o') h' x o') : HOk P w (upd H x o') h' := fun b u q => by
  have nown : ∀ c y, H c = some (.own y) → c ≠ x := fun c y r z => by subst z; rw [r] at mu; exact mu
  have ntup : ∀ c xs, H c = some (.tup xs) → c ≠ x := fun c xs r z => by subst z; rw [r] at mu; exact mu
  by_cases hb : b = x
  · subst hb; rw [upd_same] at q; cases q; exact new
  · rw [upd_ne hb] at q
    by_cases hbe : b = e
    · have q' : H b = some (.own x) := by
        rcases he with z | z
        · exact absurd (hbe.trans z) hb
        · rw [hbe]; exact z
      rw [q] at q'; cases q'
      obtain ⟨v, hv⟩ := heo
      exact ⟨v, by rw [hbe]; exact hv⟩
    · refine (ok b u q).stay (fun c v hc r => k c v ?_ r) (fun c r => by rw [upd_ne (nown c b r)]; exact r) fun c xs r => by rw [upd_ne (ntup c xs r)]; exact r
      rcases hc with rfl | hc
      · exact hbe
      · rintro rfl
        rcases he with z | z
        · exact nown c b hc z
        · rw [hc] at z; cases z; exact hb rfl
end
structure Un (fs ex : List Addr) (H H' : Hp) (h h' : Heap) : Prop where
  keep : ∀ b o, h.get? b = some o → H b = none → b ∉ fs → b ∉ ex → h'.get? b = some o
  slot : ∀ b o, h.get? b = some o → H b = none → b ∈ fs → b ∉ ex → ∃ sl, h'.get? b = some { o with slots := sl }
  free : ∀ b o, h.get? b = some o → H b = none → b ∉ ex → H' b = none
  there : ∀ b o, h.get? b = some o → b ∉ ex → ∃ o', h'.get? b = some o'
  tups : ∀ b xs, H b = some (.tup xs) → H' b = some (.tup xs)
  frzs : ∀ b o u, H b = some (.frz o u) → H' b = some (.frz o u)
  tbls : ∀ b ps, H b = some (.tbl ps) → ∃ more, H' b = some (.tbl (ps ++ more))
section
variable {fs fs' ex ex' : List Addr} {H H1 H2 : Hp} {h h1 h2 h' : Heap} {a x e : Addr} {o : HO}
theorem Un.any (u : Un fs ex H H1 h h1) {b : Addr} {ob : Obj} (q : h.get? b = some ob) (n : H b = none) (hx : b ∉ ex) : ∃ sl, h1.get? b = some { ob with slots := sl } := by
  by_cases hb : b ∈ fs
  · exact u.slot b ob q n hb hx
  · exact ⟨ob.slots, u.keep b ob q n hb hx⟩
theorem Un.kept (k : ∀ b u, h.get? b = some u → h'.get? b = some u) : Un fs ex H H h h' :=
  ⟨fun b ob q _ _ _ => k b ob q, fun b ob q _ _ _ => ⟨ob.slots, k b ob q⟩, fun _ _ _ n _ => n, fun b ob q _ => ⟨ob, k b ob q⟩, fun _ _ q => q, fun _ _ _ q => q, fun _ ps q => ⟨#[], by rw [q]; simp⟩⟩
theorem Un.refl : Un fs ex H H h h := Un.kept fun _ _ q => q
theorem Un.laid (k : ∀ b u, h.get? b = some u → h'.get? b = some u) (hp : h.objs.size ≤ a) (hn : H a = none) : Un fs ex H (upd H a o) h h' where
  keep := fun b u q _ _ _ => k b u q
  slot := fun b u q _ _ _ => ⟨u.slots, k b u q⟩
  free := fun b u q n _ => by rw [upd_ne (Nat.ne_of_lt (Nat.lt_of_lt_of_le (Heap.lt_size q) hp))]; exact n
  there := fun b u q _ => ⟨u, k b u q⟩
  tups := fun b xs q => by rw [upd_ne (ne_of_none q hn)]; exact q
  frzs := fun b u xs q => by rw [upd_ne (ne_of_none q hn)]; exact q
  tbls := fun b ps q => ⟨#[], by rw [upd_ne (ne_of_none q hn), q]; simp⟩
theorem Un.write (mu : Mut (H x)) (he : e = x ∨ H e = some (.own x)) (k : ∀ b u, b ≠ e → h.get? b = some u → h'.get? b = some u) (heo : ∃ u, h'.get? e = some u) : Un fs ex H (upd H x o) h h' := by
  have hx : ∀ b, H b = none → b ≠ x := fun b n z => by subst z; rw [n] at mu; exact mu
  have hb : ∀ b, H b = none → b ≠ e := fun b n z => by
    subst z
    rcases he with r | r
    · exact hx b n r
    · rw [n] at r; cases r
  have hm : ∀ b u, H b = some u → ¬ Mut (some u) → b ≠ x := fun b u q nm z => by subst z; rw [q] at mu; exact nm mu
  refine ⟨fun b u q n _ _ => k b u (hb b n) q, fun b u q n _ _ => ⟨u.slots, k b u (hb b n) q⟩, fun b u q n _ => by rw [upd_ne (hx b n)]; exact n, fun b u q _ => ?_,
    fun b xs q => by rw [upd_ne (hm b _ q fun z => z)]; exact q, fun b u xs q => by rw [upd_ne (hm b _ q fun z => z)]; exact q, fun b ps q => ⟨#[], by rw [upd_ne (hm b _ q fun z => z), q]; simp⟩⟩
  by_cases hbe : b = e
  · subst hbe; exact heo
  · exact ⟨u, k b u hbe q⟩
end
def trk (h : Heap) (H : Hp) : List Addr := (List.range h.objs.size).filter fun a => (H a).isSome
def hidT (h : Heap) (H : Hp) : Heap := PySem.W.hideAll h (trk h H)
theorem hidT_size (h : Heap) (H : Hp) : (hidT h H).objs.size = h.objs.size := PySem.W.hideAll_size _ _
theorem hidT_get {h : Heap} {H : Hp} {b : Addr} {o : Obj} (e : h.get? b = some o) (n : H b = none) : (hidT h H).get? b = some o :=
  PySem.W.hideAll_get _ e fun hm => by
    have q : (H b).isSome = true := (List.mem_filter.mp hm).2
    rw [n] at q; simp at q
theorem of_hidT {h : Heap} {H : Hp} {b : Addr} {o : Obj} (e : (hidT h H).get? b = some o) : h.get? b = some o ∧ H b = none := by
  have e' : h.get? b = some o := PySem.W.of_hideAll (trk h H) e
  refine ⟨e', ?_⟩
  cases q : H b with
  | none => rfl
  | some x =>
    have hm : b ∈ trk h H := List.mem_filter.mpr ⟨List.mem_range.mpr (Heap.lt_size e'), by simp [q]⟩
    have z : (hidT h H).get? b = none := PySem.W.hideAll_none (trk h H) hm
    rw [z] at e; cases e
def allNews (g h : Heap) (L : Addr) : List (Addr × Obj) := (List.range h.objs.size).filterMap fun a => if a = L ∨ (g.get? a).isSome = true then none else (h.get? a).map fun o => (a, o)
def rest (g h : Heap) (L d : Addr) : List (Addr × Obj) := (allNews g h L).filter fun p => decide (p.1 ≠ d)
end L2
namespace L2
open PySem PySem.Spec PyProof.Rows
structure Mod (K : PySem.W.Frag) (mg : Str → Option Value) (base : Heap) : Prop where
  kin : K.In base
  glob : base.Ns mainGlobals mg
  blt : ∃ mb, base.Ns builtinsNs mb ∧ ∀ x : Str, x ≠ "__name__" → mb x = bootBuiltins x
  nolimit : base.NoLimit
structure Cx where
  prog : Program
  w : World
  K : PySem.W.Frag
  mg : Str → Option Value
  base : Heap
  A : Around
  N : List Str
  s_0 : Shared
  H_0 : Hp
  env : Env
  outer : List Env
  stack : List Env
  ex : List Addr
  fn : Str → Bool
  calm : Bool
  pn : List (Addr × Obj)
  xe : Value → Shared → Prop
def frs (l : List Env) : List Addr := l.filterMap (·.frame)
abbrev Cx.fs (X : Cx) : List Addr := frs X.outer
def Vis (sc : Scope) (x : Str) : Prop := sc.names.lookup x = some .local ∨ sc.names.lookup x = some .cell ∨ sc.names.lookup x = some .free
def Loc (sc : Scope) (x : Str) : Prop := sc.names.lookup x = some .local ∨ sc.names.lookup x = some .cell
def Look (env : Env) (h : Heap) (m : Str → Option Value) (x : Str) (u : Value) : Prop :=
  (env.kindOf x = some .local ∧ m x = some u) ∨ ((env.kindOf x = some .cell ∨ env.kindOf x = some .free) ∧ ∃ c, env.cells.lookup x = some c ∧ h.IsCell c (some u))
structure Cx.Ok (X : Cx) : Prop where
  mod : Mod X.K X.mg X.base
  kind : X.env.scope.kind = .function
  glob : X.env.globals = mainGlobals
  blt : X.env.builtins = builtinsNs
  above : X.s_0.heap.objs.size ≤ X.env.locals
  inj : ∀ x y c, X.env.cells.lookup x = some c → X.env.cells.lookup y = some c → x = y
  has : ∀ x, (X.env.kindOf x = some .cell ∨ X.env.kindOf x = some .free) → ∃ c, X.env.cells.lookup x = some c
  cab : ∀ x c, X.fn x = true → X.env.cells.lookup x = some c → X.s_0.heap.objs.size ≤ c
  hd : X.calm = true → X.A.handled = none
  frames : X.A.frames = some X.stack
  stk : X.stack = X.outer ∨ (X.stack = X.env :: X.outer ∧ X.env.frame = some X.env.locals)
  exf : ∀ b ∈ X.ex, b ≠ X.env.locals ∧ ∀ x c, X.env.cells.lookup x = some c → c ≠ b
  bs : ∀ b o, X.base.get? b = some o → X.s_0.heap.get? b = some o ∧ X.H_0 b = none
  bsz : X.base.objs.size ≤ X.s_0.heap.objs.size
  noex : ∀ b o, X.base.get? b = some o → b ∉ X.ex
  exfs : ∀ b ∈ X.ex, b ∉ X.fs
  funs : X.s_0.heap.FunFrames X.base X.outer
  frf : ∀ b ∈ X.fs, X.H_0 b = none
structure Inv (X : Cx) (pins : List (Addr × Obj)) (σ : List (Option V)) (H : Hp) (s : Shared) : Prop where
  ok : X.Ok
  os : s.os = X.s_0.os
  bare : AllBare s.gens
  base : Un X.fs X.ex X.H_0 H X.s_0.heap s.heap
  loc : ∃ m, s.heap.Ns X.env.locals m ∧ ∀ (i : Nat) (x : Str) (v : V), X.N[i]? = some x → σ[i]? = some (some v) → Vis X.env.scope x → ∃ u, RelV v u ∧ Look X.env s.heap m x u
  cell : ∀ x c, X.env.cells.lookup x = some c → ∃ v, s.heap.IsCell c v
  free : H X.env.locals = none
  freeC : ∀ x c, X.env.cells.lookup x = some c → H c = none
  pin : ∀ p ∈ X.pn ++ pins, s.heap.get? p.1 = some p.2 ∧ H p.1 = none ∧ p.1 ≠ X.env.locals ∧ p.1 ∉ X.fs ∧ ∀ v, p.2.data ≠ .cell v
  hok : HOk X.prog X.w H s.heap
  len : σ.length = X.N.length
section
variable {X : Cx} {pins : List (Addr × Obj)} {σ : List (Option V)} {H H' : Hp} {s : Shared} {h' : Heap}
theorem Cx.Ok.nofr (ok : X.Ok) {b : Addr} {o : Obj} (e : X.base.get? b = some o) : b ∉ X.fs := fun hb => by
  have := (ok.funs.mem hb).1
  rw [e] at this; cases this
theorem Inv.bs (I : Inv X pins σ H s) : ∀ b o, X.base.get? b = some o → s.heap.get? b = some o ∧ H b = none := fun b o e =>
  ⟨I.base.keep b o (I.ok.bs b o e).1 (I.ok.bs b o e).2 (I.ok.nofr e) (I.ok.noex b o e), I.base.free b o (I.ok.bs b o e).1 (I.ok.bs b o e).2 (I.ok.noex b o e)⟩
theorem Inv.bk (I : Inv X pins σ H s) : ∀ b o, X.base.get? b = some o → s.heap.get? b = some o := fun b o e => (I.bs b o e).1
theorem Inv.mod (I : Inv X pins σ H s) : Mod X.K X.mg X.base := I.ok.mod
theorem Inv.kIn (I : Inv X pins σ H s) : X.K.In s.heap := I.ok.mod.kin.keeps I.bk
theorem Inv.lt (I : Inv X pins σ H s) : X.env.locals < s.heap.objs.size := let ⟨_, hn, _⟩ := I.loc; hn.lt
theorem Inv.sz (I : Inv X pins σ H s) : X.s_0.heap.objs.size ≤ s.heap.objs.size := Nat.le_trans I.ok.above (Nat.le_of_lt I.lt)
theorem Inv.nofs (I : Inv X pins σ H s) {a : Addr} (h : s.heap.objs.size ≤ a) : a ∉ X.fs := fun hb => by
  obtain ⟨_, o, ho, _⟩ := I.ok.funs.mem hb
  exact absurd (Nat.lt_of_lt_of_le (Heap.lt_size ho) (Nat.le_trans I.sz h)) (Nat.lt_irrefl _)
theorem Inv.cne (I : Inv X pins σ H s) : ∀ x c, X.env.cells.lookup x = some c → c ≠ X.env.locals := fun x c e z => by
  obtain ⟨v, o, ho, hd⟩ := I.cell x c e
  obtain ⟨m, ⟨o', es, ep, ho', hd', _⟩, _⟩ := I.loc
  rw [z, ho'] at ho; cases ho; rw [hd'] at hd; cases hd
theorem Inv.funs (I : Inv X pins σ H s) : s.heap.FunFrames X.base X.outer := by
  have all : ∀ (l : List Env), (∀ b ∈ frs l, b ∈ X.fs) → X.s_0.heap.FunFrames X.base l → s.heap.FunFrames X.base l := by
    intro l
    induction l with
    | nil => intro _ _; trivial
    | cons env r ih =>
      intro hs hl
      obtain ⟨hk, ⟨L, o, hf, hn, ho, hd⟩, hr⟩ := hl
      have hL : L ∈ X.fs := hs L (by unfold frs; rw [List.filterMap_cons, hf]; exact List.mem_cons_self)
      obtain ⟨sl, e⟩ := I.base.slot L o ho (I.ok.frf L hL) hL fun z => I.ok.exfs L z hL
      exact ⟨hk, ⟨L, _, hf, hn, e, hd⟩, ih (fun b hb => hs b (by unfold frs; rw [List.filterMap_cons, hf]; exact List.mem_cons_of_mem _ hb)) hr⟩
  exact all X.outer (fun _ hb => hb) I.ok.funs
theorem Inv.stack (I : Inv X pins σ H s) : s.heap.FunFrames X.base X.stack := by
  rcases I.ok.stk with e | ⟨e, hf⟩
  · rw [e]; exact I.funs
  · rw [e]
    obtain ⟨m, hn, _⟩ := I.loc
    refine .cons (by rw [I.ok.kind]; decide) hf hn ?_ I.funs
    exact Heap.get?_none_of_le (Nat.le_trans I.ok.bsz I.ok.above)
theorem Inv.stkSub (I : Inv X pins σ H s) : ∀ b ∈ frs X.stack, b ∈ X.env.locals :: X.fs := fun b hb => by
  rcases I.ok.stk with e | ⟨e, hf⟩
  · rw [e] at hb; exact List.mem_cons_of_mem _ hb
  · rw [e] at hb
    unfold frs at hb
    rw [List.filterMap_cons, hf] at hb
    exact hb
theorem Inv.stkFree (I : Inv X pins σ H s) : ∀ b ∈ frs X.stack, H b = none := fun b hb => by
  rcases List.mem_cons.mp (I.stkSub b hb) with e | hb
  · rw [e]; exact I.free
  · obtain ⟨_, o, ho, _⟩ := I.ok.funs.mem hb
    exact I.base.free b o ho (I.ok.frf b hb) fun z => I.ok.exfs b z hb
theorem Inv.step {g' : Array GenState} {t' : Nat} {d' : Drawn} {ch : List Addr} (I : Inv X pins σ H s)
    (hch : ∀ b ∈ ch, (b ∈ X.ex ∨ X.s_0.heap.objs.size ≤ b) ∧ b ≠ X.env.locals ∧ (∀ x c, X.env.cells.lookup x = some c → c ≠ b) ∧ ∀ p ∈ X.pn ++ pins, p.1 ≠ b)
    (keep : ∀ b o, b ≠ X.env.locals → b ∉ X.fs → b ∉ ch → s.heap.get? b = some o → H b = none → h'.get? b = some o)
    (slot : ∀ b o, b ≠ X.env.locals → b ∈ X.fs → b ∉ ch → s.heap.get? b = some o → H b = none → ∃ sl, h'.get? b = some { o with slots := sl }) (free : ∀ b o, b ∉ ch → s.heap.get? b = some o → H b = none → H' b = none)
    (there : ∀ b o, b ∉ ch → s.heap.get? b = some o → ∃ o', h'.get? b = some o')
    (tups : ∀ b xs, H b = some (.tup xs) → H' b = some (.tup xs)) (frzs : ∀ b o u, H b = some (.frz o u) → H' b = some (.frz o u)) (tbls : ∀ b ps, H b = some (.tbl ps) → ∃ more, H' b = some (.tbl (ps ++ more)))
    (ns : ∀ m, s.heap.Ns X.env.locals m → h'.Ns X.env.locals m) (hok : HOk X.prog X.w H' h') (hg : AllBare g') :
    Inv X pins σ H' { s with heap := h', gens := g', drawn := d', toks := t' } := by
  have neL : ∀ b o, X.s_0.heap.get? b = some o → b ≠ X.env.locals := fun b o e => Nat.ne_of_lt (Nat.lt_of_lt_of_le (Heap.lt_size e) I.ok.above)
  have neC : ∀ b o, X.s_0.heap.get? b = some o → b ∉ X.ex → b ∉ ch := fun b o e hx hb => by
    rcases (hch b hb).1 with z | z
    · exact hx z
    · exact absurd (Nat.lt_of_lt_of_le (Heap.lt_size e) z) (Nat.lt_irrefl _)
  have cellK : ∀ x c, X.env.cells.lookup x = some c → ∀ v, s.heap.IsCell c v → h'.IsCell c v := fun x c e v ⟨o, ho, hd⟩ => by
    have nch : c ∉ ch := fun z => (hch c z).2.2.1 x c e rfl
    by_cases hc : c ∈ X.fs
    · obtain ⟨sl, q⟩ := slot c o (I.cne x c e) hc nch ho (I.freeC x c e)
      exact ⟨_, q, hd⟩
    · exact ⟨o, keep c o (I.cne x c e) hc nch ho (I.freeC x c e), hd⟩
  refine ⟨I.ok, I.os, hg, ⟨fun b o e n hb hx => ?_, fun b o e n hb hx => ?_, fun b o e n hx => ?_, fun b o e hx => ?_, fun b xs e => tups b xs (I.base.tups b xs e), fun b o xs e => frzs b o xs (I.base.frzs b o xs e), fun b ps e => ?_⟩, ?_, fun x c e => ?_, ?_, fun x c e => ?_, fun p hp => ?_, hok, I.len⟩
  · exact keep b o (neL b o e) hb (neC b o e hx) (I.base.keep b o e n hb hx) (I.base.free b o e n hx)
  · obtain ⟨sl, e1⟩ := I.base.slot b o e n hb hx
    obtain ⟨sl', e2⟩ := slot b _ (neL b o e) hb (neC b o e hx) e1 (I.base.free b o e n hx)
    exact ⟨sl', e2⟩
  · obtain ⟨o', e1⟩ := I.base.there b o e hx
    exact free b o' (neC b o e hx) e1 (I.base.free b o e n hx)
  · obtain ⟨o', e1⟩ := I.base.there b o e hx
    exact there b o' (neC b o e hx) e1
  · obtain ⟨m1, e1⟩ := I.base.tbls b ps e
    obtain ⟨m2, e2⟩ := tbls b _ e1
    exact ⟨m1 ++ m2, by rw [e2, Array.append_assoc]⟩
  · obtain ⟨m, hn, hl⟩ := I.loc
    refine ⟨m, ns m hn, fun i x v e1 e2 e3 => ?_⟩
    obtain ⟨u, r, l⟩ := hl i x v e1 e2 e3
    refine ⟨u, r, ?_⟩
    rcases l with l | ⟨k, c, e, z⟩
    · exact .inl l
    · exact .inr ⟨k, c, e, cellK x c e _ z⟩
  · obtain ⟨v, z⟩ := I.cell x c e
    exact ⟨v, cellK x c e v z⟩
  · obtain ⟨m, ⟨o, _, _, ho, _⟩, _⟩ := I.loc
    exact free _ o (fun z => (hch _ z).2.1 rfl) ho I.free
  · obtain ⟨v, o, ho, hd⟩ := I.cell x c e
    exact free c o (fun z => (hch c z).2.2.1 x c e rfl) ho (I.freeC x c e)
  · obtain ⟨e, n, ne, nf, d⟩ := I.pin p hp
    have nch : p.1 ∉ ch := fun z => (hch p.1 z).2.2.2 p hp rfl
    exact ⟨keep p.1 p.2 ne nf nch e n, free p.1 p.2 nch e n, ne, nf, d⟩
theorem Inv.un {t' : Nat} (I : Inv X pins σ H s) (u : Un X.fs [] H H' s.heap h') (hok : HOk X.prog X.w H' h') : Inv X pins σ H' { s with heap := h', toks := t' } := by
  obtain ⟨m, ⟨o, es, ep, ho, r⟩, _⟩ := id I.loc
  obtain ⟨sl, hL⟩ := u.any ho I.free (by simp)
  exact I.step (g' := s.gens) (d' := s.drawn) (ch := []) (fun _ z => nomatch z) (fun b o _ hb _ e n => u.keep b o e n hb (by simp)) (fun b o _ hb _ e n => u.slot b o e n hb (by simp)) (fun b o _ e n => u.free b o e n (by simp)) (fun b o _ e => u.there b o e (by simp)) u.tups u.frzs u.tbls (fun m' hm => by
    obtain ⟨o', es', ep', ho', r'⟩ := hm
    rw [ho] at ho'; cases ho'
    exact ⟨_, es', ep', hL, r'⟩) hok I.bare
theorem Inv.call {g' : Array GenState} {t' : Nat} {d' : Drawn} {ch : List Addr} (I : Inv X pins σ H s) (u : Un (frs X.stack) ch H H' s.heap h') (hok : HOk X.prog X.w H' h') (hg : AllBare g')
    (hch : ∀ b ∈ ch, (b ∈ X.ex ∨ X.s_0.heap.objs.size ≤ b) ∧ b ≠ X.env.locals ∧ (∀ x c, X.env.cells.lookup x = some c → c ≠ b) ∧ ∀ p ∈ X.pn ++ pins, p.1 ≠ b) :
    Inv X pins σ H' { s with heap := h', gens := g', drawn := d', toks := t' } := by
  obtain ⟨m, ⟨o, es, ep, ho, r⟩, _⟩ := id I.loc
  obtain ⟨sl, hL⟩ := u.any ho I.free fun z => (hch _ z).2.1 rfl
  exact I.step (ch := ch) hch (fun b o hL hb hc e n => u.keep b o e n (fun z => (List.mem_cons.mp (I.stkSub b z)).elim hL hb) hc) (fun b o _ _ hc e n => u.any e n hc) (fun b o hc e n => u.free b o e n hc) (fun b o hc e => u.there b o e hc) u.tups u.frzs u.tbls (fun m' hm => by
    obtain ⟨o', es', ep', ho', r'⟩ := hm
    rw [ho] at ho'; cases ho'
    exact ⟨_, es', ep', hL, r'⟩) hok hg
theorem Inv.turned {t' : Nat} {it : Addr} (I : Inv X pins σ H s) (k : ∀ b o, b ≠ it → s.heap.get? b = some o → h'.get? b = some o) (hn : H it = none) (hL : it ≠ X.env.locals)
    (h1 : it ∈ X.ex ∨ X.s_0.heap.objs.size ≤ it) (h2 : ∀ x c, X.env.cells.lookup x = some c → c ≠ it) (h3 : ∀ p ∈ X.pn ++ pins, p.1 ≠ it) : Inv X pins σ H { s with heap := h', toks := t' } := by
  have nit : ∀ b u, H b = some u → b ≠ it := fun b u e z => by rw [z, hn] at e; cases e
  refine I.step (g' := s.gens) (d' := s.drawn) (ch := [it]) (fun b hb => ?_) (fun b o _ _ hc e _ => k b o (fun z => hc (by simp [z])) e) (fun b o _ _ hc e _ => ⟨o.slots, k b o (fun z => hc (by simp [z])) e⟩) (fun _ _ _ _ n => n)
    (fun b o hc e => ⟨o, k b o (fun z => hc (by simp [z])) e⟩) (fun _ _ e => e) (fun _ _ _ e => e) (fun b ps e => ⟨#[], by rw [e]; simp⟩) (fun m hm => ?_) (fun b u e => ?_) I.bare
  · have e : b = it := by simpa using hb
    subst e
    exact ⟨h1, hL, h2, h3⟩
  · obtain ⟨o, es, ep, ho, r⟩ := hm
    exact ⟨o, es, ep, k _ o (Ne.symm hL) ho, r⟩
  · refine (I.hok b u e).stay (fun c v hc q => k c v ?_ q) (fun _ q => q) fun _ _ q => q
    rcases hc with z | z
    · rw [z]; exact nit b u e
    · exact nit c _ z
theorem Inv.tok (I : Inv X pins σ H s) (t : Nat) : Inv X pins σ H { s with toks := t } := I.un (h' := s.heap) (t' := t) Un.refl I.hok
theorem Inv.kept {t' : Nat} (I : Inv X pins σ H s) (k : ∀ b u, s.heap.get? b = some u → h'.get? b = some u) : Inv X pins σ H { s with heap := h', toks := t' } := I.un (Un.kept k) (I.hok.kept k)
theorem Inv.laid {a : Addr} {o : HO} {t' : Nat} (I : Inv X pins σ H s) (k : ∀ b u, s.heap.get? b = some u → h'.get? b = some u) (hp : s.heap.objs.size ≤ a) (new : ObjOk X.prog X.w (upd H a o) h' a o) :
    Inv X pins σ (upd H a o) { s with heap := h', toks := t' } := I.un (Un.laid k hp (I.hok.fresh hp)) (I.hok.laid k hp new)
theorem Inv.write {x e : Addr} {o : HO} {t' : Nat} (I : Inv X pins σ H s) (mu : Mut (H x)) (he : e = x ∨ H e = some (.own x)) (k : ∀ b u, b ≠ e → s.heap.get? b = some u → h'.get? b = some u) (heo : ∃ u, h'.get? e = some u)
    (new : ObjOk X.prog X.w (upd H x o) h' x o) : Inv X pins σ (upd H x o) { s with heap := h', toks := t' } := I.un (Un.write mu he k heo) (I.hok.write mu he k heo new)
theorem Inv.weak {σ' : List (Option V)} (I : Inv X pins σ H s) (hl : σ'.length = σ.length) (w : ∀ (i : Nat) v, σ'[i]? = some (some v) → σ[i]? = some (some v)) : Inv X pins σ' H s :=
  ⟨I.ok, I.os, I.bare, I.base, let ⟨m, hn, hl'⟩ := I.loc; ⟨m, hn, fun i x v e1 e2 e3 => hl' i x v e1 (w i v e2) e3⟩, I.cell, I.free, I.freeC, I.pin, I.hok, hl.trans I.len⟩
theorem Inv.pins_of {pins' : List (Addr × Obj)} (I : Inv X pins σ H s) (h : ∀ p ∈ pins', s.heap.get? p.1 = some p.2 ∧ H p.1 = none ∧ p.1 ≠ X.env.locals ∧ p.1 ∉ X.fs ∧ ∀ v, p.2.data ≠ .cell v) : Inv X pins' σ H s :=
  ⟨I.ok, I.os, I.bare, I.base, I.loc, I.cell, I.free, I.freeC, fun p hp => (List.mem_append.mp hp).elim (fun z => I.pin p (List.mem_append_left _ z)) (h p), I.hok, I.len⟩
theorem nodup_ix {N : List Str} (hN : N.Nodup) {i j : Nat} {x : Str} (a : N[i]? = some x) (b : N[j]? = some x) : i = j := by
  obtain ⟨h1, e1⟩ := List.getElem?_eq_some_iff.mp a
  obtain ⟨h2, e2⟩ := List.getElem?_eq_some_iff.mp b
  exact (List.getElem_inj hN).mp (e1.trans e2.symm)
theorem store_ok2 {M : Model} {A : Around} {E : Value → Shared → Prop} {i : Nat} {x : Str} {v : V} {u : Value} {Q : Unit → Shared → Prop} (I : Inv X pins σ H s) (hN : X.N.Nodup) (hi : X.N[i]? = some x) (hx : Loc X.env.scope x) (r : RelV v u)
    (h : ∀ s', Inv X pins (σ.set i (some v)) H s' → (∃ a, Heap.SameBut a s.heap s'.heap ∧ (a = X.env.locals ∨ X.env.cells.lookup x = some a)) → Q () s') (hf : X.fn x = true ∨ X.env.scope.names.lookup x = some .local := by first | exact .inl rfl | exact .inr rfl | assumption) : wpAny M A (storeName X.env x u) Q E s := by
  obtain ⟨m, hn, hl⟩ := id I.loc
  have hcls : (X.env.scope.kind == .class || (X.env.scope.kind == .module && X.env.locals != X.env.globals)) = false := by rw [I.ok.kind]; rfl
  have hiσ : i < σ.length := by rw [I.len]; exact (List.getElem?_eq_some_iff.mp hi).1
  have cne := I.cne
  have tracked : ∀ {a : Addr} {h' : Heap}, (∃ o, s.heap.get? a = some o ∧ H a = none) → Heap.SameBut a s.heap h' → HOk X.prog X.w H h' := fun {a h'} ha hs b ob e => by
    obtain ⟨_, _, hfree⟩ := ha
    refine (I.hok b ob e).stay (fun c w' hc q => (hs.2 c ?_).trans q) (fun _ q => q) fun _ _ q => q
    rintro rfl
    rcases hc with rfl | hc
    · rw [hfree] at e; cases e
    · rw [hfree] at hc; cases hc
  rcases hx with hk | hk
  · refine wpAny_storeName_local hk hn (fun h' hn' hs => ?_) hcls
    obtain ⟨oL, _, _, hoL, _⟩ := id hn
    refine h _ ⟨I.ok, I.os, I.bare, ⟨fun b o e n hb hx => ?_, fun b o e n hb hx => ?_, I.base.free, fun b o e hx => ?_, I.base.tups, I.base.frzs, I.base.tbls⟩, ⟨_, hn', fun j y v' e1 e2 e3 => ?_⟩, fun y c e => ?_, I.free, I.freeC, fun p hp => ?_, tracked ⟨oL, hoL, I.free⟩ hs, by simpa using I.len⟩ ⟨_, hs, .inl rfl⟩
    · exact (hs.2 b (Nat.ne_of_lt (Nat.lt_of_lt_of_le (Heap.lt_size e) I.ok.above))).trans (I.base.keep b o e n hb hx)
    · obtain ⟨sl, e1⟩ := I.base.slot b o e n hb hx
      exact ⟨sl, (hs.2 b (Nat.ne_of_lt (Nat.lt_of_lt_of_le (Heap.lt_size e) I.ok.above))).trans e1⟩
    · obtain ⟨o', e1⟩ := I.base.there b o e hx
      exact ⟨o', (hs.2 b (Nat.ne_of_lt (Nat.lt_of_lt_of_le (Heap.lt_size e) I.ok.above))).trans e1⟩
    · by_cases hj : j = i
      · subst hj
        rw [hi] at e1; cases e1
        rw [List.getElem?_set_self hiσ] at e2
        cases e2
        exact ⟨u, r, .inl ⟨hk, by simp⟩⟩
      · rw [List.getElem?_set_ne (Ne.symm hj)] at e2
        obtain ⟨u', r', q⟩ := hl j y v' e1 e2 e3
        refine ⟨u', r', ?_⟩
        rcases q with ⟨k, e⟩ | ⟨k, c, e, z⟩
        · refine .inl ⟨k, ?_⟩
          have : y ≠ x := fun e => hj (nodup_ix hN e1 (e ▸ hi))
          simp [this, e]
        · exact .inr ⟨k, c, e, z.sameBut hs (cne y c e)⟩
    · obtain ⟨w', z⟩ := I.cell y c e
      exact ⟨w', z.sameBut hs (cne y c e)⟩
    · obtain ⟨e, n, ne, nf, d⟩ := I.pin p hp
      exact ⟨(hs.2 p.1 ne).trans e, n, ne, nf, d⟩
  · have hfn : X.fn x = true := by
      rcases hf with z | z
      · exact z
      · rw [z] at hk; cases hk
    obtain ⟨c, hc⟩ := I.ok.has x (.inl hk)
    obtain ⟨w', z⟩ := I.cell x c hc
    refine wpAny_storeName_cell I.ok.kind hk hc z (fun h' hc' hs => ?_)
    obtain ⟨oc, hoc, hocd⟩ := id z
    refine h { s with heap := h' } ⟨I.ok, I.os, I.bare, ⟨fun b o e n hb hx => ?_, fun b o e n hb hx => ?_, I.base.free, fun b o e hx => ?_, I.base.tups, I.base.frzs, I.base.tbls⟩, ⟨m, hn.sameBut hs (Ne.symm (cne x c hc)), fun j y v' e1 e2 e3 => ?_⟩, fun y c' e => ?_, I.free, I.freeC, fun p hp => ?_, tracked ⟨oc, hoc, I.freeC x c hc⟩ hs, by simpa using I.len⟩ ⟨c, hs, .inr hc⟩
    · exact (hs.2 b (Nat.ne_of_lt (Nat.lt_of_lt_of_le (Heap.lt_size e) (I.ok.cab x c hfn hc)))).trans (I.base.keep b o e n hb hx)
    · obtain ⟨sl, e1⟩ := I.base.slot b o e n hb hx
      exact ⟨sl, (hs.2 b (Nat.ne_of_lt (Nat.lt_of_lt_of_le (Heap.lt_size e) (I.ok.cab x c hfn hc)))).trans e1⟩
    · obtain ⟨o', e1⟩ := I.base.there b o e hx
      exact ⟨o', (hs.2 b (Nat.ne_of_lt (Nat.lt_of_lt_of_le (Heap.lt_size e) (I.ok.cab x c hfn hc)))).trans e1⟩
    · by_cases hj : j = i
      · subst hj
        rw [hi] at e1; cases e1
        rw [List.getElem?_set_self hiσ] at e2
        cases e2
        exact ⟨u, r, .inr ⟨.inl hk, c, hc, hc'⟩⟩
      · rw [List.getElem?_set_ne (Ne.symm hj)] at e2
        obtain ⟨u', r', q⟩ := hl j y v' e1 e2 e3
        refine ⟨u', r', ?_⟩
        rcases q with q | ⟨k, c', e, z'⟩
        · exact .inl q
        · refine .inr ⟨k, c', e, z'.sameBut hs ?_⟩
          rintro rfl
          exact hj (nodup_ix hN e1 (I.ok.inj _ _ _ e hc ▸ hi))
    · by_cases hcc : c' = c
      · subst hcc; exact ⟨_, hc'⟩
      · obtain ⟨w2, z2⟩ := I.cell y c' e
        exact ⟨w2, z2.sameBut hs hcc⟩
    · obtain ⟨e, n, ne, nf, d⟩ := I.pin p hp
      refine ⟨(hs.2 p.1 ?_).trans e, n, ne, nf, d⟩
      intro q
      rw [q, hoc] at e
      have q' : oc = p.2 := Option.some.inj e
      exact d w' (by rw [← q']; exact hocd)
theorem store_ok {M : Model} {A : Around} {E : Value → Shared → Prop} {i : Nat} {x : Str} {v : V} {u : Value} {Q : Unit → Shared → Prop} (I : Inv X pins σ H s) (hN : X.N.Nodup) (hi : X.N[i]? = some x) (hx : Loc X.env.scope x) (r : RelV v u)
    (h : ∀ s', Inv X pins (σ.set i (some v)) H s' → Q () s') (hf : X.fn x = true ∨ X.env.scope.names.lookup x = some .local := by first | exact .inl rfl | exact .inr rfl | assumption) : wpAny M A (storeName X.env x u) Q E s :=
  store_ok2 I hN hi hx r (fun s' I' _ => h s' I') hf
theorem Inv.call' {s' : Shared} {ch : List Addr} (I : Inv X pins σ H s) (ho : s'.os = s.os) (u : Un (frs X.stack) ch H H' s.heap s'.heap) (hok : HOk X.prog X.w H' s'.heap) (hg : AllBare s'.gens)
    (hch : ∀ b ∈ ch, (b ∈ X.ex ∨ X.s_0.heap.objs.size ≤ b) ∧ b ≠ X.env.locals ∧ (∀ x c, X.env.cells.lookup x = some c → c ≠ b) ∧ ∀ p ∈ X.pn ++ pins, p.1 ≠ b) : Inv X pins σ H' s' := by
  obtain ⟨h', g', d', t', o'⟩ := s'
  have e : o' = s.os := ho
  subst e
  exact I.call (g' := g') (t' := t') (d' := d') u hok hg hch
end
abbrev XK := Value → Option Addr → Hp → Prop
abbrev St := List (Option V)
abbrev VK := V → Hp → Prop
abbrev TE := St → Hp → VK → Prop
abbrev TT := St → Hp → (Bool → Hp → Prop) → Prop
abbrev TA := St → Hp → (List V → Hp → Prop) → Prop
structure Ends where
  nx : St → Hp → Prop
  rt : VK
  bk : St → Hp → Prop := fun _ _ => False
  ct : St → Hp → Prop := fun _ _ => False
abbrev TS := Ends → St → Hp → Prop
def EP (X : Cx) (pins : List (Addr × Obj)) (σ : St) (Q : VK) (u : Value) (s' : Shared) : Prop := ∃ v H', Inv X pins σ H' s' ∧ RelV v u ∧ Q v H'
def TP (X : Cx) (pins : List (Addr × Obj)) (σ : St) (Q : Bool → Hp → Prop) (b : Bool) (s' : Shared) : Prop := ∃ H', Inv X pins σ H' s' ∧ Q b H'
def AP (X : Cx) (pins : List (Addr × Obj)) (σ : St) (Q : List V → Hp → Prop) (us : List Value) (s' : Shared) : Prop := ∃ vs H', Inv X pins σ H' s' ∧ Vals vs us ∧ Q vs H'
def SP (X : Cx) (pins : List (Addr × Obj)) (D : Ends) (f : Flow) (s' : Shared) : Prop :=
  match f with
  | .next => ∃ σ' H', Inv X pins σ' H' s' ∧ D.nx σ' H'
  | .brk => ∃ σ' H', Inv X pins σ' H' s' ∧ D.bk σ' H'
  | .cont => ∃ σ' H', Inv X pins σ' H' s' ∧ D.ct σ' H'
  | .ret u => ∃ v σ' H', Inv X pins σ' H' s' ∧ RelV v u ∧ D.rt v H'
def PE (X : Cx) (e : Expr) (t : TE) : Prop :=
  ∀ (pins : List (Addr × Obj)) (s : Shared) (σ : St) (H : Hp) (Q : VK), Inv X pins σ H s → t σ H Q → wpAny (model X.prog X.w) X.A (eval e X.env) (EP X pins σ Q) X.xe s
def PT (X : Cx) (e : Expr) (t : TT) : Prop :=
  ∀ (pins : List (Addr × Obj)) (s : Shared) (σ : St) (H : Hp) (Q : Bool → Hp → Prop), Inv X pins σ H s → t σ H Q → wpAny (model X.prog X.w) X.A (isTrue e X.env (eval e X.env)) (TP X pins σ Q) X.xe s
def PW (X : Cx) (e : Expr) (t : TT) : Prop :=
  ∀ (whole : Sem Value) (pins : List (Addr × Obj)) (s : Shared) (σ : St) (H : Hp) (Q : Bool → Hp → Prop), Inv X pins σ H s → t σ H Q → wpAny (model X.prog X.w) X.A (isTrue e X.env whole) (TP X pins σ Q) X.xe s
theorem PW.pt {X : Cx} {e : Expr} {t : TT} (h : PW X e t) : PT X e t := h _
def PA (X : Cx) (es : List Expr) (t : TA) : Prop :=
  ∀ (pos : Pos) (pins : List (Addr × Obj)) (s : Shared) (σ : St) (H : Hp) (Q : List V → Hp → Prop), Inv X pins σ H s → t σ H Q → wpAny (model X.prog X.w) X.A (spliced (backTo pos (starEach es X.env))) (AP X pins σ Q) X.xe s
def PS (X : Cx) (st : Stmt) (t : TS) : Prop :=
  ∀ (pins : List (Addr × Obj)) (s : Shared) (σ : St) (H : Hp) (D : Ends), Inv X pins σ H s → t D σ H → wpAny (model X.prog X.w) X.A (exec st X.env) (SP X pins D) X.xe s
def PSs (X : Cx) (st : List Stmt) (t : TS) : Prop :=
  ∀ (pins : List (Addr × Obj)) (s : Shared) (σ : St) (H : Hp) (D : Ends), Inv X pins σ H s → t D σ H → wpAny (model X.prog X.w) X.A (execs st X.env) (SP X pins D) X.xe s
theorem thn {α : Type} {t : Sem α} {Q Q' : α → Shared → Prop} {M : Model} {A : Around} {E : Value → Shared → Prop} {s : Shared} (h : wpAny M A t Q E s) (hQ : ∀ a s, Q a s → Q' a s) : wpAny M A t Q' E s := wpAny_mono h hQ fun _ _ x => x
end L2
namespace L2
open PySem PySem.Spec PyProof.Rows
section
variable {X : Cx}
def tVar (i : Nat) : TE := fun σ H Q => ∃ v, σ[i]? = some (some v) ∧ Q v H
def tC (v : V) : TE := fun _ H Q => Q v H
theorem pe_var {i : Nat} {x : Str} {pos : Pos} (hN : X.N[i]? = some x) (hv : Vis X.env.scope x) (hd : (x == ("__debug__" : Str)) = false := by decide) (hcd : (x == ("__classdict__" : Str)) = false := by decide) : PE X (.Name x pos) (tVar i) := by
  intro pins s σ H Q I h
  obtain ⟨v, e, h⟩ := h
  obtain ⟨m, hn, hl⟩ := I.loc
  obtain ⟨u, r, l⟩ := hl i x v hN e hv
  have fin : EP X pins σ Q u s := ⟨v, H, I, r, h⟩
  rcases l with ⟨hk, hm⟩ | ⟨hk, c, hc, hcell⟩
  · exact wpAny_Name (wpAny_loadName_local I.ok.kind hk hn hm fin) hd
  · rcases hk with hk | hk
    · exact wpAny_Name (wpAny_loadName_cell I.ok.kind hk hc hcell fin) hd
    · exact wpAny_Name (wpAny_loadName_free I.ok.kind hk hc hcell fin hcd) hd
theorem pe_int {i j pos} : PE X (.Constant (.int i) j pos) (tC (.int i)) := fun _ _ _ H _ I h => wpAny_Constant_int ⟨.int i, H, I.tok _, ⟨_, rfl⟩, h⟩
theorem pe_bl {b j pos} : PE X (.Constant (.bool b) j pos) (tC (.bl b)) := fun _ _ _ H _ I h => Constant_bool ⟨.bl b, H, I, rfl, h⟩
def Gl (X : Cx) (x : Str) : Prop := X.env.kindOf x = some .globalImplicit
theorem ld_glob {E : Value → Shared → Prop} {pins : List (Addr × Obj)} {s : Shared} {σ : St} {H : Hp} {x : Str} {u : Value} {pos : Pos} {Q : Value → Shared → Prop} (I : Inv X pins σ H s) (hg : Gl X x) (hm : X.mg x = some u) (h : Q u s)
    (hd : (x == ("__debug__" : Str)) = false := by decide) : wpAny (model X.prog X.w) X.A (eval (.Name x pos) X.env) Q E s :=
  Calls.Name_function_global I.ok.kind hg (Calls.loadGlobal_global (by rw [I.ok.glob]; exact I.mod.glob.keeps I.bk) hm h) hd
theorem ld_blt {E : Value → Shared → Prop} {pins : List (Addr × Obj)} {s : Shared} {σ : St} {H : Hp} {x : Str} {u : Value} {pos : Pos} {Q : Value → Shared → Prop} (I : Inv X pins σ H s) (hg : Gl X x) (hm : X.mg x = none) (hv : bootBuiltins x = some u) (h : Q u s)
    (hn : x ≠ "__name__" := by decide) (hd : (x == ("__debug__" : Str)) = false := by decide) : wpAny (model X.prog X.w) X.A (eval (.Name x pos) X.env) Q E s := by
  obtain ⟨mb, h1, h2⟩ := I.mod.blt
  exact Calls.Name_function_global I.ok.kind hg (Calls.loadGlobal_builtin (by rw [I.ok.glob]; exact I.mod.glob.keeps I.bk) hm (by rw [I.ok.blt]; exact h1.keeps I.bk) ((h2 x hn).trans hv) h) hd
theorem pe_glob {x : Str} {v : V} {u : Value} {pos : Pos} (hg : Gl X x) (hm : X.mg x = some u) (r : RelV v u) (hd : (x == ("__debug__" : Str)) = false := by decide) : PE X (.Name x pos) (tC v) :=
  fun _ _ _ H _ I h => ld_glob I hg hm ⟨v, H, I, r, h⟩ hd
def t2I (ta tb : TE) (k : Int → Int → Hp → Prop) : St → Hp → Prop := fun σ H => ta σ H fun x H1 => tb σ H1 fun y H2 => ∃ i j, x = .int i ∧ y = .int j ∧ k i j H2
def tAdd (ta tb : TE) : TE := fun σ H Q => t2I ta tb (fun i j H2 => Q (.int (i + j)) H2) σ H
def tSub (ta tb : TE) : TE := fun σ H Q => t2I ta tb (fun i j H2 => Q (.int (i - j)) H2) σ H
def tMul (ta tb : TE) : TE := fun σ H Q => t2I ta tb (fun i j H2 => (-(2 ^ 64) < i ∧ i < 2 ^ 64) ∧ Q (.int (i * j)) H2) σ H
variable {a b : Expr} {ta tb : TE} {pos : Pos}
def PC (X : Cx) (op : CmpOp) (a b : Expr) (t : TE) : Prop :=
  ∀ (pins : List (Addr × Obj)) (s : Shared) (σ : St) (H : Hp) (Q : VK), Inv X pins σ H s → t σ H Q →
    wpAny (model X.prog X.w) X.A (eval a X.env) (fun v s₁ => wpAny (model X.prog X.w) X.A (eval b X.env) (fun u s₂ => wpAny (model X.prog X.w) X.A (compareOp op v u) (EP X pins σ Q) X.xe s₂) X.xe s₁) X.xe s
def tCmp (p : Int → Int → Bool) (ta tb : TE) : TE := fun σ H Q => t2I ta tb (fun i j H2 => Q (.bl (p i j)) H2) σ H
abbrev tLt : TE → TE → TE := tCmp fun i j => decide (i < j)
abbrev tLe : TE → TE → TE := tCmp fun i j => decide (i ≤ j)
abbrev tGt : TE → TE → TE := tCmp fun i j => decide (j < i)
abbrev tGe : TE → TE → TE := tCmp fun i j => decide (j ≤ i)
abbrev tEqI : TE → TE → TE := tCmp fun i j => decide (i = j)
abbrev tNeI : TE → TE → TE := tCmp fun i j => !decide (i = j)
def tIsN (ta : TE) : TE := fun σ H Q => ta σ H fun x H1 => Q (.bl (decide (x = .non))) H1
def tNotN (ta : TE) : TE := fun σ H Q => ta σ H fun x H1 => Q (.bl (!decide (x = .non))) H1
def tB (t : TE) : TT := fun σ H Q => t σ H fun x H1 => ∃ c, x = .bl c ∧ Q c H1
theorem pt_val {e : Expr} {t : TE} (h : PE X e t) (he : ∀ whole, isTrue e X.env whole = (do let v ← whole; standAt e.pos; holding [v] (truthy v)) := by intro _; rfl) : PT X e (tB t) := by
  intro pins s σ H Q I hw
  refine isTrue_plain (thn (h pins s σ H _ I hw) fun v s1 ⟨x, H1, I1, r1, q1⟩ => ?_) (he _)
  obtain ⟨d, rfl, q⟩ := q1
  cases r1
  exact wpAny_truthy_bool ⟨H1, I1, q⟩
variable {tA tB' : TT} {rest : List Expr}
def tAnd (t u : TT) : TT := fun σ H Q => t σ H fun c H1 => if c = true then u σ H1 Q else Q false H1
def tOr (t u : TT) : TT := fun σ H Q => t σ H fun c H1 => if c = true then Q true H1 else u σ H1 Q
def tNot (t : TT) : TT := fun σ H Q => t σ H fun c H1 => Q (!c) H1
theorem pw_and1 (ha : PT X a tA) : PW X (.BoolOp .And [a] pos) tA := by
  intro wh pins s σ H Q I h
  refine isTrue_and (thn (ha pins s σ H Q I h) fun c s1 e => ?_)
  cases c with
  | true => exact isTrue_and_nil e
  | false => exact e
theorem pw_or1 (ha : PT X a tA) : PW X (.BoolOp .Or [a] pos) tA := by
  intro wh pins s σ H Q I h
  refine isTrue_or (thn (ha pins s σ H Q I h) fun c s1 e => ?_)
  cases c with
  | false => exact isTrue_or_nil e
  | true => exact e
theorem pw_and (ha : PT X a tA) (hb : PW X (.BoolOp .And (b :: rest) pos) tB') : PW X (.BoolOp .And (a :: b :: rest) pos) (tAnd tA tB') := by
  intro wh pins s σ H Q I h
  refine isTrue_and (thn (ha pins s σ H _ I h) fun c s1 ⟨H1, I1, q1⟩ => ?_)
  cases c with
  | true => exact hb wh pins s1 σ H1 Q I1 q1
  | false => exact ⟨H1, I1, q1⟩
theorem pw_or (ha : PT X a tA) (hb : PW X (.BoolOp .Or (b :: rest) pos) tB') : PW X (.BoolOp .Or (a :: b :: rest) pos) (tOr tA tB') := by
  intro wh pins s σ H Q I h
  refine isTrue_or (thn (ha pins s σ H _ I h) fun c s1 ⟨H1, I1, q1⟩ => ?_)
  cases c with
  | true => exact ⟨H1, I1, q1⟩
  | false => exact hb wh pins s1 σ H1 Q I1 q1
theorem pt_not (ha : PT X a tA) : PT X (.UnaryOp .Not a pos) (tNot tA) := by
  intro pins s σ H Q I h
  exact isTrue_not (ha pins s σ H (fun c H1 => Q (!c) H1) I h)
def tAndV (ta tb : TE) : TE := fun σ H Q => ta σ H fun x H1 => ∃ c, x = .bl c ∧ if c = true then tb σ H1 Q else Q (.bl false) H1
def tOrV (ta tb : TE) : TE := fun σ H Q => ta σ H fun x H1 => ∃ c, x = .bl c ∧ if c = true then Q (.bl true) H1 else tb σ H1 Q
def tNotV (ta : TE) : TE := fun σ H Q => ta σ H fun x H1 => ∃ c, x = .bl c ∧ Q (.bl (!c)) H1
theorem pe_one {op} {t : TE} (h : PE X a t) : PE X (.BoolOp op [a] pos) t := fun pins s σ H Q I hw => BoolOp_one (h pins s σ H Q I hw)
theorem pe_and (ha : PE X a ta) (hb : PE X (.BoolOp .And (b :: rest) pos) tb) : PE X (.BoolOp .And (a :: b :: rest) pos) (tAndV ta tb) := by
  intro pins s σ H Q I h
  refine BoolOp_and (thn (ha pins s σ H _ I h) fun v s1 ⟨x, H1, I1, r1, q1⟩ => ?_)
  obtain ⟨c, rfl, q1⟩ := q1
  cases r1
  refine wpAny_truthy_bool ?_
  cases c with
  | true => exact hb pins s1 σ H1 Q I1 q1
  | false => exact ⟨.bl false, H1, I1, rfl, q1⟩
theorem pe_or (ha : PE X a ta) (hb : PE X (.BoolOp .Or (b :: rest) pos) tb) : PE X (.BoolOp .Or (a :: b :: rest) pos) (tOrV ta tb) := by
  intro pins s σ H Q I h
  refine BoolOp_or (thn (ha pins s σ H _ I h) fun v s1 ⟨x, H1, I1, r1, q1⟩ => ?_)
  obtain ⟨c, rfl, q1⟩ := q1
  cases r1
  refine wpAny_truthy_bool ?_
  cases c with
  | false => exact hb pins s1 σ H1 Q I1 q1
  | true => exact ⟨.bl true, H1, I1, rfl, q1⟩
def tIf (t : TT) (ta tb : TE) : TE := fun σ H Q => t σ H fun c H1 => if c = true then ta σ H1 Q else tb σ H1 Q
theorem pe_ifExp {c : Expr} (hc : PT X c tA) (ha : PE X a ta) (hb : PE X b tb) : PE X (.IfExp c a b pos) (tIf tA ta tb) := by
  intro pins s σ H Q I h
  refine wpAny_IfExp (thn (hc pins s σ H _ I h) fun d s1 ⟨H1, I1, q1⟩ => ?_)
  cases d with
  | true => exact ha pins s1 σ H1 Q I1 q1
  | false => exact hb pins s1 σ H1 Q I1 q1
end
end L2
namespace L2
open PySem PySem.Spec PyProof.Rows
def SqL (K : PySem.W.Frag) (H : Hp) (a : Addr) (xs : List V) : Prop :=
  Rd H a (.lst xs) ∨
    ∃ (o : Obj) (its : Array Value) (n : Nat), K.lookup a = some o ∧ o.cls = .type "list" ∧ o.dict = none ∧ o.data = .seq its n ∧ its.size ≤ sizeLine ∧ Vals xs its.toList
def SqT (K : PySem.W.Frag) (H : Hp) (a : Addr) (xs : List V) : Prop :=
  Rd H a (.tup xs) ∨
    ∃ (o : Obj) (its : Array Value) (n : Nat), K.lookup a = some o ∧ o.cls = .type "tuple" ∧ o.data = .seq its n ∧ its.size ≤ sizeLine ∧ Vals xs its.toList
def absV : Value → Option V
  | .none => some .non
  | .bool b => some (.bl b)
  | .int i _ => some (.int i)
  | .str x _ => some (.str x)
  | .bytes b _ => some (.byt b)
  | .float b _ => some (.flt b)
  | .ref a => some (.ref a)
  | .type n => some (.ty n)
  | _ => none
theorem RelV.abs {x : V} {u : Value} (r : RelV x u) : absV u = some x := by
  cases x with
  | non => cases r; rfl
  | bl _ => cases r; rfl
  | int _ => obtain ⟨t, rfl⟩ := r; rfl
  | str _ => obtain ⟨t, rfl⟩ := r; rfl
  | byt _ => obtain ⟨t, rfl⟩ := r; rfl
  | flt _ => obtain ⟨t, rfl⟩ := r; rfl
  | ref _ => cases r; rfl
  | ty _ => cases r; rfl
theorem RelV.inj {x y : V} {u : Value} (r : RelV x u) (q : RelV y u) : x = y := Option.some.inj (r.abs.symm.trans q.abs)
theorem Vals.inj : ∀ {xs ys : List V} {us : List Value}, Vals xs us → Vals ys us → xs = ys
  | _, _, _, .nil, .nil => rfl
  | _, _, _, .cons r t, .cons r' t' => by rw [r.inj r', Vals.inj t t']
section
variable {X : Cx} {pins : List (Addr × Obj)} {σ : St} {H : Hp} {s : Shared} {a : Addr} {xs ys : List V}
theorem SqL.of {K : PySem.W.Frag} (h : H a = some (.lst xs)) : SqL K H a xs := .inl (.inl h)
theorem SqT.of {K : PySem.W.Frag} (h : H a = some (.tup xs)) : SqT K H a xs := .inl (.inl h)
theorem Inv.list (I : Inv X pins σ H s) (h : SqL X.K H a xs) : ∃ its : List Value, Vals xs its ∧ PlainL s.heap a its.toArray ∧ xs.length ≤ sizeLine := by
  rcases h with h | ⟨o, its, n, hk, hc, hd, hs, hz, r⟩
  · obtain ⟨z, its, n, r, e⟩ := h.ok I.hok
    exact ⟨its, r, ⟨_, n, e, rfl, rfl, rfl⟩, z⟩
  · refine ⟨its.toList, r, ⟨o, n, I.kIn a o hk, hc, hd, by simpa using hs⟩, ?_⟩
    have e := r.length
    simp only [Array.length_toList] at e
    omega
theorem Inv.tuple (I : Inv X pins σ H s) (h : SqT X.K H a xs) : ∃ its : List Value, Vals xs its ∧ IsTup s.heap a its.toArray ∧ xs.length ≤ sizeLine := by
  rcases h with h | ⟨o, its, n, hk, hc, hs, hz, r⟩
  · obtain ⟨z, its, r, p⟩ := h.ok I.hok
    exact ⟨its, r, p, z⟩
  · refine ⟨its.toList, r, ⟨o, I.kIn a o hk, hc, n, by simpa using hs⟩, ?_⟩
    have e := r.length
    simp only [Array.length_toList] at e
    omega
theorem Inv.list_inj (I : Inv X pins σ H s) (h : SqL X.K H a xs) (h' : SqL X.K H a ys) : xs = ys := by
  obtain ⟨its, r, ⟨o, n, e, _, _, d⟩, _⟩ := I.list h
  obtain ⟨its', r', ⟨o', n', e', _, _, d'⟩, _⟩ := I.list h'
  rw [e] at e'; cases e'
  rw [d] at d'
  injection d' with d1 _
  have : its = its' := by simpa using congrArg Array.toList d1
  subst this
  exact r.inj r'
end
abbrev Cx.wish (X : Cx) (E : Value → Shared → Prop) : Cx := { X with xe := E }
abbrev Cx.nox (X : Cx) : Cx := X.wish fun _ _ => False
theorem Cx.Ok.wish {X : Cx} (ok : X.Ok) (E : Value → Shared → Prop) : (X.wish E).Ok :=
  ⟨ok.mod, ok.kind, ok.glob, ok.blt, ok.above, ok.inj, ok.has, ok.cab, ok.hd, ok.frames, ok.stk, ok.exf, ok.bs, ok.bsz, ok.noex, ok.exfs, ok.funs, ok.frf⟩
theorem Cx.Ok.unwish {X : Cx} {E : Value → Shared → Prop} (ok : (X.wish E).Ok) : X.Ok :=
  ⟨ok.mod, ok.kind, ok.glob, ok.blt, ok.above, ok.inj, ok.has, ok.cab, ok.hd, ok.frames, ok.stk, ok.exf, ok.bs, ok.bsz, ok.noex, ok.exfs, ok.funs, ok.frf⟩
section
variable {X : Cx} {pins : List (Addr × Obj)} {σ : St} {H : Hp} {s : Shared} {E : Value → Shared → Prop}
theorem Inv.wish (I : Inv X pins σ H s) (E : Value → Shared → Prop) : Inv (X.wish E) pins σ H s := ⟨I.ok.wish E, I.os, I.bare, I.base, I.loc, I.cell, I.free, I.freeC, I.pin, I.hok, I.len⟩
theorem Inv.unwish (I : Inv (X.wish E) pins σ H s) : Inv X pins σ H s := ⟨I.ok.unwish, I.os, I.bare, I.base, I.loc, I.cell, I.free, I.freeC, I.pin, I.hok, I.len⟩
theorem SP.unwish {D : Ends} {f : Flow} {s' : Shared} (h : SP (X.wish E) pins D f s') : SP X pins D f s' := by
  cases f with
  | next => obtain ⟨σ', H', I, q⟩ := h; exact ⟨σ', H', I.unwish, q⟩
  | brk => obtain ⟨σ', H', I, q⟩ := h; exact ⟨σ', H', I.unwish, q⟩
  | cont => obtain ⟨σ', H', I, q⟩ := h; exact ⟨σ', H', I.unwish, q⟩
  | ret u => obtain ⟨v, σ', H', I, r, q⟩ := h; exact ⟨v, σ', H', I.unwish, r, q⟩
theorem PSs.nox {st : List Stmt} {t : TS} (h : PSs X.nox st t) : PSs X st t := fun pins s σ H D I hw =>
  wpAny_mono (h pins s σ H D (I.wish _) hw) (fun _ _ q => q.unwish) fun _ _ z => False.elim z
end
section
variable {X : Cx} {st : Stmt} {rest : List Stmt} {t u : TS} {e : Expr} {te : TE} {pos : Pos}
def tNext : TS := fun D σ H => D.nx σ H
def tSeq (t u : TS) : TS := fun D σ H => t { D with nx := u D } σ H
theorem pss_nil : PSs X [] tNext := fun _ _ σ H _ I h => wpAny_execs_nil ⟨σ, H, I, h⟩
theorem pss_cons (h1 : PS X st t) (h2 : PSs X rest u) : PSs X (st :: rest) (tSeq t u) := by
  intro pins s σ H D I h
  refine wpAny_execs_cons (thn (h1 pins s σ H { D with nx := u D } I h) fun f s1 q => ?_)
  cases f with
  | next =>
    obtain ⟨σ', H', I', q⟩ := q
    exact h2 pins s1 σ' H' D I' q
  | ret v => exact q
  | brk => exact q
  | cont => exact q
theorem pss_one (h1 : PS X st t) : PSs X [st] t := by
  intro pins s σ H D I h
  refine wpAny_execs_cons (thn (h1 pins s σ H D I h) fun f s1 q => ?_)
  cases f with
  | next => exact wpAny_execs_nil q
  | ret v => exact q
  | brk => exact q
  | cont => exact q
def tBreak : TS := fun D σ H => D.bk σ H
def tCont : TS := fun D σ H => D.ct σ H
theorem Inv.quiet {pins : List (Addr × Obj)} {σ : St} {H : Hp} {s : Shared} (I : Inv X pins σ H s) : interactive X.env = false := by simp [interactive, I.ok.kind]
def tDrop (te : TE) : TS := fun D σ H => te σ H fun _ H1 => D.nx σ H1
theorem ps_expr (he : PE X e te) (hs : swapsWith e none pos.line X.env = pure false := by rfl) : PS X (.Expr e pos) (tDrop te) := by
  intro pins s σ H D I h
  exact wpAny_Expr_any (thn (he pins s σ H _ I h) fun v s1 ⟨x, H1, I1, r1, q1⟩ => ⟨σ, H1, I1, q1⟩) I.quiet hs
def tRet (te : TE) : TS := fun D σ H => te σ H D.rt
theorem ps_ret (he : PE X e te) : PS X (.Return (some e) pos) (tRet te) := by
  intro pins s σ H D I h
  exact wpAny_Return_some (thn (he pins s σ H _ I h) fun v s1 ⟨x, H1, I1, r1, q1⟩ => ⟨x, σ, H1, I1, r1, q1⟩)
def tRetN : TS := fun D _ H => D.rt .non H
def tIfS (c : TT) (t u : TS) : TS := fun D σ H => c σ H fun b H1 => if b = true then t D σ H1 else u D σ H1
theorem ps_if {c : Expr} {a b : List Stmt} {tc : TT} (hc : PT X c tc) (ha : PSs X a t) (hb : PSs X b u) : PS X (.If c a b pos) (tIfS tc t u) := by
  intro pins s σ H D I h
  refine wpAny_If (thn (hc pins s σ H _ I h) fun d s1 ⟨H1, I1, q1⟩ => ?_)
  cases d with
  | true => exact ha pins s1 σ H1 D I1 q1
  | false => exact hb pins s1 σ H1 D I1 q1
def tNever : TS := fun _ _ _ => False
end
abbrev TG := V → St → Hp → (St → Hp → Prop) → Prop
abbrev TGs := List V → St → Hp → (St → Hp → Prop) → Prop
def PG (X : Cx) (target : Expr) (t : TG) : Prop :=
  ∀ (pins : List (Addr × Obj)) (s : Shared) (σ : St) (H : Hp) (v : V) (u : Value) (Q : St → Hp → Prop), Inv X pins σ H s → RelV v u → t v σ H Q →
    wpAny (model X.prog X.w) X.A (assign target X.env u) (fun _ s' => ∃ σ' H', Inv X pins σ' H' s' ∧ Q σ' H') X.xe s
def PGs (X : Cx) (ts : List Expr) (t : TGs) : Prop :=
  ∀ (pins : List (Addr × Obj)) (s : Shared) (σ : St) (H : Hp) (vs : List V) (us : List Value) (Q : St → Hp → Prop), Inv X pins σ H s → Vals vs us → t vs σ H Q →
    wpAny (model X.prog X.w) X.A (assignInOrder ((assignEach ts X.env).map (·.2)) us) (fun _ s' => ∃ σ' H', Inv X pins σ' H' s' ∧ Q σ' H') X.xe s
abbrev TSet := V → V → V → Hp → (Hp → Prop) → Prop
def PSet (X : Cx) (t : TSet) : Prop :=
  ∀ (pins : List (Addr × Obj)) (s : Shared) (σ : St) (H : Hp) (o i v : V) (ov iv u : Value) (Q : Hp → Prop), Inv X pins σ H s → RelV o ov → RelV i iv → RelV v u → t o i v H Q →
    wpAny (model X.prog X.w) X.A (setItem ov iv u) (fun _ s' => ∃ H', Inv X pins σ H' s' ∧ Q H') X.xe s
abbrev TIp := V → V → Hp → VK → Prop
def PIp (X : Cx) (op : Operator) (t : TIp) : Prop :=
  ∀ (pins : List (Addr × Obj)) (s : Shared) (σ : St) (H : Hp) (x y : V) (v u : Value) (Q : VK), Inv X pins σ H s → RelV x v → RelV y u → t x y H Q →
    wpAny (model X.prog X.w) X.A (inplaceOp op v u) (EP X pins σ Q) X.xe s
section
variable {X : Cx} {pos : Pos}
def gName (i : Nat) : TG := fun v σ H Q => Q (σ.set i (some v)) H
theorem pg_name {i : Nat} {x : Str} (hN : X.N.Nodup) (hi : X.N[i]? = some x) (hx : Loc X.env.scope x) (hf : X.fn x = true ∨ X.env.scope.names.lookup x = some .local := by first | exact .inl rfl | exact .inr rfl | assumption) : PG X (.Name x pos) (gName i) := by
  intro pins s σ H v u Q I r h
  exact wpAny_assign_Name (store_ok I hN hi hx r (fun s' I' => ⟨_, H, I', h⟩) hf)
def gNil : TGs := fun vs σ H Q => vs = [] ∧ Q σ H
def gCons (t : TG) (u : TGs) : TGs := fun vs σ H Q => ∃ v r, vs = v :: r ∧ t v σ H fun σ' H' => u r σ' H' Q
theorem pgs_nil : PGs X [] gNil := by
  intro pins s σ H vs us Q I r h
  obtain ⟨e, h⟩ := h
  subst e
  cases r
  exact assignInOrder_nil ⟨σ, H, I, h⟩
theorem pgs_cons {e : Expr} {es : List Expr} {t : TG} {u : TGs} (h1 : PG X e t) (h2 : PGs X es u)
    (hs : (assignEach (e :: es) X.env).map (·.2) = assign e X.env :: (assignEach es X.env).map (·.2) := by rfl) : PGs X (e :: es) (gCons t u) := by
  intro pins s σ H vs us Q I r h
  obtain ⟨v, vr, e1, h⟩ := h
  subst e1
  cases r with
  | cons r rr =>
    rw [hs]
    refine assignInOrder_cons (thn (h1 pins s σ H _ _ _ I r h) fun _ s1 ⟨σ1, H1, I1, q1⟩ => ?_)
    exact h2 pins s1 σ1 H1 _ _ Q I1 rr q1
def gTup (K : PySem.W.Frag) (n : Nat) (t : TGs) : TG := fun v σ H Q => ∃ a xs, v = .ref a ∧ SqT K H a xs ∧ xs.length = n ∧ t xs σ H Q
theorem pg_tup {es : List Expr} {k : Nat} {t : TGs} {n : Nat} (hc : X.calm = true) (h : PGs X es t)
    (hn : (assignEach es X.env).length = n := by rfl) (hst : (assignEach es X.env).findIdx? (·.1) = none := by rfl) : PG X (.Tuple es k pos) (gTup X.K n t) := by
  intro pins s σ H v u Q I r hw
  obtain ⟨a, xs, e1, hq, hl, hw⟩ := hw
  subst e1
  cases r
  obtain ⟨its, rv, ht, hz⟩ := I.tuple hq
  refine assign_Tuple_tuple (I.ok.hd hc) ht (by simp [hn, ← hl, rv.length]) hst fun h' hx => ?_
  have I1 : Inv X pins σ H { s with heap := h' } := I.kept (t' := s.toks) fun b o e => hx b o (Nat.ne_of_lt (Heap.lt_size e)) e
  exact h pins _ σ H xs _ Q I1 (by simpa using rv) hw
def gSub (to ti : TE) (t : TSet) : TG := fun v σ H Q => to σ H fun o H1 => ti σ H1 fun i H2 => t o i v H2 fun H3 => Q σ H3
theorem pg_sub {o i : Expr} {to ti : TE} {t : TSet} (ho : PE X o to) (hi : PE X i ti) (hs : PSet X t)
    (ha : ∀ v, assign (.Subscript o i pos) X.env v = (do
      let ov ← holding [v] (eval o X.env)
      let iv ← holding [v, ov] (eval i X.env)
      standAt pos
      holding [v, ov, iv] (setItem ov iv v)
      release [v, ov, iv] []) := by intro _; rfl) : PG X (.Subscript o i pos) (gSub to ti t) := by
  intro pins s σ H v u Q I r h
  rw [ha]
  refine wpAny_bind (wpAny_holding (thn (ho pins s σ H _ I h) fun ov s1 ⟨x, H1, I1, r1, q1⟩ => ?_))
  refine wpAny_bind (wpAny_holding (thn (hi pins s1 σ H1 _ I1 q1) fun iv s2 ⟨y, H2, I2, r2, q2⟩ => ?_))
  refine wpAny_bind (wpAny_standAt (wpAny_bind (wpAny_holding (thn (hs pins s2 σ H2 x y v ov iv u _ I2 r1 r2 r q2) fun _ s3 ⟨H3, I3, q3⟩ => ?_))))
  exact wpAny_release ⟨σ, H3, I3, q3⟩
def tAsg (te : TE) (g : TG) : TS := fun D σ H => te σ H fun x H1 => g x σ H1 D.nx
theorem ps_asg {tg e : Expr} {te : TE} {g : TG} (he : PE X e te) (hg : PG X tg g) (hs : swapsWithSole [tg] e pos.line X.env = pure false := by rfl) (hw : swappedStores [tg] e X.env = pure none := by rfl)
    (h1 : (assignEach [tg] X.env).map (·.2) = [assign tg X.env] := by rfl) : PS X (.Assign [tg] e pos) (tAsg te g) := by
  intro pins s σ H D I h
  refine wpAny_Assign_stores (thn (he pins s σ H _ I h) fun v s1 ⟨x, H1, I1, r1, q1⟩ => ?_) hs hw
  rw [h1]
  exact thn (hg pins s1 σ H1 x v _ I1 r1 q1) fun _ s2 q => q
theorem ps_set {i : Nat} {x : Str} {e : Expr} {te : TE} {pos' : Pos} (hN : X.N.Nodup) (hi : X.N[i]? = some x) (hx : Loc X.env.scope x) (he : PE X e te) (hs : swapsWith e (some (.Name x pos')) pos.line X.env = pure false := by rfl) (hf : X.fn x = true ∨ X.env.scope.names.lookup x = some .local := by first | exact .inl rfl | exact .inr rfl | assumption) :
    PS X (.Assign [.Name x pos'] e pos) (tAsg te (gName i)) := by
  intro pins s σ H D I h
  refine wpAny_Assign_Name (thn (he pins s σ H _ I h) fun v s1 ⟨y, H1, I1, r1, q1⟩ => ?_) hs
  exact store_ok I1 hN hi hx r1 (fun s2 I2 => ⟨_, H1, I2, q1⟩) hf
def tPar (i j : Nat) (ta : TA) : TS := fun D σ H => ta σ H fun vs H1 => ∃ v w, vs = [v, w] ∧ D.nx ((σ.set i (some v)).set j (some w)) H1
def tAug (i : Nat) (te : TE) (ti : TIp) : TS := fun D σ H => ∃ x, σ[i]? = some (some x) ∧ te σ H fun y H1 => ti x y H1 fun z H2 => D.nx (σ.set i (some z)) H2
theorem ps_aug {i : Nat} {x : Str} {e : Expr} {te : TE} {op : Operator} {ti : TIp} {pos' : Pos} (hN : X.N.Nodup) (hi : X.N[i]? = some x) (hx : Loc X.env.scope x) (he : PE X e te) (ho : PIp X op ti) (hf : X.fn x = true ∨ X.env.scope.names.lookup x = some .local := by first | exact .inl rfl | exact .inr rfl | assumption) :
    PS X (.AugAssign (.Name x pos') op e pos) (tAug i te ti) := by
  intro pins s σ H D I h
  obtain ⟨v, e1, h⟩ := h
  obtain ⟨m, hn, hl⟩ := I.loc
  have vis : Vis X.env.scope x := by rcases hx with k | k; exact .inl k; exact .inr (.inl k)
  obtain ⟨u, r, l⟩ := hl i x v hi e1 vis
  refine wpAny_AugAssign_Name ?_
  have go : wpAny (model X.prog X.w) X.A (eval e X.env) (fun w s₂ => wpAny (model X.prog X.w) X.A (inplaceOp op u w) (fun r s₃ => wpAny (model X.prog X.w) X.A (storeName X.env x r) (fun _ => SP X pins D .next) X.xe s₃) X.xe s₂) X.xe s := by
    refine thn (he pins s σ H _ I h) fun w s1 ⟨y, H1, I1, r1, q1⟩ => ?_
    refine thn (ho pins s1 σ H1 v y u w _ I1 r r1 q1) fun z s2 ⟨zv, H2, I2, r2, q2⟩ => ?_
    exact store_ok I2 hN hi hx r2 (fun s3 I3 => ⟨_, H2, I3, q2⟩) hf
  rcases l with ⟨hk, hm⟩ | ⟨hk, c, hc, hcell⟩
  · exact wpAny_loadName_local I.ok.kind hk hn hm go
  · rcases hk with hk | hk
    · exact wpAny_loadName_cell I.ok.kind hk hc hcell go
    · rcases hx with k | k
      · have : X.env.scope.names.lookup x = some .free := hk
        rw [k] at this; cases this
      · have : X.env.scope.names.lookup x = some .free := hk
        rw [k] at this; cases this
def tAugS (to ti te : TE) (tget : V → V → Hp → VK → Prop) (tip : TIp) (tset : TSet) : TS := fun D σ H => to σ H fun o H1 => ti σ H1 fun i H2 => tget o i H2 fun x H3 => te σ H3 fun y H4 => tip x y H4 fun z H5 => tset o i z H5 fun H6 => D.nx σ H6
def PGet (X : Cx) (t : V → V → Hp → VK → Prop) : Prop :=
  ∀ (pins : List (Addr × Obj)) (s : Shared) (σ : St) (H : Hp) (o i : V) (ov iv : Value) (Q : VK), Inv X pins σ H s → RelV o ov → RelV i iv → t o i H Q →
    wpAny (model X.prog X.w) X.A (getItem ov iv) (EP X pins σ Q) X.xe s
def ipI (f : Int → Int → Int) : TIp := fun x y H Q => ∃ i j, x = .int i ∧ y = .int j ∧ Q (.int (f i j)) H
theorem ip_add : PIp X .Add (ipI fun i j => i + j) := by
  intro pins s σ H x y v u Q I r1 r2 h
  obtain ⟨i, j, e1, e2, q⟩ := h
  subst e1; subst e2
  obtain ⟨t, rfl⟩ := r1
  obtain ⟨t', rfl⟩ := r2
  exact iadd_int ⟨.int _, H, I.tok _, ⟨_, rfl⟩, q⟩
end
section
variable {X : Cx} {pos : Pos}
def tWhile (c : TT) (tb : TS) : TS := fun D σ H => ∃ W : Nat → St → Hp → Prop, (∃ m, W m σ H) ∧ ∀ m σ H, W m σ H →
  c σ H fun b H1 => if b = true then ∃ N : St → Hp → Prop, (∀ σ' H', N σ' H' → ∃ m', m' < m ∧ W m' σ' H') ∧ tb { D with nx := N, ct := N, bk := D.nx } σ H1 else D.nx σ H1
theorem ps_while {c : Expr} {body : List Stmt} {tc : TT} {tb : TS} (hp : PassesOwn (model X.prog X.w) X.A X.env X.xe) (hc : PT X c tc) (hb : PSs X body tb) : PS X (.While c body [] pos) (tWhile tc tb) := by
  intro pins s σ H D I h
  obtain ⟨W, ⟨m0, w0⟩, turn⟩ := h
  refine wpAny_While (codeAny_whileLoop (fun n s' => ∃ σ' H', Inv X pins σ' H' s' ∧ W n σ' H') ?_ m0 ⟨σ, H, I, w0⟩)
  rintro n s1 ⟨σ1, H1, I1, w1⟩
  refine wpAny_passesOwn hp (thn (hc pins s1 σ1 H1 _ I1 (turn n σ1 H1 w1)) fun b s2 ⟨H2, I2, q2⟩ => ?_)
  cases b with
  | true =>
    obtain ⟨N, hN, q2⟩ := q2
    rw [if_pos rfl]
    refine wpAny_passesOwn hp (thn (hb pins s2 σ1 H2 _ I2 q2) fun f s3 q3 => ?_)
    cases f with
    | next =>
      obtain ⟨σ3, H3, I3, n3⟩ := q3
      obtain ⟨m', hm, w3⟩ := hN σ3 H3 n3
      exact ⟨m', hm, σ3, H3, I3, w3⟩
    | cont =>
      obtain ⟨σ3, H3, I3, n3⟩ := q3
      obtain ⟨m', hm, w3⟩ := hN σ3 H3 n3
      exact ⟨m', hm, σ3, H3, I3, w3⟩
    | brk => exact q3
    | ret v => exact q3
  | false =>
    rw [if_neg Bool.false_ne_true]
    exact wpAny_execs_nil ⟨σ1, H2, I2, q2⟩
end
structure It where
  go : Nat → Hp → Prop
  yld : Nat → Hp → V → Hp → Prop
  stop : Nat → Hp → Prop
def FpOk (X : Cx) (pins : List (Addr × Obj)) (H : Hp) (b : Addr) : Prop :=
  H b = none ∧ b ≠ X.env.locals ∧ b ∉ X.fs ∧ (b ∈ X.ex ∨ X.s_0.heap.objs.size ≤ b) ∧ (∀ x c, X.env.cells.lookup x = some c → c ≠ b) ∧ ∀ p ∈ X.pn ++ pins, p.1 ≠ b
theorem Inv.fpOk {X : Cx} {pins : List (Addr × Obj)} {σ : St} {H H' : Hp} {s : Shared} {b : Addr} (I : Inv X pins σ H s) (hb : s.heap.objs.size ≤ b) (hn : H' b = none) : FpOk X pins H' b := by
  refine ⟨hn, Nat.ne_of_gt (Nat.lt_of_lt_of_le I.lt hb), I.nofs hb, .inr (Nat.le_trans I.sz hb), fun x c e z => ?_, fun p hp z => ?_⟩
  · obtain ⟨v, q⟩ := I.cell x c e
    exact absurd (Nat.lt_of_lt_of_le q.lt (by rw [z]; exact hb)) (Nat.lt_irrefl _)
  · exact absurd (Nat.lt_of_lt_of_le (Heap.lt_size (I.pin p hp).1) (by rw [z]; exact hb)) (Nat.lt_irrefl _)
structure Turn (P : Program) (w : World) (K : PySem.W.Frag) (tg : Expr) (J : It) (fp : List Addr) (it : Addr) (tn : Nat → Heap → Prop) : Prop where
  mem : it ∈ fp
  obj : ∀ i h, tn i h → ∀ b ∈ fp, ∃ o, h.get? b = some o ∧ ∀ v, o.data ≠ .cell v
  keep : ∀ i h h', tn i h → (∀ b ∈ fp, ∀ o, h.get? b = some o → h'.get? b = some o) → tn i h'
  item : ∀ (X : Cx), X.prog = P → X.w = w → X.K = K → X.calm = true → ∀ (i : Nat) (pins : List (Addr × Obj)) (s : Shared) (σ : St) (H : Hp) (E : Value → Shared → Prop), Inv X pins σ H s → (∀ b ∈ fp, FpOk X pins H b) → tn i s.heap → J.go i H →
    wpAny (model P w) X.A (pyNext (.ref it)) (fun r s1 => ∃ u, r = some u ∧
      wpAny (model P w) X.A (letOwnedTupleGo tg (.ref it) u) (fun _ s2 => ∃ x H', Inv X pins σ H' s2 ∧ RelV x u ∧ J.yld i H x H' ∧ tn (i + 1) s2.heap ∧ ∀ b ∈ fp, H' b = none) E s1) E s
  done : ∀ (X : Cx), X.prog = P → X.w = w → X.K = K → X.calm = true → ∀ (i : Nat) (pins : List (Addr × Obj)) (s : Shared) (σ : St) (H : Hp) (E : Value → Shared → Prop), Inv X pins σ H s → (∀ b ∈ fp, FpOk X pins H b) → tn i s.heap → J.stop i H →
    wpAny (model P w) X.A (pyNext (.ref it)) (fun r s1 => r = none ∧ Inv X pins σ H s1) E s
  self : ∀ (A : Around) (i : Nat) (s : Shared) (Q : Value → Shared → Prop) (E : Value → Shared → Prop), tn i s.heap → Q (.ref it) s → wpAny (model P w) A (pyIter (.ref it)) Q E s
abbrev TI := St → Hp → (It → Hp → Prop) → Prop
def PIE (X : Cx) (pins : List (Addr × Obj)) (σ : St) (tg : Expr) (R : It → Hp → Prop) (itv : Value) (s2 : Shared) : Prop :=
  ∃ (it : Addr) (fp : List Addr) (tn : Nat → Heap → Prop) (J : It) (H' : Hp), itv = .ref it ∧ Inv X pins σ H' s2 ∧ Turn X.prog X.w X.K tg J fp it tn ∧ tn 0 s2.heap ∧ (∀ b ∈ fp, FpOk X pins H' b) ∧ R J H'
def PI (X : Cx) (tg iter : Expr) (wi : TI) : Prop :=
  ∀ (pins : List (Addr × Obj)) (s : Shared) (σ : St) (H : Hp) (R : It → Hp → Prop), Inv X pins σ H s → wi σ H R →
    wpAny (model X.prog X.w) X.A (eval iter X.env) (fun v s1 => wpAny (model X.prog X.w) X.A (pyIter v) (PIE X pins σ tg R) X.xe s1) X.xe s
theorem go_of {M : Model} {A : Around} {E : Value → Shared → Prop} {s : Shared} {tg : Expr} {it : Addr} {u : Value} {o : Obj} {n : String} {vs : Array Value} {Q : Unit → Shared → Prop} (ho : s.heap.get? it = some o) (hc : o.cls = .type n) (hd : o.data = .fields vs)
    (hn : ["enumerate", "zip", "dict_itemiterator", "dict_reverseitemiterator", "odict_iterator", "itertools.zip_longest", "itertools.pairwise"].contains n = false) (hQ : Q () s) : wpAny M A (letOwnedTupleGo tg (.ref it) u) Q E s := by
  unfold letOwnedTupleGo
  cases tg <;> first
    | exact wpAny_pure hQ
    | (cases u <;> first
        | exact wpAny_pure hQ
        | (refine wpAny_bind (wpAny_load ho ?_)
           rw [hc, hd]
           show wpAny M A (if (["enumerate", "zip", "dict_itemiterator", "dict_reverseitemiterator", "odict_iterator", "itertools.zip_longest", "itertools.pairwise"].contains n && vs[0]? == some (rawInt _)) = true then _ else _) Q E s
           rw [if_neg (by intro h; rw [hn, Bool.false_and] at h; cases h)]
           exact wpAny_pure hQ))
def Itl (K : PySem.W.Frag) (a : Addr) : It :=
  ⟨fun i H => ∃ xs x, SqL K H a xs ∧ xs[i]? = some x, fun i H x H' => H' = H ∧ ∀ xs, SqL K H a xs → xs[i]? = some x, fun i H => ∃ xs, SqL K H a xs ∧ xs.length ≤ i⟩
def Itt (K : PySem.W.Frag) (a : Addr) : It :=
  ⟨fun i H => ∃ xs x, SqT K H a xs ∧ xs[i]? = some x, fun i H x H' => H' = H ∧ ∀ xs, SqT K H a xs → xs[i]? = some x, fun i H => ∃ xs, SqT K H a xs ∧ xs.length ≤ i⟩
def Itr (lo : Int) (n : Nat) : It := ⟨fun i _ => i < n, fun i H x H' => H' = H ∧ x = .int (lo + i), fun i _ => n ≤ i⟩
theorem turn_list {P : Program} {w : World} {K : PySem.W.Frag} {tg : Expr} (a it : Addr) : Turn P w K tg (Itl K a) [it] it (fun i h => h.IsListIter it a i) where
  mem := by simp
  obj := fun i h st b hb => by
    have e : b = it := by simpa using hb
    subst e
    obtain ⟨o, e, c, d⟩ := st
    exact ⟨o, e, fun v z => by rw [d] at z; cases z⟩
  keep := fun i h h' st k => st.at fun o e => k it (by simp) o e
  item := by
    intro X hP hw hK hc i pins s σ H E I hf st hg
    subst hP hw hK
    obtain ⟨xs, x, hq, hx⟩ := hg
    obtain ⟨its, rv, p, hz⟩ := I.list hq
    obtain ⟨u, hu, ru⟩ := rv.get hx
    obtain ⟨f0, f1, f2, f3, f4, f5⟩ := hf it (by simp)
    refine wpAny_pyNext_list_item st p.isList (x := u) (by simpa using hu) fun h' st' sb => ?_
    have I1 : Inv X pins σ H { s with heap := h' } := I.turned (t' := s.toks) (fun b o hb e => (sb.2 b hb).trans e) f0 f1 f3 f4 f5
    obtain ⟨o, e, c, d⟩ := id st'
    exact ⟨u, rfl, go_of (s := { s with heap := h' }) e c d (by decide) ⟨x, H, I1, ru, ⟨rfl, fun ys hy => by rw [I.list_inj hy hq]; exact hx⟩, st', fun b hb => (hf b hb).1⟩⟩
  done := by
    intro X hP hw hK hc i pins s σ H E I hf st hg
    subst hP hw hK
    obtain ⟨xs, hq, hx⟩ := hg
    obtain ⟨its, rv, p, hz⟩ := I.list hq
    obtain ⟨f0, f1, f2, f3, f4, f5⟩ := hf it (by simp)
    have hl := rv.length
    exact wpAny_pyNext_list_end (I.ok.hd hc) st p.isList (by simp; omega) fun h' eb => ⟨rfl, I.turned (t' := s.toks) (fun b o hb e => eb b o hb e) f0 f1 f3 f4 f5⟩
  self := fun _ _ _ _ _ st h => wpAny_pyIter_listiter st h
theorem turn_range {P : Program} {w : World} {K : PySem.W.Frag} {tg : Expr} (it : Addr) (lo : Int) (n : Nat) : Turn P w K tg (Itr lo n) [it] it (fun i h => IsRangeIter h it (lo + (i : Nat) * 1) ((n : Int) - (i : Nat)) 1) where
  mem := by simp
  obj := fun i h st b hb => by
    have e : b = it := by simpa using hb
    subst e
    exact ⟨_, st, fun v z => by
      have z' : Data.fields _ = Data.cell v := z
      cases z'⟩
  keep := fun i h h' st k => k it (by simp) _ st
  item := by
    intro X hP hw hK hc i pins s σ H E I hf st hg
    subst hP hw hK
    obtain ⟨f0, f1, f2, f3, f4, f5⟩ := hf it (by simp)
    have W := Walks.range (prog := X.prog) (w := X.w) (I.ok.hd hc) it lo 1 n
    refine W.item i s _ _ hg st fun v h' tk hv st' kk => ?_
    obtain ⟨t, rfl⟩ := hv
    have I1 : Inv X pins σ H { s with heap := h', toks := tk } := I.turned (fun b o hb e => kk b o (by simpa using hb) e) f0 f1 f3 f4 f5
    refine ⟨_, rfl, go_of (s := { s with heap := h', toks := tk }) (n := "range_iterator") st' rfl rfl (by decide) ⟨.int (lo + i), H, I1, ⟨t, ?_⟩, ⟨rfl, rfl⟩, st', fun b hb => (hf b hb).1⟩⟩
    rw [Int.mul_one]
  done := by
    intro X hP hw hK hc i pins s σ H E I hf st hg
    subst hP hw hK
    obtain ⟨f0, f1, f2, f3, f4, f5⟩ := hf it (by simp)
    exact wpAny_pyNext_range_end (I.ok.hd hc) st (by have : n ≤ i := hg; omega) fun h' eb => ⟨rfl, I.turned (t' := s.toks) (fun b o hb e => eb b o hb e) f0 f1 f3 f4 f5⟩
  self := fun _ _ _ _ _ st h => wpAny_pyIter_rangeiter st h
end L2
namespace L2
open PySem PySem.Spec PyProof.Rows
section
variable {X : Cx} {tg : Expr}
def iList (K : PySem.W.Frag) (tl : TE) : TI := fun σ H R => tl σ H fun x H1 => ∃ a, x = .ref a ∧ (∃ xs, SqL K H1 a xs) ∧ R (Itl K a) H1
def iTup (K : PySem.W.Frag) (tl : TE) : TI := fun σ H R => tl σ H fun x H1 => ∃ a, x = .ref a ∧ (∃ xs, SqT K H1 a xs) ∧ R (Itt K a) H1
theorem pi_list {l : Expr} {tl : TE} (hl : PE X l tl) : PI X tg l (iList X.K tl) := by
  intro pins s σ H R I h
  refine thn (hl pins s σ H _ I h) fun v s1 ⟨x, H1, I1, r1, q1⟩ => ?_
  obtain ⟨a, e, ⟨xs, hq⟩, q⟩ := q1
  subst e
  cases r1
  obtain ⟨its, rv, p, hz⟩ := I1.list hq
  refine wpAny_pyIter_list p.isList ?_
  refine ⟨s1.heap.objs.size, [s1.heap.objs.size], _, _, H1, rfl, I1.kept (t' := s1.toks) fun b o e => Heap.get?_push_of_some _ e, turn_list a _, ⟨_, Heap.get?_push_size _ rfl, rfl, rfl⟩, fun b hb => ?_, q⟩
  have e : b = s1.heap.objs.size := by simpa using hb
  subst e
  exact I1.fpOk (Nat.le_refl _) (I1.hok.fresh (Nat.le_refl _))
theorem range_it {pins : List (Addr × Obj)} {σ : St} {H : Hp} {s : Shared} {R : It → Hp → Prop} {E : Value → Shared → Prop} {lo hi : Int} {t u v : Tok} {tk : Nat} (I : Inv X pins σ H s) (h1 : -(2 ^ 62) ≤ lo) (h2 : lo < 2 ^ 62) (h3 : -(2 ^ 62) ≤ hi) (h4 : hi < 2 ^ 62)
    (q : R (Itr lo (hi - lo).toNat) H) : wpAny (model X.prog X.w) X.A (pyIter (.ref s.heap.objs.size)) (PIE X pins σ tg R) E { s with heap := s.heap.push { cls := .type "range", data := .fields #[.int lo t, .int hi u, .int 1 v] }, toks := tk } := by
  refine wpAny_pyIter_range (IsRange.new ..) (small_one h1 h2 h3 h4) ?_
  have I1 : Inv X pins σ H { s with heap := s.heap.push { cls := .type "range", data := .fields #[.int lo t, .int hi u, .int 1 v] }, toks := tk } := I.kept fun b o e => Heap.get?_push_of_some _ e
  refine ⟨(s.heap.push { cls := .type "range", data := .fields #[.int lo t, .int hi u, .int 1 v] }).objs.size, [(s.heap.push { cls := .type "range", data := .fields #[.int lo t, .int hi u, .int 1 v] }).objs.size], _, _, H, rfl,
    I1.kept (t' := tk) fun b o e => Heap.get?_push_of_some _ e, turn_range _ lo (hi - lo).toNat, ?_, fun b hb => ?_, q⟩
  · have e1 : lo + ((0 : Nat) : Int) * 1 = lo := by simp
    have e2 : (((hi - lo).toNat : Nat) : Int) - ((0 : Nat) : Int) = Builtin.Range.rangeSize lo hi 1 := by rw [rangeSize_one]; split <;> omega
    show IsRangeIter _ _ (lo + ((0 : Nat) : Int) * 1) ((((hi - lo).toNat : Nat) : Int) - ((0 : Nat) : Int)) 1
    rw [e1, e2]
    exact Heap.get?_push_size _ rfl
  · have e : b = (s.heap.push { cls := .type "range", data := .fields #[.int lo t, .int hi u, .int 1 v] }).objs.size := by simpa using hb
    subst e
    exact I1.fpOk (Nat.le_refl _) (I1.hok.fresh (Nat.le_refl _))
def iRng1 (ta : TA) : TI := fun σ H R => ta σ H fun vs H1 => ∃ j : Int, vs = [.int j] ∧ -(2 ^ 62) ≤ j ∧ j < 2 ^ 62 ∧ R (Itr 0 j.toNat) H1
def iRng2 (ta : TA) : TI := fun σ H R => ta σ H fun vs H1 => ∃ i j : Int, vs = [.int i, .int j] ∧ (-(2 ^ 62) ≤ i ∧ i < 2 ^ 62 ∧ -(2 ^ 62) ≤ j ∧ j < 2 ^ 62) ∧ R (Itr i (j - i).toNat) H1
theorem pi_range1 {a : Expr} {ta : TA} {p pos : Pos} (hg : Gl X "range") (hm : X.mg "range" = none) (ha : PA X [a] ta) (hs : starEach [a] X.env = [(false, eval a X.env)] := by rfl) : PI X tg (.Call (.Name "range" p) [a] [] pos) (iRng1 ta) := by
  intro pins s σ H R I h
  refine Call_ (ld_blt I hg hm boot_range (PyProof.Rows.callWith_type1 (thn (ha pos pins s σ H _ I h) fun us s1 ⟨vs, H1, I1, r1, q1⟩ => ?_) hs rfl))
  obtain ⟨j, e, q1, q2, q⟩ := q1
  subst e
  cases r1 with
  | cons r rr =>
    cases rr
    obtain ⟨t, rfl⟩ := r
    exact call_range_1 (range_it I1 (by omega) (by omega) q1 q2 (by simpa using q))
theorem pi_range2 {a b : Expr} {ta : TA} {p pos : Pos} (hg : Gl X "range") (hm : X.mg "range" = none) (ha : PA X [a, b] ta) (hs : starEach [a, b] X.env = [(false, eval a X.env), (false, eval b X.env)] := by rfl) (hs2 : starEach [b] X.env = [(false, eval b X.env)] := by rfl) :
    PI X tg (.Call (.Name "range" p) [a, b] [] pos) (iRng2 ta) := by
  intro pins s σ H R I h
  refine Call_ (ld_blt I hg hm boot_range (PyProof.Rows.callWith_type1 (thn (ha pos pins s σ H _ I h) fun us s1 ⟨vs, H1, I1, r1, q1⟩ => ?_) (by rw [hs, hs2]) (by rw [hs2]; rfl)))
  obtain ⟨i, j, e, ⟨q1, q2, q3, q4⟩, q⟩ := q1
  subst e
  cases r1 with
  | cons r rr =>
    cases rr with
    | cons r' rr =>
      cases rr
      obtain ⟨t, rfl⟩ := r
      obtain ⟨t', rfl⟩ := r'
      exact call_range_2 (range_it I1 q1 q2 q3 q4 q)
def tFor (wi : TI) (g : TG) (tb : TS) : TS := fun D σ H => wi σ H fun J H1 => ∃ W : Nat → Nat → St → Hp → Prop, (∃ m, W 0 m σ H1) ∧ ∀ i m σ H, W i m σ H →
  (J.stop i H ∧ D.nx σ H) ∨ (J.go i H ∧ ∃ N : St → Hp → Prop, (∀ σ' H', N σ' H' → ∃ m', m' < m ∧ W (i + 1) m' σ' H') ∧ ∀ x H', J.yld i H x H' → g x σ H' fun σ2 H2 => tb { D with nx := N, ct := N, bk := D.nx } σ2 H2)
def pinsAt (fp : List Addr) (h : Heap) : List (Addr × Obj) := fp.filterMap fun b => (h.get? b).map fun o => (b, o)
theorem mem_pinsAt {fp : List Addr} {h : Heap} {b : Addr} {o : Obj} (hb : b ∈ fp) (e : h.get? b = some o) : (b, o) ∈ pinsAt fp h := List.mem_filterMap.mpr ⟨b, hb, by rw [e]; rfl⟩
theorem of_pinsAt {fp : List Addr} {h : Heap} {p : Addr × Obj} (hp : p ∈ pinsAt fp h) : p.1 ∈ fp ∧ h.get? p.1 = some p.2 := by
  obtain ⟨b, hb, e⟩ := List.mem_filterMap.mp hp
  cases q : h.get? b with
  | none => rw [q] at e; cases e
  | some o =>
    rw [q] at e
    have e' : (b, o) = p := Option.some.inj e
    subst e'
    exact ⟨hb, q⟩
theorem Inv.pinned {pins : List (Addr × Obj)} {σ : St} {H : Hp} {s : Shared} {fp : List Addr} (I : Inv X pins σ H s) (hf : ∀ b ∈ fp, FpOk X pins H b) (ho : ∀ b ∈ fp, ∃ o, s.heap.get? b = some o ∧ ∀ v, o.data ≠ .cell v) : Inv X (pins ++ pinsAt fp s.heap) σ H s :=
  I.pins_of fun p hp => (List.mem_append.mp hp).elim (fun z => I.pin p (List.mem_append_right _ z)) fun z => by
    obtain ⟨hb, e⟩ := of_pinsAt z
    obtain ⟨f0, f1, f2, _⟩ := hf p.1 hb
    obtain ⟨o, e', d⟩ := ho p.1 hb
    rw [e] at e'; cases e'
    exact ⟨e, f0, f1, f2, d⟩
theorem Inv.unpinned {pins pl : List (Addr × Obj)} {σ : St} {H : Hp} {s : Shared} (I : Inv X (pins ++ pl) σ H s) : Inv X pins σ H s := I.pins_of fun p hp => I.pin p (List.mem_append_right _ (List.mem_append_left _ hp))
theorem ps_for {iter : Expr} {body : List Stmt} {wi : TI} {g : TG} {tb : TS} {pos : Pos} (hp : PassesOwn (model X.prog X.w) X.A X.env X.xe) (hc : X.calm = true) (hi : PI X tg iter wi) (hg : PG X tg g) (hb : PSs X body tb)
    (hs : ∀ x, foldedSetIterable iter X.env x = pure x := by intro _; rfl) : PS X (.For tg iter body [] pos) (tFor wi g tb) := by
  intro pins s σ H D I h
  refine wpAny_For (thn (hi pins s σ H _ I h) fun v s1 h1 => thn h1 fun itv s2 h2 => ?_) hs
  obtain ⟨it, fp, tn, J, H2, e, I2, T, st2, f2, W, ⟨m0, w0⟩, turn⟩ := h2
  subst e
  -- what stays true of the iterator's objects through the loop
  have stat : ∀ {H' : Hp}, (∀ b ∈ fp, H' b = none) → ∀ b ∈ fp, FpOk X pins H' b := fun hn b hb => ⟨hn b hb, (f2 b hb).2⟩
  refine codeAny_forLoop_any (fun n s' => ∃ i σ' H', Inv X pins σ' H' s' ∧ tn i s'.heap ∧ (∀ b ∈ fp, H' b = none) ∧ W i n σ' H') ?_ m0 ⟨0, σ, H2, I2, st2, fun b hb => (f2 b hb).1, w0⟩
  rintro n s3 ⟨i, σ3, H3, I3, st3, fr3, w3⟩
  rcases turn i n σ3 H3 w3 with ⟨stop, qn⟩ | ⟨go, N, hN, step⟩
  · refine wpAny_passesOwn hp (thn (T.done X rfl rfl rfl hc i pins s3 σ3 H3 X.xe I3 (stat fr3) st3 stop) fun r s4 ⟨hr, I4⟩ => ?_)
    subst hr
    exact wpAny_execs_nil ⟨σ3, H3, I4, qn⟩
  · refine wpAny_passesOwn hp (thn (T.item X rfl rfl rfl hc i pins s3 σ3 H3 X.xe I3 (stat fr3) st3 go) fun r s4 ⟨u, hr, h4⟩ => ?_)
    subst hr
    refine wpAny_passesOwn hp (thn h4 fun _ s5 ⟨x, H5, I5, r5, y5, st5, fr5⟩ => ?_)
    have I5' := I5.pinned (stat fr5) (T.obj _ _ st5)
    refine wpAny_passesOwn hp (thn (hg _ s5 σ3 H5 x u _ I5' r5 (step x H5 y5)) fun _ s6 ⟨σ6, H6, I6, q6⟩ => ?_)
    refine wpAny_passesOwn hp (thn (hb _ s6 σ6 H6 _ I6 q6) fun f s7 q7 => ?_)
    have again : ∀ {σ7 : St} {H7 : Hp}, Inv X (pins ++ pinsAt fp s5.heap) σ7 H7 s7 → N σ7 H7 → ∃ m, m < n ∧ ∃ i σ' H', Inv X pins σ' H' s7 ∧ tn i s7.heap ∧ (∀ b ∈ fp, H' b = none) ∧ W i m σ' H' := fun {σ7 H7} I7 n7 => by
      obtain ⟨m', hm, w7⟩ := hN σ7 H7 n7
      refine ⟨m', hm, i + 1, σ7, H7, I7.unpinned, T.keep _ _ _ st5 fun b hb o e => (I7.pin (b, o) (List.mem_append_right _ (List.mem_append_right _ (mem_pinsAt hb e)))).1, fun b hb => ?_, w7⟩
      obtain ⟨o, e, d⟩ := T.obj _ _ st5 b hb
      exact (I7.pin (b, o) (List.mem_append_right _ (List.mem_append_right _ (mem_pinsAt hb e)))).2.1
    cases f with
    | next => obtain ⟨σ7, H7, I7, n7⟩ := q7; exact again I7 n7
    | cont => obtain ⟨σ7, H7, I7, n7⟩ := q7; exact again I7 n7
    | brk => obtain ⟨σ7, H7, I7, q7⟩ := q7; exact ⟨σ7, H7, I7.unpinned, q7⟩
    | ret v => obtain ⟨x7, σ7, H7, I7, r7, q7⟩ := q7; exact ⟨x7, σ7, H7, I7.unpinned, r7, q7⟩
end
theorem for_list {K : PySem.W.Frag} {a : Addr} {xs : List V} {g : TG} {tb : TS} {D : Ends} {σ : St} {H : Hp} (Pv : Nat → St → Hp → Prop) (h0 : Pv 0 σ H) (hl : ∀ i σ H, i ≤ xs.length → Pv i σ H → SqL K H a xs)
    (hs : ∀ i x σ H, xs[i]? = some x → Pv i σ H → g x σ H fun σ2 H2 => tb { D with nx := Pv (i + 1), ct := Pv (i + 1), bk := D.nx } σ2 H2) (hd : ∀ σ H, Pv xs.length σ H → D.nx σ H) :
    ∃ W : Nat → Nat → St → Hp → Prop, (∃ m, W 0 m σ H) ∧ ∀ i m σ H, W i m σ H →
      ((Itl K a).stop i H ∧ D.nx σ H) ∨ ((Itl K a).go i H ∧ ∃ N : St → Hp → Prop, (∀ σ' H', N σ' H' → ∃ m', m' < m ∧ W (i + 1) m' σ' H') ∧ ∀ x H', (Itl K a).yld i H x H' → g x σ H' fun σ2 H2 => tb { D with nx := N, ct := N, bk := D.nx } σ2 H2) := by
  refine ⟨fun i m σ H => m = xs.length - i ∧ i ≤ xs.length ∧ Pv i σ H, ⟨xs.length, by simp, Nat.zero_le _, h0⟩, ?_⟩
  rintro i m σ H ⟨rfl, hi, p⟩
  have q := hl i σ H hi p
  by_cases hlt : i < xs.length
  · refine .inr ⟨⟨xs, xs[i], q, by simp [hlt]⟩, Pv (i + 1), fun σ' H' p' => ⟨xs.length - (i + 1), by omega, rfl, hlt, p'⟩, fun x H' y => ?_⟩
    obtain ⟨e, y⟩ := y
    subst e
    exact hs i x σ _ (y xs q) p
  · have e : i = xs.length := by omega
    subst e
    exact .inl ⟨⟨xs, q, Nat.le_refl _⟩, hd σ H p⟩
theorem for_range {lo : Int} {n : Nat} {g : TG} {tb : TS} {D : Ends} {σ : St} {H : Hp} (Pv : Nat → St → Hp → Prop) (h0 : Pv 0 σ H)
    (hs : ∀ i σ H, i < n → Pv i σ H → g (.int (lo + i)) σ H fun σ2 H2 => tb { D with nx := Pv (i + 1), ct := Pv (i + 1), bk := D.nx } σ2 H2) (hd : ∀ σ H, Pv n σ H → D.nx σ H) :
    ∃ W : Nat → Nat → St → Hp → Prop, (∃ m, W 0 m σ H) ∧ ∀ i m σ H, W i m σ H →
      ((Itr lo n).stop i H ∧ D.nx σ H) ∨ ((Itr lo n).go i H ∧ ∃ N : St → Hp → Prop, (∀ σ' H', N σ' H' → ∃ m', m' < m ∧ W (i + 1) m' σ' H') ∧ ∀ x H', (Itr lo n).yld i H x H' → g x σ H' fun σ2 H2 => tb { D with nx := N, ct := N, bk := D.nx } σ2 H2) := by
  refine ⟨fun i m σ H => m = n - i ∧ i ≤ n ∧ Pv i σ H, ⟨n, by simp, Nat.zero_le _, h0⟩, ?_⟩
  rintro i m σ H ⟨rfl, hi, p⟩
  by_cases hlt : i < n
  · refine .inr ⟨hlt, Pv (i + 1), fun σ' H' p' => ⟨n - (i + 1), by omega, rfl, hlt, p'⟩, fun x H' y => ?_⟩
    obtain ⟨e, y⟩ := y
    subst e y
    exact hs i σ _ hlt p
  · have e : i = n := by omega
    subst e
    exact .inl ⟨Nat.le_refl _, hd σ H p⟩
end L2
namespace L2
open PySem PySem.Spec PyProof.Rows
abbrev R2 := V → V → Hp → VK → Prop
def OpR (X : Cx) (f : Value → Value → Sem Value) (r : R2) : Prop :=
  ∀ (pins : List (Addr × Obj)) (s : Shared) (σ : St) (H : Hp) (x y : V) (v u : Value) (Q : VK), Inv X pins σ H s → RelV x v → RelV y u → r x y H Q →
    wpAny (model X.prog X.w) X.A (f v u) (EP X pins σ Q) X.xe s
def UnR (X : Cx) (f : Value → Sem Value) (r : V → Hp → VK → Prop) : Prop :=
  ∀ (pins : List (Addr × Obj)) (s : Shared) (σ : St) (H : Hp) (x : V) (v : Value) (Q : VK), Inv X pins σ H s → RelV x v → r x H Q →
    wpAny (model X.prog X.w) X.A (f v) (EP X pins σ Q) X.xe s
def CallR (X : Cx) (f : Value) (r : List V → Hp → VK → Prop) : Prop :=
  ∀ (pins : List (Addr × Obj)) (s : Shared) (σ : St) (H : Hp) (xs : List V) (us : List Value) (Q : VK), Inv X pins σ H s → Vals xs us → r xs H Q →
    wpAny (model X.prog X.w) X.A (call f us) (EP X pins σ Q) X.xe s
def TruR (X : Cx) (r : V → Hp → (Bool → Hp → Prop) → Prop) : Prop :=
  ∀ (pins : List (Addr × Obj)) (s : Shared) (σ : St) (H : Hp) (x : V) (v : Value) (Q : Bool → Hp → Prop), Inv X pins σ H s → RelV x v → r x H Q →
    wpAny (model X.prog X.w) X.A (truthy v) (TP X pins σ Q) X.xe s
def tOp (r : R2) (ta tb : TE) : TE := fun σ H Q => ta σ H fun x H1 => tb σ H1 fun y H2 => r x y H2 Q
def tUn (r : V → Hp → VK → Prop) (ta : TE) : TE := fun σ H Q => ta σ H fun x H1 => r x H1 Q
def rI (C : Int → Int → Prop) (g : Int → Int → V) : R2 := fun x y H Q => ∃ i j, x = .int i ∧ y = .int j ∧ C i j ∧ Q (g i j) H
def rI0 (g : Int → Int → V) : R2 := fun x y H Q => ∃ i j, x = .int i ∧ y = .int j ∧ Q (g i j) H
def rU (g : Int → V) : V → Hp → VK → Prop := fun x H Q => ∃ i, x = .int i ∧ Q (g i) H
section
variable {X : Cx} {a b c : Expr} {ta tb tc : TE} {pos : Pos}
theorem binT (ha : PE X a ta) (hb : PE X b tb) {pins : List (Addr × Obj)} {s : Shared} {σ : St} {H : Hp} {R : V → V → Hp → Prop} (I : Inv X pins σ H s)
    (h : ta σ H fun x H1 => tb σ H1 fun y H2 => R x y H2) {Q : Value → Shared → Prop} {f : Value → Value → Sem Value}
    (hf : ∀ v u s2 x y H2, Inv X pins σ H2 s2 → RelV x v → RelV y u → R x y H2 → wpAny (model X.prog X.w) X.A (f v u) Q X.xe s2) :
    wpAny (model X.prog X.w) X.A (eval a X.env) (fun v s₁ => wpAny (model X.prog X.w) X.A (eval b X.env) (fun u s₂ => wpAny (model X.prog X.w) X.A (f v u) Q X.xe s₂) X.xe s₁) X.xe s := by
  refine thn (ha pins s σ H _ I h) fun v s1 ⟨x, H1, I1, r1, q1⟩ => ?_
  refine thn (hb pins s1 σ H1 _ I1 q1) fun u s2 ⟨y, H2, I2, r2, q2⟩ => ?_
  exact hf v u s2 x y H2 I2 r1 r2 q2
theorem pe_op {op : Operator} {r : R2} (ho : OpR X (binaryOp op) r) (ha : PE X a ta) (hb : PE X b tb) : PE X (.BinOp a op b pos) (tOp r ta tb) := by
  intro pins s σ H Q I h
  exact wpAny_BinOp (binT ha hb I h fun v u s2 x y H2 I2 rx ry q => ho pins s2 σ H2 x y v u Q I2 rx ry q)
theorem opI {f : Value → Value → Sem Value} {C : Int → Int → Prop} {g : Int → Int → Int}
    (rule : ∀ (i j : Int) (t u : Tok) (s : Shared) (Q : Value → Shared → Prop) (E : Value → Shared → Prop), C i j → Q (.int (g i j) s.toks) { s with toks := s.toks + 1 } → wpAny (model X.prog X.w) X.A (f (.int i t) (.int j u)) Q E s) :
    OpR X f (rI C fun i j => .int (g i j)) := by
  intro pins s σ H x y v u Q I rx ry h
  obtain ⟨i, j, rfl, rfl, hc, q⟩ := h
  obtain ⟨t, rfl⟩ := rx
  obtain ⟨t', rfl⟩ := ry
  exact rule i j t t' s _ _ hc ⟨.int (g i j), H, I.tok _, ⟨_, rfl⟩, q⟩
theorem opI0 {f : Value → Value → Sem Value} {g : Int → Int → Int}
    (rule : ∀ (i j : Int) (t u : Tok) (s : Shared) (Q : Value → Shared → Prop) (E : Value → Shared → Prop), Q (.int (g i j) s.toks) { s with toks := s.toks + 1 } → wpAny (model X.prog X.w) X.A (f (.int i t) (.int j u)) Q E s) :
    OpR X f (rI0 fun i j => .int (g i j)) := by
  intro pins s σ H x y v u Q I rx ry h
  obtain ⟨i, j, rfl, rfl, q⟩ := h
  obtain ⟨t, rfl⟩ := rx
  obtain ⟨t', rfl⟩ := ry
  exact rule i j t t' s _ _ ⟨.int (g i j), H, I.tok _, ⟨_, rfl⟩, q⟩
theorem opB0 {f : Value → Value → Sem Value} {g : Int → Int → Bool}
    (rule : ∀ (i j : Int) (t u : Tok) (s : Shared) (Q : Value → Shared → Prop) (E : Value → Shared → Prop), Q (.bool (g i j)) s → wpAny (model X.prog X.w) X.A (f (.int i t) (.int j u)) Q E s) :
    OpR X f (rI0 fun i j => .bl (g i j)) := by
  intro pins s σ H x y v u Q I rx ry h
  obtain ⟨i, j, rfl, rfl, q⟩ := h
  obtain ⟨t, rfl⟩ := rx
  obtain ⟨t', rfl⟩ := ry
  exact rule i j t t' s _ _ ⟨.bl (g i j), H, I, rfl, q⟩
def CDiv (i j : Int) : Prop := 0 < j ∧ j < 1073741824
def CDivN (i j : Int) : Prop := j ≠ 0 ∧ j.natAbs < 1073741824
def CPow (i j : Int) : Prop := 0 ≤ j ∧ j ≤ 1000000 ∧ i.natAbs < 2 ^ 64
def CMul (i j : Int) : Prop := (-(2 ^ 64) < i ∧ i < 2 ^ 64) ∨ (-(2 ^ 64) < j ∧ j < 2 ^ 64)
theorem CMul.ok {i j : Int} (h : CMul i j) : IntMulOk i j := by
  rcases h with ⟨h1, h2⟩ | ⟨h1, h2⟩
  · exact .of_left (intBits_le_64 h1 h2)
  · exact .of_right (intBits_le_64 h1 h2)
theorem two_pow_nn (k : Nat) : (0 : Int) ≤ 2 ^ k := by
  rw [two_pow_cast]
  exact Int.natCast_nonneg _
theorem op_add : OpR X (binaryOp .Add) (rI0 fun i j => .int (i + j)) := opI0 fun _ _ _ _ _ _ _ q => add_int q
theorem op_sub : OpR X (binaryOp .Sub) (rI0 fun i j => .int (i - j)) := opI0 fun _ _ _ _ _ _ _ q => sub_int q
theorem op_mul : OpR X (binaryOp .Mult) (rI CMul fun i j => .int (i * j)) := opI fun _ _ _ _ _ _ _ hc q => mul_int q hc.ok
theorem op_fdiv : OpR X (binaryOp .FloorDiv) (rI CDiv fun i j => .int (i / j)) := opI fun i j _ _ _ _ _ hc q => by
  have h1 : (0 : Int) < j := hc.1
  have h2 : j < 1073741824 := hc.2
  exact floordiv_int (by omega) (by rw [Int.fdiv_eq_ediv_of_nonneg i (by omega)]; exact q) (.inl (PyProof.noPylong_small (by omega)))
theorem op_mod : OpR X (binaryOp .Mod) (rI (fun _ j => 0 < j) fun i j => .int (i % j)) := opI fun i j _ _ _ _ _ hc q => by
  have h1 : (0 : Int) < j := hc
  exact mod_int' (by omega) (by rw [Int.fmod_eq_emod_of_nonneg i (by omega)]; exact q)
theorem op_shl : OpR X (binaryOp .LShift) (rI CPow fun i j => .int (i * 2 ^ j.toNat)) := opI fun _ _ _ _ _ _ _ hc q => lshift_int_small hc.1 hc.2.1 hc.2.2 q
theorem op_shr : OpR X (binaryOp .RShift) (rI (fun _ j => 0 ≤ j) fun i j => .int (i / 2 ^ j.toNat)) := opI fun i j _ _ _ _ _ hc q =>
  rshift_int hc (by rw [Int.fdiv_eq_ediv_of_nonneg i (two_pow_nn _)]; exact q)
theorem op_and : OpR X (binaryOp .BitAnd) (rI0 fun i j => .int (Builtin.bitAnd i j)) := opI0 fun _ _ _ _ _ _ _ q => and_int q
theorem op_or : OpR X (binaryOp .BitOr) (rI0 fun i j => .int (Builtin.bitOr i j)) := opI0 fun _ _ _ _ _ _ _ q => or_int q
end
def scal : V → V → Bool
  | .non, .non => true | .non, .int _ => true | .int _, .non => true | .non, .bl _ => true | .bl _, .non => true | .non, .str _ => true | .str _, .non => true
  | .int _, .int _ => true | .bl _, .bl _ => true | .str _, .str _ => true | .byt _, .byt _ => true
  | .int _, .str _ => true | .str _, .int _ => true | .bl _, .str _ => true | .str _, .bl _ => true
  | _, _ => false
def rEq : R2 := fun x y H Q => scal x y = true ∧ Q (.bl (decide (x = y))) H
def rNe : R2 := fun x y H Q => scal x y = true ∧ Q (.bl (!decide (x = y))) H
theorem dec_int {i j : Int} : decide (V.int i = V.int j) = (i == j) := by
  rw [Bool.eq_iff_iff]
  simp
theorem dec_bl {i j : Bool} : decide (V.bl i = V.bl j) = (i == j) := by
  rw [Bool.eq_iff_iff]
  simp
theorem dec_str {i j : Str} : decide (V.str i = V.str j) = (i == j) := by
  rw [Bool.eq_iff_iff]
  simp
theorem dec_byt {i j : Array UInt8} : decide (V.byt i = V.byt j) = (i.toList == j.toList) := by
  rw [Bool.eq_iff_iff]
  cases i
  cases j
  simp
section
variable {X : Cx} {a b c : Expr} {ta tb tc : TE} {pos : Pos}
theorem fin_bl {pins : List (Addr × Obj)} {σ : St} {H : Hp} {s : Shared} {Q : VK} {k k' : Bool} (I : Inv X pins σ H s) (q : Q (.bl k) H) (e : k = k') : EP X pins σ Q (.bool k') s := by
  subst e
  exact ⟨.bl k, H, I, rfl, q⟩
theorem op_eq : OpR X (compareOp .Eq) rEq := by
  intro pins s σ H x y v u Q I rx ry h
  obtain ⟨hs, q⟩ := h
  cases x with
  | non =>
    cases rx
    cases y with
    | non => cases ry; exact PySem.EqNone.eq_none_none (fin_bl I q (by simp))
    | bl j => cases ry; exact PySem.EqNone.eq_none_bool (fin_bl I q (by simp))
    | int j => obtain ⟨t', rfl⟩ := ry; exact PySem.EqNone.eq_none_int (fin_bl I q (by simp))
    | str j => obtain ⟨t', rfl⟩ := ry; exact PySem.EqNone.eq_none_str (fin_bl I q (by simp))
    | _ => exact absurd (show false = true from hs) Bool.false_ne_true
  | bl i =>
    cases rx
    cases y with
    | non => cases ry; exact PySem.EqNone.eq_bool_none (fin_bl I q (by simp))
    | bl j => cases ry; exact eq_bool (fin_bl I q dec_bl)
    | str j => obtain ⟨t', rfl⟩ := ry; exact PySem.EqMixed.eq_bool_str (fin_bl I q (by simp))
    | _ => exact absurd (show false = true from hs) Bool.false_ne_true
  | int i =>
    obtain ⟨t, rfl⟩ := rx
    cases y with
    | non => cases ry; exact PySem.EqNone.eq_int_none (fin_bl I q (by simp))
    | int j => obtain ⟨t', rfl⟩ := ry; exact eq_int (fin_bl I q dec_int)
    | str j => obtain ⟨t', rfl⟩ := ry; exact PySem.EqMixed.eq_int_str (fin_bl I q (by simp))
    | _ => exact absurd (show false = true from hs) Bool.false_ne_true
  | str i =>
    obtain ⟨t, rfl⟩ := rx
    cases y with
    | non => cases ry; exact PySem.EqNone.eq_str_none (fin_bl I q (by simp))
    | bl j => cases ry; exact PySem.EqMixed.eq_str_bool (fin_bl I q (by simp))
    | int j => obtain ⟨t', rfl⟩ := ry; exact PySem.EqMixed.eq_str_int (fin_bl I q (by simp))
    | str j => obtain ⟨t', rfl⟩ := ry; exact eq_str (fin_bl I q dec_str)
    | _ => exact absurd (show false = true from hs) Bool.false_ne_true
  | byt i =>
    obtain ⟨t, rfl⟩ := rx
    cases y with
    | byt j => obtain ⟨t', rfl⟩ := ry; exact PySem.W.eq_bytes (fin_bl I q dec_byt)
    | _ => exact absurd (show false = true from hs) Bool.false_ne_true
  | _ => cases y <;> exact absurd (show false = true from hs) Bool.false_ne_true
theorem op_ne : OpR X (compareOp .NotEq) rNe := by
  intro pins s σ H x y v u Q I rx ry h
  obtain ⟨hs, q⟩ := h
  cases x with
  | non =>
    cases rx
    cases y with
    | non => cases ry; exact PySem.EqNone.ne_none_none (fin_bl I q (by simp))
    | bl j => cases ry; exact PySem.EqNone.ne_none_bool (fin_bl I q (by simp))
    | int j => obtain ⟨t', rfl⟩ := ry; exact PySem.EqNone.ne_none_int (fin_bl I q (by simp))
    | str j => obtain ⟨t', rfl⟩ := ry; exact PySem.EqNone.ne_none_str (fin_bl I q (by simp))
    | _ => exact absurd (show false = true from hs) Bool.false_ne_true
  | bl i =>
    cases rx
    cases y with
    | non => cases ry; exact PySem.EqNone.ne_bool_none (fin_bl I q (by simp))
    | bl j => cases ry; exact ne_bool (fin_bl I q (congrArg not dec_bl))
    | str j => obtain ⟨t', rfl⟩ := ry; exact PySem.EqMixed.ne_bool_str (fin_bl I q (by simp))
    | _ => exact absurd (show false = true from hs) Bool.false_ne_true
  | int i =>
    obtain ⟨t, rfl⟩ := rx
    cases y with
    | non => cases ry; exact PySem.EqNone.ne_int_none (fin_bl I q (by simp))
    | int j => obtain ⟨t', rfl⟩ := ry; exact ne_int (fin_bl I q (congrArg not dec_int))
    | str j => obtain ⟨t', rfl⟩ := ry; exact PySem.EqMixed.ne_int_str (fin_bl I q (by simp))
    | _ => exact absurd (show false = true from hs) Bool.false_ne_true
  | str i =>
    obtain ⟨t, rfl⟩ := rx
    cases y with
    | non => cases ry; exact PySem.EqNone.ne_str_none (fin_bl I q (by simp))
    | bl j => cases ry; exact PySem.EqMixed.ne_str_bool (fin_bl I q (by simp))
    | int j => obtain ⟨t', rfl⟩ := ry; exact PySem.EqMixed.ne_str_int (fin_bl I q (by simp))
    | str j => obtain ⟨t', rfl⟩ := ry; exact ne_str (fin_bl I q (congrArg not dec_str))
    | _ => exact absurd (show false = true from hs) Bool.false_ne_true
  | byt i =>
    obtain ⟨t, rfl⟩ := rx
    cases y with
    | byt j => obtain ⟨t', rfl⟩ := ry; exact PySem.W.ne_bytes (fin_bl I q (congrArg not dec_byt))
    | _ => exact absurd (show false = true from hs) Bool.false_ne_true
  | _ => cases y <;> exact absurd (show false = true from hs) Bool.false_ne_true
theorem op_lt : OpR X (compareOp .Lt) (rI0 fun i j => .bl (decide (i < j))) := opB0 fun _ _ _ _ _ _ _ q => lt_int q
theorem op_le : OpR X (compareOp .LtE) (rI0 fun i j => .bl (decide (i ≤ j))) := opB0 fun _ _ _ _ _ _ _ q => le_int q
theorem op_gt : OpR X (compareOp .Gt) (rI0 fun i j => .bl (decide (j < i))) := opB0 fun _ _ _ _ _ _ _ q => gt_int q
theorem op_ge : OpR X (compareOp .GtE) (rI0 fun i j => .bl (decide (j ≤ i))) := opB0 fun _ _ _ _ _ _ _ q => ge_int q
def isObj : HO → Bool
  | .lst _ => true
  | .ins _ _ _ => true
  | _ => false
theorem nomark (b : Expr) {op : CmpOp} (h : op ≠ .In := by decide) (h2 : op ≠ .NotIn := by decide) : behindInMarks op b = false := by
  have e1 : (op == CmpOp.In) = false := by cases op <;> first | rfl | exact absurd rfl h
  have e2 : (op == CmpOp.NotIn) = false := by cases op <;> first | rfl | exact absurd rfl h2
  cases b <;> simp [behindInMarks, e1, e2]
theorem pe_cmpR {op : CmpOp} {r : R2} (ho : OpR X (compareOp op) r) (ha : PE X a ta) (hb : PE X b tb) (hm : behindInMarks op b = false) : PE X (.Compare a [op] [b] pos) (tOp r ta tb) := by
  intro pins s σ H Q I h
  exact wpAny_Compare1 (binT ha hb I h fun v u s2 x y H2 I2 rx ry q => ho pins s2 σ H2 x y v u Q I2 rx ry q) hm
def tTest (t : TE) : TT := fun σ H Q => t σ H fun x H' => ∃ k, x = .bl k ∧ Q k H'
theorem pt_cmpR {op : CmpOp} {r : R2} (ho : OpR X (compareOp op) r) (ha : PE X a ta) (hb : PE X b tb) (hm : behindInMarks op b = false) : PT X (.Compare a [op] [b] pos) (tTest (tOp r ta tb)) := by
  intro pins s σ H Q I h
  refine wpAny_isTrue_Compare1 (thn (ha pins s σ H _ I h) fun v s1 ⟨x, H1, I1, r1, q1⟩ => thn (hb pins s1 σ H1 _ I1 q1) fun u s2 ⟨y, H2, I2, r2, q2⟩ =>
    thn (ho pins s2 σ H2 x y v u _ I2 r1 r2 q2) fun c s3 ⟨z, H3, I3, r3, k, e, q3⟩ => ?_) hm
  subst e
  cases r3
  exact wpAny_truthy_bool ⟨H3, I3, q3⟩
def tChain (r r' : R2) (ta tb tc : TE) : TE := fun σ H Q => ta σ H fun x H1 => tb σ H1 fun y H2 => r x y H2 fun z H3 => ∃ k, z = .bl k ∧
  (if k = true then tc σ H3 fun w' H4 => r' y w' H4 Q else Q (.bl false) H3)
theorem pe_chain {op op' : CmpOp} {r r' : R2} (ho : OpR X (compareOp op) r) (ho' : OpR X (compareOp op') r') (ha : PE X a ta) (hb : PE X b tb) (hc : PE X c tc)
    (hm : lastMarks [op, op'] [b, c] = false := by with_unfolding_all rfl) : PE X (.Compare a [op, op'] [b, c] pos) (tChain r r' ta tb tc) := by
  intro pins s σ H Q I h
  refine Compare_chain (thn (ha pins s σ H _ I h) fun v s1 ⟨x, H1, I1, r1, q1⟩ => chain_link (thn (hb pins s1 σ H1 _ I1 q1) fun u s2 ⟨y, H2, I2, r2, q2⟩ =>
    thn (ho pins s2 σ H2 x y v u _ I2 r1 r2 q2) fun d s3 ⟨z, H3, I3, r3, k, e, q3⟩ => ?_)) hm
  subst e
  cases r3
  refine wpAny_truthy_bool ?_
  cases k with
  | false => exact ite_ff ⟨.bl false, H3, I3, rfl, q3⟩
  | true => exact ite_tt (chain_last (thn (hc pins s3 σ H3 _ I3 q3) fun w' s4 ⟨z', H4, I4, r4, q4⟩ => ho' pins s4 σ H4 y z' u w' Q I4 r2 r4 q4))
def TruV (K : PySem.W.Frag) (x : V) (H : Hp) (k : Bool) : Prop :=
  match x with
  | .non => k = false
  | .bl b => k = b
  | .int i => k = (i != 0)
  | .str y => y.length ≤ sizeLine ∧ k = ((y.length : Int) != 0)
  | .byt y => y.size ≤ sizeLine ∧ k = ((y.size : Int) != 0)
  | .ref p => (∃ xs, SqL K H p xs ∧ k = !xs.isEmpty) ∨ (∃ xs, SqT K H p xs ∧ k = !xs.isEmpty) ∨ ∃ kvs, H p = some (.dK kvs) ∧ k = !kvs.isEmpty
  | _ => False
theorem line63 : (sizeLine : Nat) < 2 ^ 63 := by rw [sizeLine_eq]; decide
def PlainIxT (b : Expr) : Prop := ∀ o i, subscripted b false o i = operate [o, i] (getItem o i)
theorem vals1 {x : V} {us : List Value} (r : Vals [x] us) : ∃ u, us = [u] ∧ RelV x u := by
  cases r with
  | cons r1 r2 => cases r2; exact ⟨_, rfl, r1⟩
theorem vals2 {x y : V} {us : List Value} (r : Vals [x, y] us) : ∃ u w', us = [u, w'] ∧ RelV x u ∧ RelV y w' := by
  cases r with
  | cons r1 r2 =>
    cases r2 with
    | cons r3 r4 => cases r4; exact ⟨_, _, rfl, r1, r3⟩
theorem call_max2 (hc : X.calm = true) : CallR X (.builtin "max") (fun xs H Q => ∃ i j, xs = [.int i, .int j] ∧ Q (.int (if j > i then j else i)) H) := by
  intro pins s σ H xs us Q I r h
  obtain ⟨i, j, rfl, q⟩ := h
  obtain ⟨u, w', rfl, ⟨t, rfl⟩, ⟨t', rfl⟩⟩ := vals2 r
  refine max_two_ints (I.ok.hd hc) fun h' tk k => ⟨_, H, I.kept k, ?_, q⟩
  by_cases hj : j > i
  · rw [if_pos hj, if_pos hj]; exact ⟨_, rfl⟩
  · rw [if_neg hj, if_neg hj]; exact ⟨_, rfl⟩
def LenV (K : PySem.W.Frag) (x : V) (H : Hp) (n : Nat) : Prop :=
  match x with
  | .str y => y.length ≤ sizeLine ∧ n = y.length
  | .byt y => y.size ≤ sizeLine ∧ n = y.size
  | .ref p => (∃ xs, SqL K H p xs ∧ n = xs.length) ∨ ∃ xs, SqT K H p xs ∧ n = xs.length
  | _ => False
end
end L2
namespace L2
open PySem PySem.Spec PyProof.Rows
structure ObjM (h : Heap) (x dx C : Addr) (mA : Str → Option Value) : Prop where
  obj : h.get? x = some (PySem.W.instObj C dx)
  ns : h.Ns1 dx mA
  ne : dx ≠ x
theorem lookIn_ns {h : Heap} {dx : Addr} {mA : Str → Option Value} (n : h.Ns1 dx mA) : ∃ od, h.get? dx = some od ∧ ∀ name, PySem.W.lookIn name od = some (mA name) := by
  obtain ⟨o, es, ep, ho, hd, hk, _, hm⟩ := n
  refine ⟨o, ho, fun name => ?_⟩
  have e := hm name
  unfold nsFind findBy at e
  rw [← Array.find?_toList] at e
  unfold PySem.W.lookIn
  rw [hd]
  dsimp only
  split
  · rename_i y q
    rw [q] at e
    exact congrArg some e
  · rename_i q
    rw [q] at e
    have a : es.toList.any (·.refKey) = false := by
      rw [List.any_eq_false]
      intro y hy
      obtain ⟨z, t, hkey⟩ := hk y (Array.mem_toList_iff.mp hy)
      simp [DictEntry.refKey, hkey]
    have a' : ¬ es.toList.any (·.refKey) = true := by rw [a]; exact Bool.false_ne_true
    rw [if_neg a']
    exact congrArg some e
theorem ObjM.look {h : Heap} {x dx C : Addr} {mA : Str → Option Value} (I : ObjM h x dx C mA) : ∃ od, PySem.W.InstAt h x (PySem.W.instObj C dx) C (some od) ∧ ∀ name, PySem.W.lookIn name od = some (mA name) :=
  let ⟨od, ho, hl⟩ := lookIn_ns I.ns
  ⟨od, ⟨I.obj, rfl, rfl, ho⟩, hl⟩
section
variable {prog : Program} {w : World} {A : Around} {E : Value → Shared → Prop} {s : Shared} {K : PySem.W.Frag} {x dx C f : Addr} {mA : Str → Option Value} {name : Str} {v : Value}
theorem get_map {expr : Bool} {Q : Value → Shared → Prop} (X : K.In s.heap) (I : ObjM s.heap x dx C mA) (hg : PySem.W.plainGet K C name = true) (hh : PySem.W.hasDictIn K C = true)
    (ha : PySem.W.findIn K (.ref C) name = some none) (hv : mA name = some v) (hv' : PySem.W.handedIn v = true) (h : Q v { s with toks := s.toks + 1 }) :
    wpAny (model prog w) A (getAttr (.ref x) name expr) Q E s := by
  obtain ⟨od, J, hl⟩ := I.look
  exact PySem.W.get_value X J (PySem.W.plainGet_of hg).1 (PySem.W.findObj_own hh ha rfl (by rw [hl, hv])) hv' h
theorem get_meth {pl : Sem Bool} {Q : Value × List Value → Shared → Prop} (X : K.In s.heap) (I : ObjM s.heap x dx C mA) (hg : PySem.W.plainGet K C name = true)
    (hf : PySem.W.findIn K (.ref C) name = some (some (.ref f))) (ht : PySem.W.isFn K (.ref f) = true) (hv : mA name = none) (h : Q (.ref f, [.ref x]) s) :
    wpAny (model prog w) A (getMethod (.ref x) name pl) Q E s := by
  obtain ⟨od, J, hl⟩ := I.look
  exact PySem.W.method_fn X J (PySem.W.plainGet_of hg).1 (PySem.W.plainGet_of hg).2 hf (beq_iff_eq.mp ht) (by show (PySem.W.lookIn name od).map (·.isSome) = some false; rw [hl, hv]; rfl) h
theorem set_map {ns : List Str} {Q : Unit → Shared → Prop} (X : K.In s.heap) (I : ObjM s.heap x dx C mA)
    (hs : PySem.W.findIn K (.ref C) "__setattr__" = some (some (.builtin "object.__setattr__"))) (hp : PySem.W.plainOver K C = true) (ht : PySem.W.takerIn K C name = some none) (hh : PySem.W.hasDictIn K C = true)
    (hw : PySem.Within mA ns) (hsz : ns.length ≤ sizeLine)
    (h : ∀ h', ObjM h' x dx C (fun y => if y = name then some v else mA y) → Heap.SameBut dx s.heap h' → Q () { s with heap := h', toks := s.toks + 2 }) :
    wpAny (model prog w) A (setAttr (.ref x) name v) Q E s := by
  obtain ⟨od, J, hl⟩ := I.look
  refine PySem.W.set_plain X J hs (PySem.W.osa_open (s := { s with toks := s.toks + 1 }) (r := none) X J hp ht fun b => ?_)
  obtain ⟨cd, hc, hd'⟩ := PySem.W.any_some hh
  have hx : s.heap.get? x = some ⟨.ref C, some dx, .plain, #[]⟩ := I.obj
  refine wpAny_bind (wpAny_pure (wpAny_bind (wpAny_bind (wpAny_loadPart hx (wpAny_bind (PySem.W.Looks.here (s := { s with toks := s.toks + 1 }) (PySem.W.looks_clsIn X hc) ?_))))))
  rw [hd']
  refine wpAny_pure (a := some dx) (wpAny_bind (wpAny_pure (wpAny_bind ?_)))
  refine wpAny_nsSet1 (s := { s with toks := s.toks + 1 }) I.ns fun h' hn2 hs2 => ?_
  obtain ⟨oD, esD, epD, hoD, hdD, hcD⟩ := hn2.count (PySem.Within.cons name v hw)
  refine wpAny_bind (wpAny_lookBehind hoD (by rw [hdD]; exact pastItsLine_dict (Nat.le_trans hcD (by rw [List.length_cons]; omega))) ?_)
  exact wpAny_pure (h _ ⟨(hs2.2 _ (Ne.symm I.ne)).trans I.obj, hn2, I.ne⟩ hs2)
theorem make_map {R : Result → Shared → Prop} {vs : List Value} {kw : List (Str × Value)} (X : K.In s.heap) (hm : PySem.W.makesIn K C = true)
    (hi : PySem.W.findIn K (.ref C) "__init__" = some (some (.ref f))) (hf : PySem.W.typeIn K (.ref f) = some (.type "function"))
    (h : codeAny (model prog w) (A.under (.builtin "type.__call__" ⟨.ref C :: vs, kw⟩)) (.call (.ref f) ⟨.ref (s.heap.objs.size + 1) :: vs, kw⟩) (PySem.W.InitBack (s.heap.objs.size + 1) R)
      { s with heap := (s.heap.push PySem.W.emptyDict).push (PySem.W.instObj C s.heap.objs.size) }) :
    codeAny (model prog w) A (.call (.ref C) ⟨vs, kw⟩) R s := by
  obtain ⟨hh, g, d, t, os⟩ := s
  exact PySem.W.make_core (PySem.W.makes_of X hm) (PySem.W.looks_findIn X hi) (fun self => PySem.W.bind_fn X self hf) (.inl rfl) h
end
def putF (f : Str) (v : V) : List (Str × V) → List (Str × V)
  | [] => [(f, v)]
  | (g, x) :: r => if g = f then (g, v) :: r else (g, x) :: putF f v r
theorem lookup_putF (f g : Str) (v : V) : ∀ fs : List (Str × V), (putF f v fs).lookup g = if g = f then some v else fs.lookup g
  | [] => by
    show List.lookup g [(f, v)] = _
    by_cases h : g = f
    · have hb : (g == f) = true := beq_iff_eq.mpr h
      simp only [List.lookup, hb, if_pos h]
    · have hb : (g == f) = false := beq_eq_false_iff_ne.mpr h
      simp only [List.lookup, hb, if_neg h]
  | (k, x) :: r => by
    have ih := lookup_putF f g v r
    rw [show putF f v ((k, x) :: r) = (if k = f then (k, v) :: r else (k, x) :: putF f v r) from rfl]
    by_cases hk : k = f
    · rw [if_pos hk]
      by_cases h : g = k
      · have hb : (g == k) = true := beq_iff_eq.mpr h
        simp only [List.lookup, hb, if_pos (h.trans hk)]
      · have hb : (g == k) = false := beq_eq_false_iff_ne.mpr h
        simp only [List.lookup, hb, if_neg (fun e : g = f => h (e.trans hk.symm))]
    · rw [if_neg hk]
      by_cases h : g = k
      · have hb : (g == k) = true := beq_iff_eq.mpr h
        simp only [List.lookup, hb, if_neg (fun e : g = f => hk (h.symm.trans e))]
      · have hb : (g == k) = false := beq_eq_false_iff_ne.mpr h
        simp only [List.lookup, hb]
        exact ih
theorem keys_putF (f : Str) (v : V) : ∀ fs : List (Str × V), f ∈ (putF f v fs).map (·.1) ∧ ∀ g, g ∈ fs.map (·.1) → g ∈ (putF f v fs).map (·.1)
  | [] => ⟨by simp [putF], fun g h => by simp at h⟩
  | (k, x) :: r => by
    obtain ⟨i1, i2⟩ := keys_putF f v r
    rw [show putF f v ((k, x) :: r) = (if k = f then (k, v) :: r else (k, x) :: putF f v r) from rfl]
    by_cases hk : k = f
    · rw [if_pos hk]
      subst hk
      exact ⟨by simp, fun g h => by simpa using h⟩
    · rw [if_neg hk]
      refine ⟨?_, fun g h => ?_⟩
      · rw [List.map_cons]
        exact List.mem_cons_of_mem _ i1
      · rw [List.map_cons] at h ⊢
        rcases List.mem_cons.mp h with e | e
        · exact List.mem_cons.mpr (.inl e)
        · exact List.mem_cons_of_mem _ (i2 g e)
theorem length_putF (f : Str) (v : V) : ∀ fs : List (Str × V), (putF f v fs).length ≤ fs.length + 1
  | [] => by simp [putF]
  | (k, x) :: r => by
    have ih := length_putF f v r
    rw [show putF f v ((k, x) :: r) = (if k = f then (k, v) :: r else (k, x) :: putF f v r) from rfl]
    by_cases hk : k = f
    · rw [if_pos hk, List.length_cons, List.length_cons]; omega
    · rw [if_neg hk, List.length_cons, List.length_cons]; omega
theorem RelO.some_of {v : V} {o : Option Value} (r : RelO (some v) o) : ∃ u, o = some u ∧ RelV v u := by
  cases o with
  | none => exact (show False from r).elim
  | some u => exact ⟨u, rfl, r⟩
theorem RelO.none_of {o : Option Value} (r : RelO none o) : o = none := by
  cases o with
  | none => rfl
  | some u => exact (show False from r).elim
theorem handed_of {v : V} {u : Value} (r : RelV v u) : PySem.W.handedIn u = true := by
  cases v with
  | non => cases (show u = Value.none from r); rfl
  | bl b => cases (show u = Value.bool b from r); rfl
  | int i => obtain ⟨t, e⟩ := (show ∃ t, u = Value.int i t from r); cases e; rfl
  | str x => obtain ⟨t, e⟩ := (show ∃ t, u = Value.str x t from r); cases e; rfl
  | byt b => obtain ⟨t, e⟩ := (show ∃ t, u = Value.bytes b t from r); cases e; rfl
  | flt b => obtain ⟨t, e⟩ := (show ∃ t, u = Value.float b t from r); cases e; rfl
  | ref a => cases (show u = Value.ref a from r); rfl
  | ty n => cases (show u = Value.type n from r); rfl
section
variable {P : Program} {w : World} {H H' : Hp} {h h' : Heap} {a C dx : Addr} {fs fs' : List (Str × V)}
theorem ins_get (hok : HOk P w H h) (e : H a = some (.ins C dx fs)) : ∃ mA, ObjM h a dx C mA ∧ (∀ f, RelO (fs.lookup f) (mA f)) ∧ PySem.Within mA (fs.map (·.1)) ∧ fs.length ≤ 1000 ∧ H dx = some (.own a) := by
  obtain ⟨d, z, ne, ob, mA, n, r, q⟩ := (show ObjOk P w H h a (.ins C dx fs) from hok a _ e)
  exact ⟨mA, ⟨ob, n, ne⟩, r, q, z, d⟩
end
structure Cls (K : PySem.W.Frag) (C : Addr) : Prop where
  pg : PySem.W.plainGet K C Str.empty = true
  hd : PySem.W.hasDictIn K C = true
  po : PySem.W.plainOver K C = true
  sa : PySem.W.findIn K (.ref C) "__setattr__" = some (some (.builtin "object.__setattr__"))
theorem Cls.get {K : PySem.W.Frag} {C : Addr} (c : Cls K C) (f : Str) : PySem.W.plainGet K C f = true := c.pg
def NoAttr (K : PySem.W.Frag) (C : Addr) (f : Str) : Prop := PySem.W.findIn K (.ref C) f = some none
theorem NoAttr.taker {K : PySem.W.Frag} {C : Addr} {f : Str} (n : NoAttr K C f) : PySem.W.takerIn K C f = some none := by
  unfold PySem.W.takerIn
  rw [show PySem.W.findIn K (.ref C) f = some none from n]
  rfl
structure Con (K : PySem.W.Frag) (C : Addr) (f : Str) (v : V) (u : Value) : Prop where
  at_ : PySem.W.findIn K (.ref C) f = some (some u)
  rel : RelV v u
  get : PySem.W.specialIn K u "__get__" = some none
  cp : PySem.W.copiedNames.contains f = false
structure Meth (K : PySem.W.Frag) (C : Addr) (m : Str) (f : Addr) : Prop where
  at_ : PySem.W.findIn K (.ref C) m = some (some (.ref f))
  fn : PySem.W.isFn K (.ref f) = true
  kp : PySem.W.keepIn K (.ref f) = true
section
variable {X : Cx} {pins : List (Addr × Obj)} {σ : St} {H : Hp} {s : Shared} {a C dx : Addr} {fs : List (Str × V)} {f : Str} {v : V} {A : Around} {E : Value → Shared → Prop}
theorem getattr_ok {b : Bool} {Q : Value → Shared → Prop} (I : Inv X pins σ H s) (e : H a = some (.ins C dx fs)) (c : Cls X.K C) (n : NoAttr X.K C f) (l : fs.lookup f = some v)
    (h : ∀ u s', Inv X pins σ H s' → RelV v u → Q u s') : wpAny (model X.prog X.w) A (getAttr (.ref a) f b) Q E s := by
  obtain ⟨mA, O, r, _, _, _⟩ := ins_get I.hok e
  obtain ⟨u, hu, ru⟩ := RelO.some_of (v := v) (o := mA f) (by rw [← l]; exact r f)
  exact get_map I.kIn O (c.get f) c.hd n hu (handed_of ru) (h u _ (I.tok _) ru)
theorem getmeth_ok {m : Str} {g : Addr} {pl : Sem Bool} {Q : Value × List Value → Shared → Prop} (I : Inv X pins σ H s) (e : H a = some (.ins C dx fs)) (c : Cls X.K C) (k : Meth X.K C m g) (l : fs.lookup m = none)
    (h : Q (.ref g, [.ref a]) s) : wpAny (model X.prog X.w) A (getMethod (.ref a) m pl) Q E s := by
  obtain ⟨mA, O, r, _, _, _⟩ := ins_get I.hok e
  have hn : mA m = none := RelO.none_of (by rw [← l]; exact r m)
  exact get_meth I.kIn O (c.get m) k.at_ k.fn hn h
theorem setattr_ok {y : V} {u : Value} {Q : Unit → Shared → Prop} (I : Inv X pins σ H s) (e : H a = some (.ins C dx fs)) (c : Cls X.K C) (n : NoAttr X.K C f) (hl : fs.length < 1000) (ry : RelV y u)
    (h : ∀ s', Inv X pins σ (upd H a (.ins C dx (putF f y fs))) s' → Q () s') : wpAny (model X.prog X.w) A (setAttr (.ref a) f u) Q E s := by
  obtain ⟨mA, O, r, wi, _, ho⟩ := ins_get I.hok e
  have hz : (fs.map (·.1)).length ≤ sizeLine := by rw [List.length_map, sizeLine_eq]; omega
  refine set_map I.kIn O c.sa c.po n.taker c.hd wi hz fun h' O' sb => h _ ?_
  have hd : ∃ o, h'.get? dx = some o := let ⟨o, _, _, e', _⟩ := O'.ns; ⟨o, e'⟩
  refine I.write (x := a) (e := dx) (by rw [e]; exact True.intro) (.inr ho) (fun b q hb z => (sb.2 b hb).trans z) hd ?_
  refine ⟨by rw [upd_ne O.ne]; exact ho, ?_, O.ne, O'.obj, _, O'.ns, fun g => ?_, fun g hg => ?_⟩
  · have := length_putF f y fs; omega
  · show RelO ((putF f y fs).lookup g) (if g = f then some u else mA g)
    rw [lookup_putF]
    by_cases q : g = f
    · rw [if_pos q, if_pos q]; exact ry
    · rw [if_neg q, if_neg q]; exact r g
  · by_cases q : g = f
    · rw [q]; exact (keys_putF f y fs).1
    · refine (keys_putF f y fs).2 g (wi g fun z => hg ?_)
      show (if g = f then some u else mA g) = none
      rw [if_neg q]; exact z
theorem Inv.made (I : Inv X pins σ H s) : Inv X pins σ (upd (upd H s.heap.objs.size (.own (s.heap.objs.size + 1))) (s.heap.objs.size + 1) (.ins C s.heap.objs.size []))
    { s with heap := (s.heap.push PySem.W.emptyDict).push (PySem.W.instObj C s.heap.objs.size) } := by
  have e1 : (s.heap.push PySem.W.emptyDict).get? s.heap.objs.size = some PySem.W.emptyDict := Heap.get?_push_size s.heap rfl
  have e2 : ((s.heap.push PySem.W.emptyDict).push (PySem.W.instObj C s.heap.objs.size)).get? (s.heap.objs.size + 1) = some (PySem.W.instObj C s.heap.objs.size) := by
    have := Heap.get?_push_size (s.heap.push PySem.W.emptyDict) (o := PySem.W.instObj C s.heap.objs.size) rfl
    rwa [Heap.size_push] at this
  have e3 : (s.heap.push PySem.W.emptyDict).Ns s.heap.objs.size (fun _ => none) := ⟨PySem.W.emptyDict, #[], _, e1, rfl, (fun e he => absurd he (by simp)), fun _ => rfl⟩
  have I1 := I.laid (a := s.heap.objs.size) (o := .own (s.heap.objs.size + 1)) (h' := s.heap.push PySem.W.emptyDict) (t' := s.toks) (fun b u q => Heap.get?_push_of_some _ q) (Nat.le_refl _) ⟨_, e1⟩
  refine I1.laid (a := s.heap.objs.size + 1) (o := .ins C s.heap.objs.size []) (t' := s.toks) (fun b u q => Heap.get?_push_of_some _ q) (Nat.le_of_eq (Heap.size_push _ _)) ?_
  have ne : s.heap.objs.size ≠ s.heap.objs.size + 1 := Nat.ne_of_lt (Nat.lt_succ_self _)
  refine ⟨by rw [upd_ne ne, upd_same], Nat.zero_le _, ne, e2, fun _ => none, (Heap.Ns1.of_empty e3).at fun o q => Heap.get?_push_of_some _ q, fun _ => True.intro, fun y hy => absurd rfl hy⟩
theorem attr_of {prog : Program} {w : World} {env : Env} {e : Expr} {f : Str} {pos : Pos} {s : Shared} {Q : Value → Shared → Prop} (hb : attributeBase e f env (eval e env) = eval e env)
    (h : wpAny (model prog w) A (eval e env) (fun o s₁ => wpAny (model prog w) A (getAttr o f true) Q E s₁) E s) : wpAny (model prog w) A (eval (.Attribute e f pos) env) Q E s :=
  Attribute_any_ h (by rw [arm_eval_Attribute, hb])
end
def tFld (K : PySem.W.Frag) (ta : TE) (f : Str) : TE := fun σ H Q => ta σ H fun x H1 => ∃ a C dx fs v, x = .ref a ∧ H1 a = some (.ins C dx fs) ∧ Cls K C ∧ NoAttr K C f ∧ fs.lookup f = some v ∧ Q v H1
def tCon (K : PySem.W.Frag) (ta : TE) (f : Str) : TE := fun σ H Q => ta σ H fun x H1 => ∃ a C dx fs v u, x = .ref a ∧ H1 a = some (.ins C dx fs) ∧ Cls K C ∧ Con K C f v u ∧ fs.lookup f = none ∧ Q v H1
def sFld (K : PySem.W.Frag) (ta tv : TE) (f : Str) : TS := fun D σ H => tv σ H fun y H1 => ta σ H1 fun x H2 => ∃ a C dx fs, x = .ref a ∧ H2 a = some (.ins C dx fs) ∧ Cls K C ∧ NoAttr K C f ∧ fs.length < 1000 ∧
  D.nx σ (upd H2 a (.ins C dx (putF f y fs)))
def InOp (X : Cx) (op : Operator) (rd : V → V → Hp → VK → Prop) : Prop :=
  ∀ (pins : List (Addr × Obj)) (s : Shared) (σ : St) (H : Hp) (x y : V) (u v : Value) (Q : VK), Inv X pins σ H s → RelV x u → RelV y v → rd x y H Q → wpAny (model X.prog X.w) X.A (inplaceOp op u v) (EP X pins σ Q) X.xe s
def sFldAug (K : PySem.W.Frag) (ta tv : TE) (rd : V → V → Hp → VK → Prop) (f : Str) : TS := fun D σ H => ta σ H fun x H1 => ∃ a C dx fs v, x = .ref a ∧ H1 a = some (.ins C dx fs) ∧ Cls K C ∧ NoAttr K C f ∧ fs.lookup f = some v ∧
  tv σ H1 fun y H2 => rd v y H2 fun z H3 => ∃ dx' fs', H3 a = some (.ins C dx' fs') ∧ fs'.length < 1000 ∧ D.nx σ (upd H3 a (.ins C dx' (putF f z fs')))
section
variable {X : Cx} {o e value : Expr} {f : Str} {pos pos' tpos : Pos} {ta tv : TE}
theorem pe_fld (he : PE X e ta) (hb : attributeBase e f X.env (eval e X.env) = eval e X.env) : PE X (.Attribute e f pos) (tFld X.K ta f) := by
  intro pins s σ H Q I h
  refine attr_of hb (thn (he pins s σ H _ I h) fun u s1 ⟨x, H1, I1, rx, a, C, dx, fs, v, ex, ea, c, n, l, q⟩ => ?_)
  subst ex
  obtain rfl : u = Value.ref a := rx
  exact getattr_ok I1 ea c n l fun u' s2 I2 ru => ⟨v, H1, I2, ru, q⟩
theorem ps_fld (ha : PE X o ta) (hv : PE X value tv) (hs : swapsWith value (some (.Attribute o f pos')) pos.line X.env = pure false) : PS X (.Assign [.Attribute o f pos'] value pos) (sFld X.K ta tv f) := by
  intro pins s σ H D I h
  refine plainObj_wpAny_Assign_Attribute (thn (hv pins s σ H _ I h) fun u s1 ⟨y, H1, I1, ry, q⟩ => thn (ha pins s1 σ H1 _ I1 q) fun ov s2 ⟨x, H2, I2, rx, a, C, dx, fs, ex, ea, c, n, l, q2⟩ => ?_) hs
  subst ex
  obtain rfl : ov = Value.ref a := rx
  exact setattr_ok I2 ea c n l ry fun s3 I3 => ⟨σ, _, I3, q2⟩
def rAdd : V → V → Hp → VK → Prop := fun x y H Q => ∃ i j, x = .int i ∧ y = .int j ∧ Q (.int (i + j)) H
def rSub : V → V → Hp → VK → Prop := fun x y H Q => ∃ i j, x = .int i ∧ y = .int j ∧ Q (.int (i - j)) H
end
section
variable {X : Cx} {pins : List (Addr × Obj)} {σ : St} {H : Hp} {s : Shared} {A : Around} {E : Value → Shared → Prop} {Q : Value → Shared → Prop} {c : Value} {b : Bool}
inductive TyOf (K : PySem.W.Frag) (H : Hp) : V → Value → Prop where
  | non : TyOf K H .non (.type "NoneType")
  | bl (x : Bool) : TyOf K H (.bl x) (.type "bool")
  | int (i : Int) : TyOf K H (.int i) (.type "int")
  | str (x : Str) : TyOf K H (.str x) (.type "str")
  | flt (x : UInt64) : TyOf K H (.flt x) (.type "float")
  | lst {a : Addr} {xs : List V} (e : H a = some (.lst xs)) : TyOf K H (.ref a) (.type "list")
  | frz {a : Addr} {o : Obj} {xs : List V} (e : H a = some (.frz o (.lst xs))) : TyOf K H (.ref a) (.type "list")
  | tup {a : Addr} {xs : List V} (e : H a = some (.tup xs)) : TyOf K H (.ref a) (.type "tuple")
  | dK {a : Addr} {kvs : List (Key × V)} (e : H a = some (.dK kvs)) : TyOf K H (.ref a) (.type "dict")
  | dT {a : Addr} {kvs : List (List Key × V)} (e : H a = some (.dT kvs)) : TyOf K H (.ref a) (.type "dict")
  | ins {a C dx : Addr} {fs : List (Str × V)} (e : H a = some (.ins C dx fs)) (cl : Cls K C) (ha : PySem.W.findIn K (.ref C) "__class__" = some (some (.builtin "object.__class__")))
      (hn : PySem.W.specialIn K (.builtin "object.__class__") "__get__" = some (some (.builtin "getset_descriptor.__get__"))) (htk : PySem.W.takesIn K (.builtin "object.__class__") = some true)
      (hm : PySem.W.mroIn K C (.type "object") = some true) : TyOf K H (.ref a) (.ref C)
end
end L2
namespace L2
open PySem PySem.Spec PyProof.Rows
structure Room (k : Nat) (A : Around) : Prop where
  hd : A.handled = none
  dp : A.depth + 3 * k + 5 < recursionLimit
  un : A.units + 16 * k + 200 < cLine
theorem Room.mono {j k : Nat} {A : Around} (r : Room k A) (h : j ≤ k) : Room j A := ⟨r.hd, by have := r.dp; omega, by have := r.un; omega⟩
theorem Room.deeper {k : Nat} {A : Around} (r : Room (k + 1) A) (env : Env) : Room k (A.deeper env) :=
  ⟨r.hd, by have := r.dp; show A.depth + 1 + 3 * k + 5 < _; omega, by have := r.un; show A.units + 3 + 16 * k + 200 < _; omega⟩
theorem make_depth {A : Around} {C : Addr} {us : List Value} {kw : List (Str × Value)} : (A.under (.builtin "type.__call__" ⟨.ref C :: us, kw⟩)).depth = A.depth + 1 := by
  first | rfl | simp [Around.under, Code.weight, Code.isCreation, Code.isGuard, Code.isCaller, Code.frames, Code.isFrame, guardIds]
theorem make_units {A : Around} {C : Addr} {us : List Value} {kw : List (Str × Value)} : (A.under (.builtin "type.__call__" ⟨.ref C :: us, kw⟩)).units = A.units + 1 := by
  first | rfl | simp [Around.under, Code.cUnits, Code.frames, Code.isFrame]
theorem Room.make {k : Nat} {A : Around} (r : Room (k + 1) A) (C : Addr) (us : List Value) (kw : List (Str × Value)) : Room k (A.under (.builtin "type.__call__" ⟨.ref C :: us, kw⟩)) :=
  ⟨r.hd, by have := r.dp; rw [make_depth]; omega, by have := r.un; rw [make_units]; omega⟩
theorem Room.depth {k : Nat} {A : Around} (r : Room k A) : A.depth < recursionLimit := by have := r.dp; omega
theorem Room.units {k : Nat} {A : Around} (r : Room k A) : A.units + 64 < cLine := by have := r.un; omega
def tNil : TA := fun _ H Q => Q [] H
def tCons (ta : TE) (tr : TA) : TA := fun σ H Q => ta σ H fun x H1 => tr σ H1 fun xs H2 => Q (x :: xs) H2
section
variable {X : Cx} {e : Expr} {es : List Expr} {te : TE} {t : TA} {pos : Pos}
theorem pa_nil : PA X [] tNil := fun _ _ _ _ H Q I h => Calls.spliced_nil ⟨[], H, I, .nil, h⟩
theorem pa_cons (ha : PE X e te) (hr : PA X es t) (hs : starEach (e :: es) X.env = (false, eval e X.env) :: starEach es X.env := by rfl) : PA X (e :: es) (tCons te t) := by
  intro pos pins s σ H Q I h
  rw [hs]
  show wpAny _ _ (spliced ((false, eval e X.env) :: backTo pos (starEach es X.env))) _ _ s
  refine Calls.spliced_cons (thn (ha pins s σ H _ I h) fun u s1 ⟨x, H1, I1, r1, q1⟩ => ?_)
  exact thn (hr pos pins s1 σ H1 _ I1 q1) fun us s2 ⟨xs, H2, I2, r2, q2⟩ => ⟨x :: xs, H2, I2, .cons r1 r2, q2⟩
def tTup (t : TA) : TE := fun σ H Q => t σ H fun xs H1 => xs.length ≤ sizeLine ∧ ∀ p, H1 p = none → Q (.ref p) (upd H1 p (.tup xs))
def tLst (t : TA) : TE := fun σ H Q => t σ H fun xs H1 => xs.length ≤ sizeLine ∧ ∀ p, H1 p = none → Q (.ref p) (upd H1 p (.lst xs))
theorem pe_tup {x1} (h : PA X es t) : PE X (.Tuple es x1 pos) (tTup t) := by
  intro pins s σ H Q I hq
  refine wpAny_Tuple_spliced (thn (h pos pins s σ H _ I hq) fun us s1 ⟨xs, H1, I1, r, z, q⟩ => ⟨by rw [← r.length]; exact z, ?_⟩)
  have hf : H1 s1.heap.objs.size = none := I1.hok.fresh (Nat.le_refl _)
  refine ⟨.ref s1.heap.objs.size, upd H1 s1.heap.objs.size (.tup xs), I1.laid (t' := s1.toks) (fun b u e => Heap.get?_push_of_some _ e) (Nat.le_refl _) ?_, rfl, q _ hf⟩
  exact ⟨z, us, r, ⟨_, Heap.get?_push_size _ rfl, rfl, _, rfl⟩⟩
theorem pe_lst (h : PA X es t) : PE X (.List es pos) (tLst t) := by
  intro pins s σ H Q I hq
  refine wpAny_List_spliced (thn (h pos pins s σ H _ I hq) fun us s1 ⟨xs, H1, I1, r, z, q⟩ => ⟨by rw [← r.length]; exact z, ?_⟩)
  have hf : H1 s1.heap.objs.size = none := I1.hok.fresh (Nat.le_refl _)
  refine ⟨.ref s1.heap.objs.size, upd H1 s1.heap.objs.size (.lst xs), I1.laid (t' := s1.toks) (fun b u e => Heap.get?_push_of_some _ e) (Nat.le_refl _) ?_, rfl, q _ hf⟩
  exact ⟨z, us, 0, r, Heap.get?_push_size _ rfl⟩
end
abbrev Sp := List V → Hp → VK → XK → Prop
abbrev CXT := List Env → Hp → Shared → XK → Value → Shared → Prop
structure Env0 (P : Program) (w : World) (K : PySem.W.Frag) (mg : Str → Option Value) (base : Heap) (A : Around) (outer : List Env) (s : Shared) (H : Hp) : Prop where
  frames : A.frames = some outer
  mod : Mod K mg base
  bs : ∀ b o, base.get? b = some o → s.heap.get? b = some o ∧ H b = none
  bsz : base.objs.size ≤ s.heap.objs.size
  funs : s.heap.FunFrames base outer
  frf : ∀ b ∈ frs outer, H b = none
  hok : HOk P w H s.heap
  bare : AllBare s.gens
def CE (outer : List Env) (P : Program) (w : World) (H : Hp) (s : Shared) (Q : VK) (u : Value) (s' : Shared) : Prop :=
  ∃ v H', s'.os = s.os ∧ AllBare s'.gens ∧ Un (frs outer) [] H H' s.heap s'.heap ∧ HOk P w H' s'.heap ∧ RelV v u ∧ Q v H'
def CR (CX : CXT) (outer : List Env) (P : Program) (w : World) (H : Hp) (s : Shared) (Q : VK) (E : XK) (r : Result) (s' : Shared) : Prop :=
  match r with
  | .ok (.ret u) => CE outer P w H s Q u s'
  | .ok _ => False
  | .error e => CX outer H s E e s'
structure FnOk (P : Program) (w : World) (K : PySem.W.Frag) (mg : Str → Option Value) (base : Heap) (CX : CXT) (k : Nat) (f : Addr) (fd : FuncData) (ps : List Str) (sp : Sp) : Prop where
  len : ∀ vs H Q E, sp vs H Q E → vs.length = ps.length
  run : ∀ (A : Around) (outer : List Env) (s : Shared) (H : Hp) (args : Args) (us : List Value) (vs : List V) (Q : VK) (E : XK), Room k A → Env0 P w K mg base A outer s H → BindsTo s fd args (ps.zip us) → Vals vs us → sp vs H Q E →
    codeAny (model P w) A (.call (.ref f) args) (CR CX outer P w H s Q E) s
theorem Env0.make {P : Program} {w : World} {K : PySem.W.Frag} {mg : Str → Option Value} {base : Heap} {A : Around} {outer : List Env} {s : Shared} {H : Hp} (e : Env0 P w K mg base A outer s H) (C : Addr) (us : List Value) (kw : List (Str × Value)) :
    Env0 P w K mg base (A.under (.builtin "type.__call__" ⟨.ref C :: us, kw⟩)) outer s H := ⟨by first | exact e.frames | (simpa [Around.under, Code.envs, Code.isFrame, pushEnvs] using e.frames), e.mod, e.bs, e.bsz, e.funs, e.frf, e.hok, e.bare⟩
section
variable {X : Cx} {pins : List (Addr × Obj)} {σ : St} {H : Hp} {s s' : Shared}
theorem Inv.env0 (I : Inv X pins σ H s) : Env0 X.prog X.w X.K X.mg X.base X.A X.stack s H :=
  ⟨I.ok.frames, I.ok.mod, I.bs, Nat.le_trans I.ok.bsz I.sz, I.stack, I.stkFree, I.hok, I.bare⟩
theorem Inv.after {Q : VK} {u : Value} (I : Inv X pins σ H s) (h : CE X.stack X.prog X.w H s Q u s') : EP X pins σ Q u s' := by
  obtain ⟨v, H', os, bare, un, hok, r, q⟩ := h
  obtain ⟨hh, g, d, t, os'⟩ := s'
  obtain rfl : os' = s.os := os
  exact ⟨v, H', I.call (h' := hh) (g' := g) (d' := d) (t' := t) (ch := []) un hok bare (fun b z => absurd z (by simp)), r, q⟩
end
def tCall (sp : Sp) (dvs : List V) (E : XK) (t : TA) : TE := fun σ H Q => t σ H fun vs H1 => sp (vs ++ dvs) H1 Q E
def tMeth (C : Addr) (m : Str) (sp : Sp) (dvs : List V) (E : XK) (ta : TE) (t : TA) : TE := fun σ H Q => ta σ H fun x H1 => ∃ a dx fs, x = .ref a ∧ H1 a = some (.ins C dx fs) ∧ fs.lookup m = none ∧
  t σ H1 fun vs H2 => sp (x :: (vs ++ dvs)) H2 Q E
def tMake (C : Addr) (sp : Sp) (dvs : List V) (E : XK) (t : TA) : TE := fun σ H Q => t σ H fun vs H1 => ∀ x dx, H1 x = none → H1 dx = none → dx ≠ x →
  sp (.ref x :: (vs ++ dvs)) (upd (upd H1 dx (.own x)) x (.ins C dx [])) (fun v H2 => v = .non ∧ Q (.ref x) H2) E
def Binds (K : PySem.W.Frag) (fd : FuncData) (ps : List Str) (ds : List Value) : Prop :=
  ∀ (s : Shared) (us : List Value), K.In s.heap → (us ++ ds).length = ps.length → BindsTo s fd ⟨us, []⟩ (ps.zip (us ++ ds))
theorem Binds.all {K : PySem.W.Frag} {fd : FuncData} {ps : List Str} (h : ∀ us : List Value, us.length = ps.length → bindArgs fd ⟨us, []⟩ = pure (ps.zip us)) : Binds K fd ps [] := fun s us _ hl => by
  rw [List.append_nil] at hl ⊢
  exact .of_eq (h us hl)
def Passes (CX : CXT) (X : Cx) (E : XK) : Prop := ∀ (pins : List (Addr × Obj)) (σ : St) (H : Hp) (s : Shared) (e : Value) (s' : Shared), Inv X pins σ H s → CX X.stack H s E e s' → X.xe e s'
section
variable {X : Cx} {CX : CXT} {k : Nat} {f C : Addr} {fd : FuncData} {ps : List Str} {sp : Sp} {dvs : List V} {ds : List Value} {E : XK} {x m : Str} {p pos apos : Pos} {e o : Expr} {es : List Expr} {ta : TE} {t : TA}
theorem run_fn {pins : List (Addr × Obj)} {σ : St} {H : Hp} {s : Shared} {Q : VK} {us : List Value} {vs : List V} (F : FnOk X.prog X.w X.K X.mg X.base CX k f fd ps sp) (hr : Room k X.A) (hb : Binds X.K fd ps ds) (hd : Vals dvs ds) (hx : Passes CX X E)
    (I : Inv X pins σ H s) (r : Vals vs us) (h : sp (vs ++ dvs) H Q E) : wpAny (model X.prog X.w) X.A (call (.ref f) us) (EP X pins σ Q) X.xe s := by
  have r2 : Vals (vs ++ dvs) (us ++ ds) := r.append hd
  have hl : (us ++ ds).length = ps.length := by rw [← r2.length]; exact F.len _ _ _ _ h
  refine wpAny_call (codeAny_mono (F.run X.A X.stack s H ⟨us, []⟩ (us ++ ds) (vs ++ dvs) Q E hr I.env0 (hb s us I.kIn hl) r2 h) fun r s' hq => ?_)
  cases r with
  | error e => exact hx pins σ H s e s' I hq
  | ok fl =>
    cases fl with
    | ret u => exact I.after hq
    | next => exact False.elim hq
    | brk => exact False.elim hq
    | cont => exact False.elim hq
theorem pe_call (F : FnOk X.prog X.w X.K X.mg X.base CX k f fd ps sp) (hr : Room k X.A) (hg : Gl X x) (hm : X.mg x = some (.ref f)) (hk : PySem.W.keepIn X.K (.ref f) = true) (hb : Binds X.K fd ps ds) (hd : Vals dvs ds) (hx : Passes CX X E)
    (ha : PA X (e :: es) t) (hdb : (x == ("__debug__" : Str)) = false := by decide) (he : starEach (e :: es) X.env = (false, eval e X.env) :: starEach es X.env := by rfl) (hpl : (backTo pos (starEach es X.env)).any (·.1) = false := by rfl) :
    PE X (.Call (.Name x p) (e :: es) [] pos) (tCall sp dvs E t) := by
  intro pins s σ H Q I h
  refine wpAny_Call_Name_kw (ld_glob I hg hm ?_ hdb)
  refine PySem.W.callWith_K (h₀ := X.base) I.ok.mod.kin hk (thn (ha pos pins s σ H _ I h) fun us s1 ⟨vs, H1, I1, r, q⟩ => ⟨I1.kIn, ?_⟩) he hpl
  exact run_fn F hr hb hd hx I1 r q
theorem pe_meth {pl : Sem Bool} (he : PE X o ta) (c : Cls X.K C) (hm : Meth X.K C m f) (F : FnOk X.prog X.w X.K X.mg X.base CX k f fd ps sp) (hr : Room k X.A) (hb : Binds X.K fd ps ds) (hd : Vals dvs ds) (hx : Passes CX X E) (ha : PA X (e :: es) t)
    (hst : starEach (e :: es) X.env = (false, eval e X.env) :: starEach es X.env := by rfl) (hpl : (backTo pos (starEach es X.env)).any (·.1) = false := by rfl)
    (ht : eval (.Call (.Attribute o m apos) (e :: es) [] pos) X.env = (do
      let ov ← eval o X.env
      standAt apos.atName
      let (f, first) ← holding [ov] (getMethod ov m pl)
      callWith pos f first (backTo pos (starEach (e :: es) X.env)) (backToKw pos (keywordEach [] X.env))) := by rfl) :
    PE X (.Call (.Attribute o m apos) (e :: es) [] pos) (tMeth C m sp dvs E ta t) := by
  intro pins s σ H Q I h
  refine PySem.W.methodCall_KW (pl := pl) (thn (he pins s σ H _ I h) fun u s1 ⟨x, H1, I1, rx, a, dx, fs, ex, ea, l, q⟩ => ?_) ht
  subst ex
  obtain rfl : u = Value.ref a := rx
  refine getmeth_ok I1 ea c hm l ?_
  refine PySem.W.callWith_K (first := [.ref a]) (h₀ := X.base) I.ok.mod.kin hm.kp (thn (ha pos pins s1 σ H1 _ I1 q) fun us s2 ⟨vs, H2, I2, r, q2⟩ => ⟨I2.kIn, ?_⟩) hst hpl
  exact run_fn (us := .ref a :: us) (vs := .ref a :: vs) F hr hb hd hx I2 (.cons rfl r) q2
theorem pe_meth0 {pl : Sem Bool} (he : PE X o ta) (c : Cls X.K C) (hm : Meth X.K C m f) (F : FnOk X.prog X.w X.K X.mg X.base CX k f fd ps sp) (hr : Room k X.A) (hb : Binds X.K fd ps ds) (hd : Vals dvs ds) (hx : Passes CX X E)
    (ht : eval (.Call (.Attribute o m apos) [] [] pos) X.env = (do
      let ov ← eval o X.env
      standAt apos.atName
      let (f, first) ← holding [ov] (getMethod ov m pl)
      callWith pos f first (backTo pos (starEach [] X.env)) (backToKw pos (keywordEach [] X.env))) := by rfl) :
    PE X (.Call (.Attribute o m apos) [] [] pos) (tMeth C m sp dvs E ta tNil) := by
  intro pins s σ H Q I h
  refine PySem.W.methodCall_KW (pl := pl) (thn (he pins s σ H _ I h) fun u s1 ⟨x, H1, I1, rx, a, dx, fs, ex, ea, l, q⟩ => ?_) ht
  subst ex
  obtain rfl : u = Value.ref a := rx
  refine getmeth_ok I1 ea c hm l ?_
  exact PySem.W.callWith_K0 (first := [.ref a]) I1.kIn hm.kp (run_fn (us := [.ref a]) (vs := [.ref a]) F hr hb hd hx I1 (.cons rfl .nil) q)
structure Mk (K : PySem.W.Frag) (C f : Addr) : Prop where
  makes : PySem.W.makesIn K C = true
  init : PySem.W.findIn K (.ref C) "__init__" = some (some (.ref f))
  fn : PySem.W.isFn K (.ref f) = true
  kp : PySem.W.keepIn K (.ref C) = true
theorem run_make {pins : List (Addr × Obj)} {σ : St} {H : Hp} {s : Shared} {Q : VK} {us : List Value} {vs : List V} (M : Mk X.K C f) (F : FnOk X.prog X.w X.K X.mg X.base CX k f fd ps sp) (hr : Room (k + 1) X.A) (hb : Binds X.K fd ps ds) (hd : Vals dvs ds)
    (hx : Passes CX X E) (I : Inv X pins σ H s) (r : Vals vs us)
    (h : ∀ x dx, H x = none → H dx = none → dx ≠ x → sp (.ref x :: (vs ++ dvs)) (upd (upd H dx (.own x)) x (.ins C dx [])) (fun v H2 => v = .non ∧ Q (.ref x) H2) E) :
    wpAny (model X.prog X.w) X.A (call (.ref C) us) (EP X pins σ Q) X.xe s := by
  have hq := h (s.heap.objs.size + 1) s.heap.objs.size (I.hok.fresh (Nat.le_succ _)) (I.hok.fresh (Nat.le_refl _)) (Nat.ne_of_lt (Nat.lt_succ_self _))
  have I2 := Inv.made (C := C) I
  have r2 : Vals (V.ref (s.heap.objs.size + 1) :: (vs ++ dvs)) (Value.ref (s.heap.objs.size + 1) :: (us ++ ds)) := .cons rfl (r.append hd)
  have hl : (Value.ref (s.heap.objs.size + 1) :: us ++ ds).length = ps.length := by
    have e := r2.length
    rw [F.len _ _ _ _ hq] at e
    exact e.symm
  refine wpAny_call (make_map (f := f) I.kIn M.makes M.init (beq_iff_eq.mp M.fn) (codeAny_mono (F.run _ X.stack _ _ ⟨Value.ref (s.heap.objs.size + 1) :: us, []⟩ (Value.ref (s.heap.objs.size + 1) :: (us ++ ds)) _ _ E (hr.make C us [])
    (I2.env0.make C us []) (hb _ (Value.ref (s.heap.objs.size + 1) :: us) I2.kIn hl) r2 hq) fun r s' hq' => ?_))
  cases r with
  | error e => exact hx pins σ _ _ e s' I2 hq'
  | ok fl =>
    cases fl with
    | ret u =>
      obtain ⟨v, H', I3, rv, ev, q3⟩ := I2.after hq'
      subst ev
      exact ⟨rv, ⟨V.ref (s.heap.objs.size + 1), H', I3, rfl, q3⟩⟩
    | next => exact False.elim hq'
    | brk => exact False.elim hq'
    | cont => exact False.elim hq'
theorem pe_make0 (M : Mk X.K C f) (F : FnOk X.prog X.w X.K X.mg X.base CX k f fd ps sp) (hr : Room (k + 1) X.A) (hg : Gl X x) (hm : X.mg x = some (.ref C)) (hb : Binds X.K fd ps ds) (hd : Vals dvs ds) (hx : Passes CX X E)
    (hdb : (x == ("__debug__" : Str)) = false := by decide) : PE X (.Call (.Name x p) [] [] pos) (tMake C sp dvs E tNil) := by
  intro pins s σ H Q I h
  refine wpAny_Call_Name_kw (ld_glob I hg hm ?_ hdb)
  exact PySem.W.callWith_K0 I.kIn M.kp (run_make (us := []) M F hr hb hd hx I .nil h)
end
def PK (X : Cx) (kws : List Keyword) (t : TA) : Prop :=
  ∀ (pos : Pos) (pins : List (Addr × Obj)) (s : Shared) (σ : St) (H : Hp) (Q : List V → Hp → Prop), Inv X pins σ H s → t σ H Q → wpAny (model X.prog X.w) X.A (evalAll ((backToKw pos (keywordEach kws X.env)).map (·.2))) (AP X pins σ Q) X.xe s
section
variable {X : Cx} {CX : CXT} {k : Nat} {f C : Addr} {fd : FuncData} {ps ks : List Str} {sp : Sp} {E : XK} {x m : Str} {p pos apos kpos : Pos} {e o : Expr} {es : List Expr} {kws : List Keyword} {te ta : TE} {t tk : TA} {nm : Option Str}
structure KBinds (K : PySem.W.Frag) (fd : FuncData) (ps ks : List Str) (g : List Value → List Value → List Value) (gV : List V → List V → List V) : Prop where
  to : ∀ (s : Shared) (us ws : List Value), K.In s.heap → (g us ws).length = ps.length → BindsTo s fd ⟨us, ks.zip ws⟩ (ps.zip (g us ws))
  rel : ∀ {vs : List V} {us : List Value} {zs : List V} {ws : List Value}, Vals vs us → Vals zs ws → Vals (gV vs zs) (g us ws)
def tCallK (sp : Sp) (gV : List V → List V → List V) (E : XK) (t tk : TA) : TE := fun σ H Q => t σ H fun vs H1 => tk σ H1 fun zs H2 => sp (gV vs zs) H2 Q E
variable {g : List Value → List Value → List Value} {gV : List V → List V → List V}
end
structure FnScope (N P : List Str) (sc : Scope) : Prop where
  kind : sc.kind = .function
  co : sc.isCoroutine = false
  gen : sc.isGenerator = false
  nd : N.Nodup
  pre : N.take P.length = P
  par : ∀ x ∈ P, sc.names.lookup x = some .local ∨ sc.names.lookup x = some .cell
  nofree : ∀ y ∈ sc.names, y.2 ≠ .free
theorem bindL_out {kindOf : Str → Option NameKind} {x : Str} : ∀ {binds : List (Str × Value)} {m : Str → Option Value}, (∀ v, (x, v) ∉ binds) → bindL kindOf binds m x = m x
  | [], _, _ => rfl
  | (n, v) :: r, m, h => by
    unfold bindL
    rw [bindL_out fun w hw => h w (List.mem_cons_of_mem _ hw)]
    split
    · have : x ≠ n := by rintro rfl; exact h v List.mem_cons_self
      simp [this]
    · rfl
theorem bindC_out {kindOf : Str → Option NameKind} {x : Str} : ∀ {binds : List (Str × Value)} {m : Str → Option Value}, (∀ v, (x, v) ∉ binds) → bindC kindOf binds m x = m x
  | [], _, _ => rfl
  | (n, v) :: r, m, h => by
    unfold bindC
    rw [bindC_out fun w hw => h w (List.mem_cons_of_mem _ hw)]
    split
    · rfl
    · have : x ≠ n := by rintro rfl; exact h v List.mem_cons_self
      simp [this]
theorem bindL_get {kindOf : Str → Option NameKind} {x : Str} {v : Value} : ∀ {P : List Str} {vs : List Value} {i : Nat} {m : Str → Option Value}, P.Nodup → P[i]? = some x → vs[i]? = some v → kindOf x = some .local →
    bindL kindOf (P.zip vs) m x = some v
  | [], _, _, _, _, h, _, _ => by simp at h
  | _ :: _, [], _, _, _, _, h, _ => by simp at h
  | p :: P, w :: vs, 0, m, nd, h1, h2, hk => by
    simp at h1 h2; subst h1; subst h2
    show bindL kindOf ((p, w) :: P.zip vs) m p = _
    unfold bindL
    rw [bindL_out fun v hv => (List.nodup_cons.mp nd).1 (List.of_mem_zip hv).1, if_pos hk]
    simp
  | p :: P, w :: vs, i + 1, m, nd, h1, h2, hk => by
    show bindL kindOf ((p, w) :: P.zip vs) m x = _
    unfold bindL
    exact bindL_get (i := i) (List.nodup_cons.mp nd).2 (by simpa using h1) (by simpa using h2) hk
theorem bindC_get {kindOf : Str → Option NameKind} {x : Str} {v : Value} : ∀ {P : List Str} {vs : List Value} {i : Nat} {m : Str → Option Value}, P.Nodup → P[i]? = some x → vs[i]? = some v → kindOf x ≠ some .local →
    bindC kindOf (P.zip vs) m x = some v
  | [], _, _, _, _, h, _, _ => by simp at h
  | _ :: _, [], _, _, _, _, h, _ => by simp at h
  | p :: P, w :: vs, 0, m, nd, h1, h2, hk => by
    simp at h1 h2; subst h1; subst h2
    show bindC kindOf ((p, w) :: P.zip vs) m p = _
    unfold bindC
    rw [bindC_out fun v hv => (List.nodup_cons.mp nd).1 (List.of_mem_zip hv).1, if_neg hk]
    simp
  | p :: P, w :: vs, i + 1, m, nd, h1, h2, hk => by
    show bindC kindOf ((p, w) :: P.zip vs) m x = _
    unfold bindC
    exact bindC_get (i := i) (List.nodup_cons.mp nd).2 (by simpa using h1) (by simpa using h2) hk
def start (N : List Str) (vs : List V) : St := vs.map some ++ List.replicate (N.length - vs.length) none
def cxOf (CX : CXT) (P : Program) (w : World) (K : PySem.W.Frag) (mg : Str → Option Value) (base : Heap) (N : List Str) (qual : Str) (scope : Scope) (f : Addr) (cd : Value) (A : Around) (outer : List Env) (s : Shared) (H : Hp) (E : XK) : Cx where
  prog := P
  w := w
  K := K
  mg := mg
  base := base
  A := A.deeper (envOfC qual scope s.heap.objs.size f cd)
  N := N
  s_0 := s
  H_0 := H
  env := envOfC qual scope s.heap.objs.size f cd
  outer := outer
  stack := envOfC qual scope s.heap.objs.size f cd :: outer
  ex := []
  calm := true
  fn := fun _ => true
  pn := []
  xe := fun e s' => wpAny (model P w) (A.deeper (envOfC qual scope s.heap.objs.size f cd)) (leaving (envOfC qual scope s.heap.objs.size f cd) e) (fun _ s'' => CX outer H s E e s'') (fun e' s'' => CX outer H s E e' s'') s'
theorem cell_has {sc : Scope} {n : Nat} {x : Str} (h : sc.names.lookup x = some .cell) : ∃ c, (cellsFrom n sc.names []).lookup x = some c := by
  have q := PySem.W.cellsFrom_some sc.names n [] (.inl h)
  exact Option.isSome_iff_exists.mp q
theorem inv_start {CX : CXT} {P : Program} {w : World} {K : PySem.W.Frag} {mg : Str → Option Value} {base : Heap} {N ps : List Str} {qual : Str} {scope : Scope} {f : Addr} {cd : Value} {A : Around} {outer : List Env} {s s1 : Shared} {H : Hp} {E : XK} {us : List Value} {vs : List V}
    (S : FnScope N ps scope) (hd : A.handled = none) (e0 : Env0 P w K mg base A outer s H) (hl : vs.length = ps.length) (r : Vals vs us)
    (x : InCallC s s.heap.objs.size (bindL (envOfC qual scope s.heap.objs.size f cd).kindOf (ps.zip us) fun _ => none) (cellsFrom (s.heap.objs.size + 1) scope.names []) (bindC (envOfC qual scope s.heap.objs.size f cd).kindOf (ps.zip us) fun _ => none) s1) :
    Inv (cxOf CX P w K mg base N qual scope f cd A outer s H E) [] (start N vs) H s1 := by
  have hpl : ps.length ≤ N.length := by have := congrArg List.length S.pre; rw [List.length_take] at this; omega
  obtain ⟨h1, tk, rfl, hk⟩ := x.done
  have noA : ∀ b : Addr, b ∉ (cxOf CX P w K mg base N qual scope f cd A outer s H E).ex := fun b z => absurd (show b ∈ ([] : List Addr) from z) (by simp)
  refine ⟨⟨e0.mod, S.kind, rfl, rfl, Nat.le_refl _, fun y z c h1 h2 => ?_, fun y hy => ?_, fun y c _ h => ?_, fun _ => hd, Around.frames_deeper e0.frames, .inr ⟨rfl, rfl⟩, fun b z => absurd z (noA b), e0.bs, e0.bsz, fun b _ _ => noA b, fun b z => absurd z (noA b), e0.funs, e0.frf⟩,
    rfl, e0.bare, Un.kept hk, ⟨_, x.toInCall.ns, fun i y v h1 h2 h3 => ?_⟩, fun y c h => ⟨_, x.cell y c h⟩, e0.hok.fresh (Nat.le_refl _), fun y c h => ?_, fun p hp => absurd (show p ∈ ([] : List (Addr × Obj)) from hp) (by simp), e0.hok.kept hk, ?_⟩
  · exact name_of_addr x.apart (PySem.mem_of_lookup h1) (PySem.mem_of_lookup h2)
  · have hy : scope.names.lookup y = some .cell ∨ scope.names.lookup y = some .free := hy
    rcases hy with hy | hy
    · exact cell_has hy
    · exact absurd rfl (S.nofree _ (PySem.mem_of_lookup hy))
  · exact Nat.le_of_lt (x.above y c (PySem.mem_of_lookup h))
  · have hi : i < vs.length := by
      unfold start at h2
      by_cases hi : i < vs.length
      · exact hi
      · rw [List.getElem?_append_right (by simpa using hi)] at h2
        rw [List.getElem?_replicate] at h2
        split at h2 <;> cases h2
    have ha : vs[i]? = some v := by
      unfold start at h2
      rw [List.getElem?_append_left (by simpa using hi), List.getElem?_map] at h2
      cases e : vs[i]? with
      | none => rw [e] at h2; cases h2
      | some a => rw [e] at h2; cases h2; rfl
    obtain ⟨u, hu, rv⟩ := r.get ha
    have hp : ps[i]? = some y := by
      rw [← S.pre, List.getElem?_take_of_lt (by omega)]; exact h1
    have ndP : ps.Nodup := by rw [← S.pre]; exact S.nd.sublist (List.take_sublist _ _)
    refine ⟨u, rv, ?_⟩
    rcases S.par y (List.mem_of_getElem? hp) with k | k
    · exact .inl ⟨k, bindL_get ndP hp hu k⟩
    · obtain ⟨c, e⟩ := cell_has (n := s.heap.objs.size + 1) k
      refine .inr ⟨.inl k, c, e, ?_⟩
      have q := x.cell y c e
      rw [bindC_get ndP hp hu (by show scope.names.lookup y ≠ _; rw [k]; decide)] at q
      exact q
  · exact e0.hok.fresh (Nat.le_of_lt (x.above y c (PySem.mem_of_lookup h)))
  · unfold start
    show _ = N.length
    rw [List.length_append, List.length_map, List.length_replicate]
    omega
theorem fn_of {CX : CXT} {P : Program} {w : World} {K : PySem.W.Frag} {mg : Str → Option Value} {base : Heap} {k : Nat} {f : Addr} {name qual : Str} {params : Arguments} {body : List Stmt} {scope : Scope} {dV kV doc pm cdv ct oc : Value} {an od : Option Addr}
    {osl : Array (Option Value)} {N ps : List Str} {sp : Sp} (lk : K.lookup f = some ⟨oc, od, .func (PySem.W.fnOf name qual params body scope dV kV doc pm an cdv ct), osl⟩) (hcd : PySem.W.codeIn K cdv qual = true) (S : FnScope N ps scope)
    (len : ∀ vs H Q E, sp vs H Q E → vs.length = ps.length)
    (hbody : ∀ (A : Around) (outer : List Env) (s : Shared) (H : Hp) (vs : List V) (Q : VK) (E : XK), Room k (A.deeper (envOfC qual scope s.heap.objs.size f cdv)) → sp vs H Q E →
      ∃ t, PSs (cxOf CX P w K mg base N qual scope f cdv A outer s H E) body t ∧ t { nx := fun _ H' => Q .non H', rt := Q } (start N vs) H) :
    FnOk P w K mg base CX (k + 1) f (PySem.W.fnOf name qual params body scope dV kV doc pm an cdv ct) ps sp := by
  refine ⟨len, fun A outer s H args us vs Q E hr e0 hb r hsp => ?_⟩
  have hl := len _ _ _ _ hsp
  have KX : K.In s.heap := e0.mod.kin.keeps fun b o e => (e0.bs b o e).1
  have lim : s.heap.NoLimit := e0.mod.nolimit.keeps fun b o e => (e0.bs b o e).1
  have hkind : ∀ y ∈ ps.zip us, scope.names.lookup y.1 = some .local ∨ (scope.names.lookup y.1 = some .cell ∧ ((cellsFrom (s.heap.objs.size + 1) scope.names []).lookup y.1).isSome = true) := fun ⟨n, v⟩ hy => by
    rcases S.par n (List.of_mem_zip hy).1 with q | q
    · exact .inl q
    · exact .inr ⟨q, PySem.W.cellsFrom_some _ _ _ (.inl q)⟩
  refine codeAny_call_function hr.depth (KX _ _ lk) rfl S.co S.gen rfl (PySem.W.codeRec_of KX hcd) (hb _ _ _ _ ?_)
  refine wpAny_newFunctionEnv_cells S.kind hkind fun env he s1 x => ?_
  subst he
  refine ⟨lim.keeps x.toInCall.keep, codeAny_func ?_⟩
  obtain ⟨t, ht, hq⟩ := hbody A outer s H vs Q E (hr.deeper _) hsp
  have I : Inv (cxOf CX P w K mg base N qual scope f cdv A outer s H E) [] (start N vs) H s1 := inv_start S hr.hd e0 hl r x
  refine wpAny_mono (ht [] s1 (start N vs) H _ I hq) (fun fl s' hs => ?_) fun e s' hs => hs
  have fin : ∀ {σ' : St} {H' : Hp} {v : V} {u : Value}, Inv (cxOf CX P w K mg base N qual scope f cdv A outer s H E) [] σ' H' s' → RelV v u → Q v H' → CE outer P w H s Q u s' :=
    fun {σ' H' v u} J rv q => ⟨v, H', J.os, J.bare, J.base, J.hok, rv, q⟩
  cases fl with
  | ret u =>
    obtain ⟨v, σ', H', J, rv, q⟩ := hs
    exact fin J rv q
  | next =>
    obtain ⟨σ', H', J, q⟩ := hs
    exact fin (v := V.non) (u := Value.none) J rfl q
  | brk =>
    obtain ⟨_, _, _, q⟩ := hs
    exact False.elim q
  | cont =>
    obtain ⟨_, _, _, q⟩ := hs
    exact False.elim q
end L2
namespace L2
open PySem PySem.Spec PyProof.Rows
section
variable {X : Cx} {x : Str} {p pos : Pos} {e : Expr} {es : List Expr} {t : TA} {id T : String} {r : List V → Hp → VK → Prop}
def tCB (r : List V → Hp → VK → Prop) (t : TA) : TE := fun σ H Q => t σ H fun vs H1 => r vs H1 Q
theorem pe_callB (hc : CallR X (.builtin id) r) (hg : Gl X x) (hm : X.mg x = none) (hv : bootBuiltins x = some (.builtin id)) (ha : PA X (e :: es) t) (hn : x ≠ "__name__" := by decide) (hdb : (x == ("__debug__" : Str)) = false := by decide)
    (he : starEach (e :: es) X.env = (false, eval e X.env) :: starEach es X.env := by rfl) (hpl : (backTo pos (starEach es X.env)).any (·.1) = false := by rfl) : PE X (.Call (.Name x p) (e :: es) [] pos) (tCB r t) := by
  intro pins s σ H Q I h
  refine wpAny_Call_Name_kw (ld_blt I hg hm hv ?_ hn hdb)
  exact PyProof.Rows.callWith_builtin1 (thn (ha pos pins s σ H _ I h) fun us s1 ⟨vs, H1, I1, r1, q1⟩ => hc pins s1 σ H1 vs us Q I1 r1 q1) he hpl
theorem pe_callTy (hc : CallR X (.type T) r) (hg : Gl X x) (hm : X.mg x = none) (hv : bootBuiltins x = some (.type T)) (ha : PA X (e :: es) t) (hn : x ≠ "__name__" := by decide) (hdb : (x == ("__debug__" : Str)) = false := by decide)
    (he : starEach (e :: es) X.env = (false, eval e X.env) :: starEach es X.env := by rfl) (hpl : (backTo pos (starEach es X.env)).any (·.1) = false := by rfl) : PE X (.Call (.Name x p) (e :: es) [] pos) (tCB r t) := by
  intro pins s σ H Q I h
  refine wpAny_Call_Name_kw (ld_blt I hg hm hv ?_ hn hdb)
  exact PyProof.Rows.callWith_type1 (thn (ha pos pins s σ H _ I h) fun us s1 ⟨vs, H1, I1, r1, q1⟩ => hc pins s1 σ H1 vs us Q I1 r1 q1) he hpl
end
end L2
namespace HT
open PySem PyProof.Rows
def lexLt : List Int → List Int → Bool
  | [], [] => false
  | [], _ :: _ => true
  | _ :: _, [] => false
  | x :: xs, y :: ys => if x = y then lexLt xs ys else decide (x < y)
section
open PySem.SeqAt
open PySem.AutoSeq1 (wpAny_loadPart')
open PySem.MeetsSeq PySem.MeetsSeq2 PySem.MeetsSeq3
end
section
variable {prog : Program} {w : World} {A : Around} {E : Value → Shared → Prop} {s : Shared}
def sIx (n d : Nat) : Option Int → Nat
  | none => d
  | some v => if v < 0 then (v + (n : Int)).toNat else min v.toNat n
theorem sIx_nat (n d k : Nat) : sIx n d (some (k : Int)) = min k n := by
  show (if (k : Int) < 0 then ((k : Int) + (n : Int)).toNat else min (k : Int).toNat n) = min k n
  rw [if_neg (by omega), Int.toNat_natCast]
end
end HT
namespace L2
open PySem PySem.Spec PyProof.Rows
abbrev TO := St → Hp → (Option Int → Hp → Prop) → Prop
def PO (X : Cx) (e : Option Expr) (t : TO) : Prop :=
  ∀ (pins : List (Addr × Obj)) (s : Shared) (σ : St) (H : Hp) (Q : Option Int → Hp → Prop), Inv X pins σ H s → t σ H Q →
    wpAny (model X.prog X.w) X.A (evalPart e X.env) (fun u s' => ∃ o H', Inv X pins σ H' s' ∧ IsPart u o ∧ Q o H') X.xe s
def tNoPart : TO := fun _ H Q => Q none H
def tPart (t : TE) : TO := fun σ H Q => t σ H fun x H1 => ∃ i, x = .int i ∧ Q (some i) H1
section
variable {X : Cx} {e : Expr} {te : TE} {lo hi : Option Expr} {tl th : TO} {pos p2 : Pos}
theorem po_none : PO X none tNoPart := by
  intro pins s σ H Q I h
  rw [evalPart_none]
  exact wpAny_pure ⟨none, H, I, .none, h⟩
theorem po_some (h : PE X e te) : PO X (some e) (tPart te) := by
  intro pins s σ H Q I hw
  rw [evalPart_some]
  refine thn (h pins s σ H _ I hw) fun u s1 ⟨x, H1, I1, r1, q1⟩ => ?_
  obtain ⟨i, rfl, q⟩ := q1
  obtain ⟨t, rfl⟩ := r1
  exact ⟨some i, H1, I1, .int i t, q⟩
def SlR (X : Cx) (r : V → Option Int → Option Int → Hp → VK → Prop) : Prop :=
  ∀ (pins : List (Addr × Obj)) (s : Shared) (σ : St) (H : Hp) (x : V) (v vl vu : Value) (lo hi : Option Int) (sl : Addr) (Q : VK), Inv X pins σ H s → RelV x v → s.heap.IsSliceOf sl vl vu .none → IsPart vl lo → IsPart vu hi → r x lo hi H Q →
    ∃ T id, typeLookup (.type T) "__getitem__" = pure (some (.builtin id)) ∧ s.TypeIs v T ∧ wpAny (model X.prog X.w) X.A (getItem v (.ref sl)) (EP X pins σ Q) X.xe s
def tSl (r : V → Option Int → Option Int → Hp → VK → Prop) (te : TE) (tl th : TO) : TE := fun σ H Q => te σ H fun x H1 => tl σ H1 fun l H2 => th σ H2 fun u H3 => r x l u H3 Q
theorem pe_slice {r : V → Option Int → Option Int → Hp → VK → Prop} (hr : SlR X r) (he : PE X e te) (hl : PO X lo tl) (hu : PO X hi th) : PE X (.Subscript e (.Slice lo hi none p2) pos) (tSl r te tl th) := by
  intro pins s σ H Q I h
  refine Subscript_ (thn (he pins s σ H _ I h) fun v s1 ⟨x, H1, I1, r1, q1⟩ => ?_)
  refine wpAny_Slice (thn (hl pins s1 σ H1 _ I1 q1) fun vl s2 ⟨l, H2, I2, pl, q2⟩ => thn (hu pins s2 σ H2 _ I2 q2) fun vu s3 ⟨u, H3, I3, pu, q3⟩ => ?_)
  rw [evalPart_none]
  refine wpAny_pure ?_
  have I4 : Inv X pins σ H3 { s3 with heap := s3.heap.push { cls := .type "slice", data := .fields #[vl, vu, .none] } } := I3.kept (t' := s3.toks) fun b ob q => Heap.get?_push_of_some _ q
  obtain ⟨T, id, hT, ht, hg⟩ := hr pins { s3 with heap := s3.heap.push { cls := .type "slice", data := .fields #[vl, vu, .none] } } σ H3 x v vl vu l u s3.heap.objs.size Q I4 r1 (Heap.IsSliceOf.new ..) pl pu q3
  show wpAny (model X.prog X.w) X.A (subscriptTail e (.Slice lo hi none p2) v (.ref s3.heap.objs.size)) (EP X pins σ Q) X.xe { s3 with heap := s3.heap.push { cls := .type "slice", data := .fields #[vl, vu, .none] } }
  exact tail_any (ops := [.ref s3.heap.objs.size, v]) ht hT hg (by with_unfolding_all rfl)
def cutV (xs : List V) (lo hi : Option Int) : List V := (xs.drop (HT.sIx xs.length 0 lo)).take (HT.sIx xs.length xs.length hi - HT.sIx xs.length 0 lo)
theorem cutV_length (xs : List V) (lo hi : Option Int) : (cutV xs lo hi).length ≤ xs.length := by
  unfold cutV
  rw [List.length_take, List.length_drop]
  omega
def rSlT (K : PySem.W.Frag) : V → Option Int → Option Int → Hp → VK → Prop := fun x lo hi H Q => ∃ a xs, x = .ref a ∧ SqT K H a xs ∧
  ¬ (HT.sIx xs.length 0 lo = 0 ∧ HT.sIx xs.length xs.length hi = xs.length) ∧ ∀ p, H p = none → Q (.ref p) (upd H p (.tup (cutV xs lo hi)))
def rLtT (K : PySem.W.Frag) : R2 := fun x y H Q => ∃ a b ns ms, x = .ref a ∧ y = .ref b ∧ SqT K H a (ns.map V.int) ∧ SqT K H b (ms.map V.int) ∧ Q (.bl (HT.lexLt ns ms)) H
def rCatT (K : PySem.W.Frag) : R2 := fun x y H Q => ∃ a b xs ys, x = .ref a ∧ y = .ref b ∧ SqT K H a xs ∧ SqT K H b ys ∧ xs ≠ [] ∧ xs.length + ys.length ≤ sizeLine ∧
  (ys = [] → Q (.ref a) H) ∧ (ys ≠ [] → ∀ p, H p = none → Q (.ref p) (upd H p (.tup (xs ++ ys))))
end
end L2
namespace L2
open PySem PySem.Spec PyProof.Rows
def ixN (n : Nat) (i : Int) : Option Nat := if 0 ≤ i then (if i < n then some i.toNat else none) else if -(n : Int) ≤ i then some (i + n).toNat else none
def atI {α : Type} (xs : List α) (i : Int) : Option α := (ixN xs.length i).bind fun j => xs[j]?
theorem ixN_seq {n : Nat} {i : Int} {j : Nat} (h : ixN n i = some j) : seqIndex? i n = some j ∧ j < n ∧ -(n : Int) ≤ i ∧ i < n := by
  unfold ixN at h
  by_cases h0 : 0 ≤ i
  · rw [if_pos h0] at h
    by_cases h1 : i < n
    · rw [if_pos h1] at h
      have e : i.toNat = j := Option.some.inj h
      exact ⟨by rw [seqIndex_of h0 h1, e], by omega, by omega, h1⟩
    · rw [if_neg h1] at h; cases h
  · rw [if_neg h0] at h
    by_cases h1 : -(n : Int) ≤ i
    · rw [if_pos h1] at h
      have e : (i + n).toNat = j := Option.some.inj h
      exact ⟨by rw [seqIndex_neg (by omega) h1, e], by omega, h1, by omega⟩
    · rw [if_neg h1] at h; cases h
theorem atI_get {α : Type} {xs : List α} {i : Int} {v : α} (h : atI xs i = some v) : ∃ j, seqIndex? i xs.length = some j ∧ xs[j]? = some v ∧ j < xs.length ∧ -(xs.length : Int) ≤ i ∧ i < xs.length := by
  unfold atI at h
  cases e : ixN xs.length i with
  | none => rw [e] at h; cases h
  | some j =>
    rw [e] at h
    obtain ⟨h1, h2, h3, h4⟩ := ixN_seq e
    exact ⟨j, h1, h, h2, h3, h4⟩
theorem atI_nat {α : Type} {xs : List α} {j : Nat} {v : α} (h : xs[j]? = some v) : atI xs (j : Int) = some v := by
  have hj : j < xs.length := (List.getElem?_eq_some_iff.mp h).1
  have e : ixN xs.length (j : Int) = some j := by
    unfold ixN
    rw [if_pos (by omega), if_pos (by omega)]; simp
  unfold atI; rw [e]; exact h
def PlainIx (b : Expr) : Prop := ∀ o i, subscripted b false o i = operate [o, i] (getItem o i)
def IxR (X : Cx) (r : R2) : Prop :=
  ∀ (value slice : Expr) (pins : List (Addr × Obj)) (s : Shared) (σ : St) (H : Hp) (x y : V) (v u : Value) (Q : VK), Inv X pins σ H s → RelV x v → RelV y u → r x y H Q →
    subscripted slice false v u = operate [v, u] (getItem v u) → wpAny (model X.prog X.w) X.A (subscriptTail value slice v u) (EP X pins σ Q) X.xe s
def MtR (X : Cx) (id : String) (r : V → List V → Hp → VK → Prop) : Prop :=
  ∀ (pins : List (Addr × Obj)) (s : Shared) (σ : St) (H : Hp) (x : V) (xs : List V) (v : Value) (us : List Value) (Q : VK), Inv X pins σ H s → RelV x v → Vals xs us → r x xs H Q →
    wpAny (model X.prog X.w) X.A (call (.builtin id) (v :: us)) (EP X pins σ Q) X.xe s
section
variable {X : Cx} {a b : Expr} {ta tb : TE} {pos : Pos}
theorem pe_ix {r : R2} (hr : IxR X r) (ha : PE X a ta) (hb : PE X b tb) (hs : PlainIx b) : PE X (.Subscript a b pos) (tOp r ta tb) := by
  intro pins s σ H Q I h
  exact Subscript_ (binT ha hb I h fun v u s2 x y H2 I2 rx ry q => hr a b pins s2 σ H2 x y v u Q I2 rx ry q (hs _ _))
def rIxL (K : PySem.W.Frag) : R2 := fun x y H Q => ∃ p xs i v, x = .ref p ∧ y = .int i ∧ SqL K H p xs ∧ atI xs i = some v ∧ Q v H
def rIxT (K : PySem.W.Frag) : R2 := fun x y H Q => ∃ p xs i v, x = .ref p ∧ y = .int i ∧ SqT K H p xs ∧ atI xs i = some v ∧ Q v H
def rIxS : R2 := fun x y H Q => ∃ z i c, x = .str z ∧ y = .int i ∧ z.length ≤ sizeLine ∧ atI z.cps.toList i = some c ∧ Q (.str ⟨#[c]⟩) H
theorem ix_list : IxR X (rIxL X.K) := by
  intro value slice pins s σ H x y v u Q I rx ry h hs
  obtain ⟨p, xs, i, z, rfl, rfl, hq, he, q⟩ := h
  cases rx
  obtain ⟨t, rfl⟩ := ry
  obtain ⟨its, r, pl, hz⟩ := I.list hq
  obtain ⟨j, h1, h2, h3, h4, h5⟩ := atI_get he
  obtain ⟨w, ew, rw'⟩ := r.get h2
  have hl := r.length
  have hn := line63
  have fin : EP X pins σ Q w s := ⟨z, H, I, rw', q⟩
  by_cases h0 : 0 ≤ i
  · have hj : i.toNat = j := by
      rw [seqIndex_of h0 h5] at h1
      exact Option.some.inj h1
    exact item_listR pl.isList h0 (by omega) (by rw [hj]; simpa using ew) fin hs
  · have hj : (i + (its.toArray.size : Int)).toNat = j := by
      rw [seqIndex_neg (by omega) h4] at h1
      rw [List.size_toArray, ← hl]
      exact Option.some.inj h1
    exact subscriptTail_builtinR (x := w) pl.isList.typeIs slot_list_getitem.lookup
      (wpAny_getItem_list_neg (Q := fun r s' => r = w ∧ EP X pins σ Q r s') pl.isList (by omega) (by rw [List.size_toArray] <;> omega) (by omega) (by rw [hj]; simpa using ew) ⟨rfl, fin⟩) hs
theorem ix_tup : IxR X (rIxT X.K) := by
  intro value slice pins s σ H x y v u Q I rx ry h hs
  obtain ⟨p, xs, i, z, rfl, rfl, hq, he, q⟩ := h
  cases rx
  obtain ⟨t, rfl⟩ := ry
  obtain ⟨its, r, pl, hz⟩ := I.tuple hq
  obtain ⟨j, h1, h2, h3, h4, h5⟩ := atI_get he
  obtain ⟨w, ew, rw'⟩ := r.get h2
  have hl := r.length
  have hn := line63
  have fin : EP X pins σ Q w s := ⟨z, H, I, rw', q⟩
  exact subscriptTail_builtinR (x := w) pl.typeIs slot_tuple_getitem.lookup
    (getItem_tuple (j := j) (Q := fun r s' => r = w ∧ EP X pins σ Q r s') pl (by omega) (by omega) (by rw [List.size_toArray, ← hl]; exact h1) (by simpa using ew) ⟨rfl, fin⟩) hs
def rIx (K : PySem.W.Frag) : R2 := fun x y H Q => rIxL K x y H Q ∨ rIxT K x y H Q ∨ rIxS x y H Q
theorem mapSeq_set (its : List Value) (n j : Nat) (u : Value) : Obj.mapSeq (·.setIfInBounds j u) { cls := .type "list", data := .seq its.toArray n } = { cls := .type "list", data := .seq (its.set j u).toArray n } := by
  simp [Obj.mapSeq]
theorem Inv.lst {pins : List (Addr × Obj)} {σ : St} {H : Hp} {s : Shared} {p : Addr} {xs : List V} (I : Inv X pins σ H s) (h : H p = some (.lst xs)) :
    ∃ (its : List Value) (n : Nat), Vals xs its ∧ s.heap.get? p = some { cls := .type "list", data := .seq its.toArray n } ∧ xs.length ≤ sizeLine := by
  obtain ⟨z, its, n, r, e⟩ := I.hok p _ h
  exact ⟨its, n, r, e, z⟩
theorem Inv.lstUpd {pins : List (Addr × Obj)} {σ : St} {H : Hp} {s : Shared} {p : Addr} {xs ys : List V} {its its' : List Value} {n n' : Nat} {f : Obj → Obj} (I : Inv X pins σ H s) (h : H p = some (.lst xs))
    (ho : s.heap.get? p = some { cls := .type "list", data := .seq its.toArray n }) (hf : f { cls := .type "list", data := .seq its.toArray n } = { cls := .type "list", data := .seq its'.toArray n' }) (r : Vals ys its') (hz : ys.length ≤ sizeLine) (t : Nat) :
    Inv X pins σ (upd H p (.lst ys)) { s with heap := s.heap.update p f, toks := t } := by
  have e : (s.heap.update p f).get? p = some { cls := .type "list", data := .seq its'.toArray n' } := by
    rw [Heap.get?_update_self f ho (by rw [hf] <;> rfl), hf]
  refine I.write (x := p) (e := p) (by rw [h]; trivial) (.inl rfl) (fun b u hb q => (Heap.get?_update_other _ _ (Ne.symm hb)).trans q) ⟨_, e⟩ ?_
  exact ⟨hz, its', n', r, e⟩
def rSetL : V → V → V → Hp → (Hp → Prop) → Prop := fun o i v H Q => ∃ p xs k j, o = .ref p ∧ i = .int k ∧ H p = some (.lst xs) ∧ ixN xs.length k = some j ∧ Q (upd H p (.lst (xs.set j v)))
theorem set_list : PSet X rSetL := by
  intro pins s σ H o i v ov iv u Q I ro ri rv h
  obtain ⟨p, xs, k, j, rfl, rfl, hp, hj, q⟩ := h
  cases ro
  obtain ⟨t, rfl⟩ := ri
  obtain ⟨its, n, r, ho, hz⟩ := I.lst hp
  obtain ⟨h1, h2, h3, h4⟩ := ixN_seq hj
  have hl := r.length
  have hn := line63
  have I' : Inv X pins σ (upd H p (.lst (xs.set j v))) { s with heap := s.heap.update p (Obj.mapSeq (·.setIfInBounds j u)) } :=
    I.lstUpd hp ho (mapSeq_set its n j u) (r.set rv j) (by rw [List.length_set]; exact hz) s.toks
  by_cases h0 : 0 ≤ k
  · have hk : k.toNat = j := by
      rw [seqIndex_of h0 h4] at h1
      exact Option.some.inj h1
    exact PySem.W.ki_setAt ho h0 (by omega) (by rw [List.size_toArray, ← hl]; exact h4) (by rw [hk]; exact ⟨_, I', q⟩)
  · have hk : (k + (its.toArray.size : Int)).toNat = j := by
      rw [seqIndex_neg (by omega) h3] at h1
      rw [List.size_toArray, ← hl]
      exact Option.some.inj h1
    exact PySem.W.ki_setBack ho (by omega) (by rw [List.size_toArray, ← hl]; exact h3) (by omega) (by rw [hk]; exact ⟨_, I', q⟩)
theorem slice_bounds (lo hi : Option Int) (n : Nat) : (sliceBounds lo hi none n).1 = ((HT.sIx n 0 lo : Nat) : Int) ∧ (sliceBounds lo hi none n).2.1 = ((HT.sIx n n hi : Nat) : Int) ∧ (sliceBounds lo hi none n).2.2 = 1 := by
  refine ⟨?_, ?_, rfl⟩
  · cases lo with
    | none => simp [sliceBounds, HT.sIx]
    | some i =>
      simp only [sliceBounds, HT.sIx, Option.getD_none, show (1 : Int) > 0 by decide, if_true]
      by_cases h : i < 0
      · simp only [h, if_true] <;> omega
      · simp only [h, if_false] <;> omega
  · cases hi with
    | none => simp [sliceBounds, HT.sIx]
    | some i =>
      simp only [sliceBounds, HT.sIx, Option.getD_none, show (1 : Int) > 0 by decide, if_true]
      by_cases h : i < 0
      · simp only [h, if_true] <;> omega
      · simp only [h, if_false] <;> omega
theorem slicePick_cut (its : List Value) (lo hi : Option Int) : slicePick its.toArray lo hi none = ((its.drop (HT.sIx its.length 0 lo)).take (HT.sIx its.length its.length hi - HT.sIx its.length 0 lo)).toArray := by
  obtain ⟨h1, h2, h3⟩ := slice_bounds lo hi its.toArray.size
  unfold slicePick
  rw [h1, h2, h3]
  simp only [sliceRange_one, pick_run, List.size_toArray] <;> rfl
def rSlL (K : PySem.W.Frag) : V → Option Int → Option Int → Hp → VK → Prop := fun x lo hi H Q => ∃ a xs, x = .ref a ∧ SqL K H a xs ∧ ∀ p, H p = none → Q (.ref p) (upd H p (.lst (cutV xs lo hi)))
theorem sl_list : SlR X (rSlL X.K) := by
  intro pins s σ H x v vl vu lo hi sl Q I rx hs pl pu h
  obtain ⟨a, xs, rfl, hx, q⟩ := h
  cases rx
  obtain ⟨its, r, ht, hz⟩ := I.list hx
  have hlen := r.length
  refine ⟨"list", _, slot_list_getitem.lookup, ht.isList.typeIs, ?_⟩
  refine wpAny_getItem_list_slice ht.isList hs pl pu .none (by simp) ?_ (by rw [List.size_toArray] <;> omega)
  rw [slicePick_cut, ← hlen]
  refine ⟨.ref s.heap.objs.size, _, I.laid (t' := s.toks) (o := .lst (cutV xs lo hi)) (fun b ob q => Heap.get?_push_of_some _ q) (Nat.le_refl _) ?_, rfl, q _ (I.hok.fresh (Nat.le_refl _))⟩
  exact ⟨Nat.le_trans (cutV_length xs lo hi) hz, _, 0, (r.drop (HT.sIx xs.length 0 lo)).take (HT.sIx xs.length xs.length hi - HT.sIx xs.length 0 lo), Heap.get?_push_size _ rfl⟩
def flatV : V → Bool
  | .non => true
  | .bl _ => true
  | .int _ => true
  | .str _ => true
  | _ => false
def eqV : V → V → Bool
  | .non, .non => true
  | .bl a, .bl b => a == b
  | .bl a, .int b => (if a then 1 else 0) == b
  | .int a, .bl b => a == (if b then 1 else 0)
  | .int a, .int b => a == b
  | .str a, .str b => a == b
  | _, _ => false
theorem eqAt_V {A : Around} {s : Shared} {y x : V} {u v : Value} (ry : RelV y u) (rx : RelV x v) (fy : flatV y = true) (fx : flatV x = true) : SeqAt.EqAt A s u v (eqV y x) := by
  cases y with
  | non =>
    cases ry
    cases x with
    | non => cases rx; exact SeqAt.EqAt.same _
    | bl b => cases rx; exact SeqAt.EqAt.none_bool b
    | int b => obtain ⟨t, rfl⟩ := rx; exact SeqAt.EqAt.none_int b t
    | str b => obtain ⟨t, rfl⟩ := rx; exact SeqAt.EqAt.none_str b t
    | _ => exact absurd (show false = true from fx) Bool.false_ne_true
  | bl a =>
    cases ry
    cases x with
    | non => cases rx; exact SeqAt.EqAt.bool_none a
    | bl b => cases rx; exact SeqAt.EqAt.bool_bool a b
    | int b => obtain ⟨t, rfl⟩ := rx; exact SeqAt.EqAt.bool_int a b t
    | str b => obtain ⟨t, rfl⟩ := rx; exact SeqAt.EqAt.bool_str a b t
    | _ => exact absurd (show false = true from fx) Bool.false_ne_true
  | int a =>
    obtain ⟨t', rfl⟩ := ry
    cases x with
    | non => cases rx; exact SeqAt.EqAt.int_none a t'
    | bl b => cases rx; exact SeqAt.EqAt.int_bool a t' b
    | int b => obtain ⟨t, rfl⟩ := rx; exact SeqAt.EqAt.int_int a t' b t
    | str b => obtain ⟨t, rfl⟩ := rx; exact SeqAt.EqAt.int_str a t' b t
    | _ => exact absurd (show false = true from fx) Bool.false_ne_true
  | str a =>
    obtain ⟨t', rfl⟩ := ry
    cases x with
    | non => cases rx; exact SeqAt.EqAt.str_none a t'
    | bl b => cases rx; exact SeqAt.EqAt.str_bool a t' b
    | int b => obtain ⟨t, rfl⟩ := rx; exact SeqAt.EqAt.str_int a t' b t
    | str b => obtain ⟨t, rfl⟩ := rx; exact SeqAt.EqAt.str_str a t' b t
    | _ => exact absurd (show false = true from fx) Bool.false_ne_true
  | _ => exact absurd (show false = true from fy) Bool.false_ne_true
def eqU (x : V) (u : Value) : Bool := match u with
  | .none => eqV .non x
  | .bool b => eqV (.bl b) x
  | .int i _ => eqV (.int i) x
  | .str z _ => eqV (.str z) x
  | _ => false
theorem eqU_of {x y : V} {u : Value} (r : RelV y u) (f : flatV y = true) : eqU x u = eqV y x := by
  cases y with
  | non => cases r; rfl
  | bl b => cases r; rfl
  | int i => obtain ⟨t, rfl⟩ := r; rfl
  | str z => obtain ⟨t, rfl⟩ := r; rfl
  | _ => exact absurd (show false = true from f) Bool.false_ne_true
theorem any_eqU {x : V} : ∀ {xs : List V} {us : List Value}, Vals xs us → xs.all flatV = true → us.any (eqU x) = xs.any fun y => eqV y x
  | _, _, .nil, _ => rfl
  | y :: xs, u :: us, .cons r t, f => by
    rw [List.all_cons, Bool.and_eq_true] at f
    rw [List.any_cons, List.any_cons, eqU_of r f.1, any_eqU t f.2]
theorem mem_eqAt {A : Around} {s : Shared} {x : V} {v : Value} (rx : RelV x v) (fx : flatV x = true) : ∀ {xs : List V} {us : List Value}, Vals xs us → xs.all flatV = true → ∀ u ∈ us, SeqAt.EqAt A s u v (eqU x u)
  | _, _, .nil, _ => fun u hu => by cases hu
  | y :: xs, u :: us, .cons r t, f => fun u' hu => by
    rw [List.all_cons, Bool.and_eq_true] at f
    rcases List.mem_cons.mp hu with rfl | hu
    · rw [eqU_of r f.1]; exact eqAt_V r rx f.1 fx
    · exact mem_eqAt rx fx t f.2 u' hu
def inV (x : V) (xs : List V) : Bool := xs.any fun y => eqV y x
def rIn (K : PySem.W.Frag) (neg : Bool) : R2 := fun x y H Q => ∃ p xs, y = .ref p ∧ (SqL K H p xs ∨ SqT K H p xs) ∧ flatV x = true ∧ xs.all flatV = true ∧ Q (.bl (if neg then !inV x xs else inV x xs)) H
theorem op_in_seq : OpR X (compareOp .In) (rIn X.K false) := by
  intro pins s σ H x y v u Q I rx ry h
  obtain ⟨p, xs, rfl, hq, fx, fs, q⟩ := h
  cases ry
  rcases hq with hq | hq
  · obtain ⟨its, r, pl, hz⟩ := I.list hq
    refine SeqAt.in_listAt (eqU x) pl.isList (fun w hw => mem_eqAt rx fx r fs w (by simpa using hw)) ⟨.bl _, H, I, rfl, ?_⟩
    rw [show its.toArray.any (eqU x) = its.any (eqU x) by simp, any_eqU r fs]
    exact q
  · obtain ⟨its, r, pl, hz⟩ := I.tuple hq
    refine SeqAt.in_tupleAt (eqU x) pl (fun w hw => mem_eqAt rx fx r fs w (by simpa using hw)) ⟨.bl _, H, I, rfl, ?_⟩
    rw [show its.toArray.any (eqU x) = its.any (eqU x) by simp, any_eqU r fs]
    exact q
theorem op_notIn_seq : OpR X (compareOp .NotIn) (rIn X.K true) := by
  intro pins s σ H x y v u Q I rx ry h
  obtain ⟨p, xs, rfl, hq, fx, fs, q⟩ := h
  cases ry
  rcases hq with hq | hq
  · obtain ⟨its, r, pl, hz⟩ := I.list hq
    refine SeqAt.notIn_listAt (eqU x) pl.isList (fun w hw => mem_eqAt rx fx r fs w (by simpa using hw)) ⟨.bl _, H, I, rfl, ?_⟩
    rw [show its.toArray.any (eqU x) = its.any (eqU x) by simp, any_eqU r fs]
    exact q
  · obtain ⟨its, r, pl, hz⟩ := I.tuple hq
    refine SeqAt.notIn_tupleAt (eqU x) pl (fun w hw => mem_eqAt rx fx r fs w (by simpa using hw)) ⟨.bl _, H, I, rfl, ?_⟩
    rw [show its.toArray.any (eqU x) = its.any (eqU x) by simp, any_eqU r fs]
    exact q
theorem call_len_seq : CallR X (.builtin "len") (fun xs H Q => ∃ p ys, xs = [.ref p] ∧ (SqL X.K H p ys ∨ SqT X.K H p ys) ∧ Q (.int ys.length) H) := by
  intro pins s σ H xs us Q I r h
  obtain ⟨p, ys, rfl, hq, q⟩ := h
  obtain ⟨u, rfl, rx⟩ := vals1 r
  cases rx
  have hn := line63
  rcases hq with hq | hq
  · obtain ⟨its, r', pl, hz⟩ := I.list hq
    have hlen := r'.length
    exact Calls.call_len_list pl.isList (by simp only [List.size_toArray] <;> omega) ⟨.int ys.length, H, I.tok _, ⟨s.toks + 1, by rw [List.size_toArray, hlen]⟩, q⟩
  · obtain ⟨its, r', pl, hz⟩ := I.tuple hq
    have hlen := r'.length
    exact len_tuple pl (by simp only [List.size_toArray] <;> omega) ⟨.int ys.length, H, I.tok _, ⟨s.toks + 1, by rw [List.size_toArray, hlen]⟩, q⟩
theorem call_list_of : CallR X (.type "list") (fun xs H Q => ∃ p ys, xs = [.ref p] ∧ (SqL X.K H p ys ∨ SqT X.K H p ys) ∧ ∀ l, H l = none → Q (.ref l) (upd H l (.lst ys))) := by
  intro pins s σ H xs us Q I r h
  obtain ⟨p, ys, rfl, hq, q⟩ := h
  obtain ⟨u, rfl, rx⟩ := vals1 r
  cases rx
  have fin : ∀ (its : List Value), Vals ys its → ys.length ≤ sizeLine → ∀ (h' : Heap) (c' : Nat), (∀ b o', s.heap.get? b = some o' → h'.get? b = some o') →
      h'.get? s.heap.objs.size = some { cls := .type "list", dict := none, data := .seq its.toArray c', slots := #[] } → EP X pins σ Q (.ref s.heap.objs.size) { s with heap := h' } := fun its r' hz h' c' kp e =>
    ⟨.ref s.heap.objs.size, _, I.laid (t' := s.toks) kp (Nat.le_refl _) (show ObjOk X.prog X.w _ h' _ (.lst ys) from ⟨hz, its, c', r', e⟩), rfl, q _ (I.hok.fresh (Nat.le_refl _))⟩
  rcases hq with hq | hq
  · obtain ⟨its, r', pl, hz⟩ := I.list hq
    have hlen := r'.length
    obtain ⟨o, ho, hc, n, hd⟩ := pl.isList
    exact call_list_seq p (.inl rfl) ho hc hd (fun h' c' kp e => fin its r' hz h' c' kp e) (by simp only [List.size_toArray] <;> omega)
  · obtain ⟨its, r', pl, hz⟩ := I.tuple hq
    have hlen := r'.length
    obtain ⟨o, ho, hc, n, hd⟩ := pl
    exact call_list_seq p (.inr rfl) ho hc hd (fun h' c' kp e => fin its r' hz h' c' kp e) (by simp only [List.size_toArray] <;> omega)
def tyV (K : PySem.W.Frag) (T : String) (x : V) (H : Hp) : Prop := match x with
  | .str _ => T = "str"
  | .int _ => T = "int"
  | .ref p => (T = "list" ∧ ∃ xs, SqL K H p xs) ∨ (T = "tuple" ∧ ∃ o, K.lookup p = some o ∧ o.cls = .type "tuple" ∧ o.dict = none) ∨
      (T = "dict" ∧ ((∃ kvs, H p = some (.dK kvs)) ∨ ∃ kvs, H p = some (.dT kvs))) ∨ (T = "set" ∧ ∃ S n, H p = some (.set S n))
  | _ => False
theorem tyV_is {pins : List (Addr × Obj)} {σ : St} {H : Hp} {s : Shared} {T : String} {x : V} {v : Value} (I : Inv X pins σ H s) (r : RelV x v) (ty : tyV X.K T x H) :
    s.TypeIs v T ∧ ∀ a, v = .ref a → ∃ ob, s.heap.get? a = some ob ∧ ob.dict = none := by
  cases x with
  | str z =>
    obtain ⟨t, rfl⟩ := r
    cases (show T = "str" from ty)
    exact ⟨typeIs_str s z t, fun _ e => nomatch e⟩
  | int i =>
    obtain ⟨t, rfl⟩ := r
    cases (show T = "int" from ty)
    exact ⟨typeIs_int s i t, fun _ e => nomatch e⟩
  | ref p =>
    cases r
    rcases ty with ⟨rfl, xs, hq⟩ | ⟨rfl, o, hk, hc, hd⟩ | ⟨rfl, hk⟩ | ⟨rfl, S, n, hk⟩
    · obtain ⟨its, _, pl, _⟩ := I.list hq
      refine ⟨pl.isList.typeIs, fun a e => ?_⟩
      cases e
      obtain ⟨o, n, e, c, hd, _⟩ := pl
      exact ⟨o, e, hd⟩
    · refine ⟨⟨o, I.kIn p o hk, hc⟩, fun a e => ?_⟩
      cases e
      exact ⟨o, I.kIn _ o hk, hd⟩
    · have z : ∃ o, s.heap.get? p = some o ∧ o.ExactDict := by
        rcases hk with ⟨kvs, hk⟩ | ⟨kvs, hk⟩
        · obtain ⟨_, _, _, _, o, _, _, e, ex, _⟩ := I.hok p _ hk
          exact ⟨o, e, ex⟩
        · obtain ⟨_, _, _, _, o, _, _, e, ex, _⟩ := I.hok p _ hk
          exact ⟨o, e, ex⟩
      obtain ⟨o, e, ex⟩ := z
      refine ⟨⟨o, e, ex.1⟩, fun a e2 => ?_⟩
      cases e2
      exact ⟨o, e, ex.2.1⟩
    · obtain ⟨o, _, _, _, e, ex, _⟩ := I.hok p _ hk
      refine ⟨⟨o, e, ex.1⟩, fun a e2 => ?_⟩
      cases e2
      exact ⟨o, e, ex.2.1⟩
  | _ => exact False.elim ty
def tBM0 (K : PySem.W.Frag) (T : String) (r : V → List V → Hp → VK → Prop) (to : TE) : TE := fun σ H Q => to σ H fun x H1 => tyV K T x H1 ∧ r x [] H1 Q
def tBM (K : PySem.W.Frag) (T : String) (r : V → List V → Hp → VK → Prop) (to : TE) (t : TA) : TE := fun σ H Q => to σ H fun x H1 => tyV K T x H1 ∧ t σ H1 fun xs H2 => r x xs H2 Q
variable {o e : Expr} {es : List Expr} {to : TE} {t : TA} {name : Str} {apos cpos : Pos} {T id : String} {r : V → List V → Hp → VK → Prop}
theorem pe_bm (pa : PlainAttrs T) (slot : Slot T name id) (hty : typeOf (.builtin id) = pure (.type "method_descriptor")) (hm : MtR X id r) (ho : PE X o to) (ha : PA X (e :: es) t)
    (hbase : attributeBase o name X.env (eval o X.env) = eval o X.env := by rfl)
    (hfew : ((backTo cpos (starEach (e :: es) X.env)).all (fun x => !x.1) && (backToKw cpos (keywordEach [] X.env)).all (fun x => x.1.isSome)
      && decide ((e :: es).length + ([] : List Keyword).length + (if ([] : List Keyword).isEmpty then 0 else 1) < 30)) = true := by rfl)
    (hline : (apos.endLine == cpos.line) = true := by rfl) (hs : starEach (e :: es) X.env = (false, eval e X.env) :: starEach es X.env := by rfl) (hplain : (backTo cpos (starEach es X.env)).any (·.1) = false := by rfl) :
    PE X (.Call (.Attribute o name apos) (e :: es) [] cpos) (tBM X.K T r to t) := by
  intro pins s σ H Q I h
  refine wpAny_Call_method_late hbase hfew hline rfl (thn (ho pins s σ H _ I h) fun v s1 ⟨x, H1, I1, r1, ty, q1⟩ => ?_)
  obtain ⟨h1, h2⟩ := tyV_is I1 r1 ty
  refine ⟨T, id, pa, slot, hty, h1, h2, ?_⟩
  have hA := ha cpos pins s1 σ H1 _ I1 q1
  rw [hs] at hA ⊢
  refine Calls.callWith_builtin (by show (false || (backTo cpos (starEach es X.env)).any (·.1)) = false; rw [hplain] <;> rfl) (Calls.evalArgs_plain ?_)
  exact thn hA fun us s2 ⟨vs, H2, I2, r2, q2⟩ => hm pins s2 σ H2 x vs v us Q I2 r1 r2 q2
/- xs.append(e), list.index on a module's tuple .. are MtR facts of 06m -/
end
end L2
namespace L2
open PySem PySem.Spec PyProof.Rows
def MtM (X : Cx) (id : String) (r : V → List V → Hp → VK → Prop) : Prop :=
  ∀ (pins : List (Addr × Obj)) (s : Shared) (σ : St) (H : Hp) (x : V) (xs : List V) (v : Value) (us : List Value) (Q : VK), Inv X pins σ H s → RelV x v → Vals xs us → r x xs H Q →
    wpAny (model X.prog X.w) X.A (call (.builtin id) (v :: us)) (EP X pins σ Q) X.xe s
theorem Vals.one : ∀ {x : V} {us : List Value}, Vals [x] us → ∃ u, us = [u] ∧ RelV x u
  | _, _, .cons r .nil => ⟨_, rfl, r⟩
theorem Vals.eraseIdx : ∀ {xs : List V} {us : List Value} (i : Nat), Vals xs us → Vals (xs.eraseIdx i) (us.eraseIdx i)
  | _, _, _, .nil => .nil
  | _, _, 0, .cons _ t => t
  | _, _, i + 1, .cons r t => .cons r (Vals.eraseIdx i t)
theorem Vals.rep {xs : List V} {us : List Value} (h : Vals xs us) : ∀ k : Nat, Vals (List.replicate k xs).flatten (List.replicate k us).flatten
  | 0 => .nil
  | k + 1 => by
    rw [List.replicate_succ, List.replicate_succ, List.flatten_cons, List.flatten_cons]
    exact Vals.append h (Vals.rep h k)
theorem len_erase {α : Type} : ∀ (l : List α) (i : Nat), (l.eraseIdx i).length ≤ l.length
  | [], _ => Nat.le_refl _
  | _ :: _, 0 => Nat.le_succ _
  | _ :: r, i + 1 => Nat.succ_le_succ (len_erase r i)
theorem foldl_rep (its : List Value) : ∀ (k : Nat) (acc : List Value),
    List.foldl (fun x1 x2 => x1 ++ x2) acc.toArray (List.replicate k its.toArray) = (acc ++ (List.replicate k its).flatten).toArray
  | 0, acc => by simp
  | k + 1, acc => by
    have e : acc.toArray ++ its.toArray = (acc ++ its).toArray := by simp
    have e2 : (acc ++ its) ++ (List.replicate k its).flatten = acc ++ (List.replicate (k + 1) its).flatten := by
      rw [List.replicate_succ, List.flatten_cons, List.append_assoc]
    rw [← e2, ← foldl_rep its k (acc ++ its), ← e, List.replicate_succ, List.foldl_cons]
section
variable {X : Cx} {pins : List (Addr × Obj)} {σ : St} {H : Hp} {s : Shared} {l b : Addr} {xs ys zs : List V}
theorem Inv.lset {its its' : List Value} {n : Nat} {f : Array Value → Array Value} {t' : Nat} (I : Inv X pins σ H s) (hH : H l = some (.lst xs))
    (e : s.heap.get? l = some { cls := .type "list", data := .seq its.toArray n }) (hf : f its.toArray = its'.toArray) (hv : Vals ys its') (hz : ys.length ≤ sizeLine) :
    Inv X pins σ (upd H l (.lst ys)) { s with heap := s.heap.update l (Obj.mapSeq f), toks := t' } := by
  have q := PySem.IsL.update e f
  rw [hf] at q
  refine I.write (x := l) (e := l) (by rw [hH]; exact trivial) (.inl rfl) (fun b' u hb hu => (Heap.get?_update_other s.heap (Obj.mapSeq f) (Ne.symm hb)).trans hu) ⟨_, q⟩ ?_
  exact ⟨hz, its', _, hv, q⟩
theorem Inv.lnew {its : List Value} {t' : Nat} (I : Inv X pins σ H s) (hv : Vals ys its) (hz : ys.length ≤ sizeLine) :
    Inv X pins σ (upd H s.heap.objs.size (.lst ys)) { s with heap := s.heap.push { cls := .type "list", data := .seq its.toArray }, toks := t' } :=
  I.laid (fun _ _ q => Heap.get?_push_of_some _ q) (Nat.le_refl _) ⟨hz, its, 0, hv, Heap.get?_push_size _ rfl⟩
theorem Inv.fresh (I : Inv X pins σ H s) : H s.heap.objs.size = none := I.hok.fresh (Nat.le_refl _)
theorem Inv.lstM (I : Inv X pins σ H s) (hH : H l = some (.lst xs)) : xs.length ≤ sizeLine ∧ ∃ (its : List Value) (n : Nat), Vals xs its ∧ xs.length = its.length ∧ s.heap.get? l = some { cls := .type "list", data := .seq its.toArray n } := by
  obtain ⟨z, its, n, r, e⟩ := I.hok l _ hH
  exact ⟨z, its, n, r, r.length, e⟩
theorem notLongL {n : Nat} (h : n ≤ sizeLine) : Builtin.List.listTooLong n = false := by
  unfold Builtin.List.listTooLong
  exact decide_eq_false (by omega)
end
section
variable {X : Cx}
def rAppend : V → List V → Hp → VK → Prop := fun x vs H Q => ∃ l xs y, x = .ref l ∧ vs = [y] ∧ H l = some (.lst xs) ∧ xs.length < sizeLine ∧ Q .non (upd H l (.lst (xs ++ [y])))
theorem mt_append : MtM X "list.append" rAppend := by
  intro pins s σ H x vs v us Q I rx rv h
  obtain ⟨l, xs, y, rfl, rfl, hH, hz, q⟩ := h
  cases rx
  obtain ⟨u, rfl, ru⟩ := rv.one
  obtain ⟨z, its, n, r, hl, e⟩ := I.lstM hH
  refine call_meets F.slot_list_append ⟨_, e, rfl⟩ F.entry_list_append (F.args_list_append_2 _ _) (PySem.list_append l its.toArray n u (by rw [List.size_toArray]; omega)) ⟨e, ?_⟩
  refine ⟨.non, _, I.lset (its' := its ++ [u]) hH e (by simp) (r.append (.cons ru .nil)) ?_, rfl, q⟩
  rw [List.length_append, List.length_singleton]
  omega
def rExtend : V → List V → Hp → VK → Prop := fun x vs H Q => ∃ l b xs zs, x = .ref l ∧ vs = [.ref b] ∧ H l = some (.lst xs) ∧ H b = some (.lst zs) ∧ xs.length + zs.length ≤ sizeLine ∧ Q .non (upd H l (.lst (xs ++ zs)))
theorem mt_extend : MtM X "list.extend" rExtend := by
  intro pins s σ H x vs v us Q I rx rv h
  obtain ⟨l, b, xs, zs, rfl, rfl, hH, hB, hz, q⟩ := h
  cases rx
  obtain ⟨u, rfl, ru⟩ := rv.one
  cases ru
  obtain ⟨z, its, n, r, hl, e⟩ := I.lstM hH
  obtain ⟨z2, its2, n2, r2, hl2, e2⟩ := I.lstM hB
  have hsz : its.toArray.size + its2.toArray.size ≤ sizeLine := by rw [List.size_toArray, List.size_toArray]; omega
  have hlong : ¬ (!its.toArray.isEmpty && Builtin.List.listTooLong (its.toArray.size + its2.toArray.size)) = true := by
    rw [notLongL hsz, Bool.and_false]
    exact Bool.false_ne_true
  refine call_meets F.slot_list_extend ⟨_, e, rfl⟩ F.entry_list_extend (F.args_list_extend_2 _ _)
    (AutoSeq1.list_extend_list_list_0 l its.toArray n b its2.toArray n2 hlong (by rw [List.size_toArray]; omega) (by omega)) ⟨e, e2, ?_⟩
  refine ⟨.non, _, I.lset (its' := its ++ its2) hH e (by simp) (r.append r2) ?_, rfl, q⟩
  rw [List.length_append]
  omega
def rPop : V → List V → Hp → VK → Prop := fun x vs H Q => ∃ l xs y, x = .ref l ∧ vs = [] ∧ H l = some (.lst xs) ∧ xs[xs.length - 1]? = some y ∧ Q y (upd H l (.lst xs.dropLast))
def rPopAt : V → List V → Hp → VK → Prop := fun x vs H Q => ∃ l xs i k y, x = .ref l ∧ vs = [.int i] ∧ H l = some (.lst xs) ∧ -(2 ^ 63) ≤ i ∧ i < 2 ^ 63 ∧ seqIndex? i xs.length = some k ∧ xs[k]? = some y ∧ Q y (upd H l (.lst (xs.eraseIdx k)))
theorem mt_popAt : MtM X "list.pop" rPopAt := by
  intro pins s σ H x vs v us Q I rx rv h
  obtain ⟨l, xs, i, k, y, rfl, rfl, hH, h1, h2, hk, hy, q⟩ := h
  cases rx
  obtain ⟨u, rfl, ru⟩ := rv.one
  obtain ⟨t, rfl⟩ := ru
  obtain ⟨z, its, n, r, hl, e⟩ := I.lstM hH
  obtain ⟨w, hw, rw'⟩ := r.get hy
  refine call_meets F.slot_list_pop ⟨_, e, rfl⟩ F.entry_list_pop (F.args_list_pop_2 _ _)
    (MeetsSeq.list_pop_at l its.toArray n i t k w (fitsIndex_both h1 h2) (by rw [List.size_toArray, ← hl]; exact hk) (by rw [← Array.getElem?_toList]; exact hw) (by rw [List.size_toArray]; omega)) ⟨e, ?_⟩
  refine ⟨y, _, I.lset (its' := its.eraseIdx k) hH e ?_ (r.eraseIdx k) ?_, rw', q⟩
  · show its.toArray.eraseIdxIfInBounds k = (its.eraseIdx k).toArray
    rw [List.eraseIdxIfInBounds_toArray]
  · have := len_erase xs k
    omega
def rReverse : V → List V → Hp → VK → Prop := fun x vs H Q => ∃ l xs, x = .ref l ∧ vs = [] ∧ H l = some (.lst xs) ∧ Q .non (upd H l (.lst xs.reverse))
def rClear : V → List V → Hp → VK → Prop := fun x vs H Q => ∃ l xs, x = .ref l ∧ vs = [] ∧ H l = some (.lst xs) ∧ Q .non (upd H l (.lst []))
def rCat : R2 := fun x y H Q => ∃ l b xs zs, x = .ref l ∧ y = .ref b ∧ H l = some (.lst xs) ∧ H b = some (.lst zs) ∧ xs.length + zs.length ≤ sizeLine ∧ ∀ p, H p = none → Q (.ref p) (upd H p (.lst (xs ++ zs)))
theorem op_cat : OpR X (binaryOp .Add) rCat := by
  intro pins s σ H x y v u Q I rx ry h
  obtain ⟨l, b, xs, zs, rfl, rfl, hH, hB, hz, q⟩ := h
  cases rx
  cases ry
  obtain ⟨z, its, n, r, hl, e⟩ := I.lstM hH
  obtain ⟨z2, its2, n2, r2, hl2, e2⟩ := I.lstM hB
  refine PySem.P.add_list e e2 ?_ (by rw [List.size_toArray, List.size_toArray]; omega)
  have ea : its.toArray ++ its2.toArray = (its ++ its2).toArray := by simp
  rw [ea]
  exact ⟨.ref _, _, I.lnew (t' := s.toks) (r.append r2) (by rw [List.length_append]; omega), rfl, q _ I.fresh⟩
def rRep : R2 := fun x y H Q => ∃ l k xs, x = .ref l ∧ y = .int k ∧ H l = some (.lst xs) ∧ -(2 ^ 63) ≤ k ∧ k < 2 ^ 63 ∧ xs.length * k.toNat ≤ sizeLine ∧
  ∀ p, H p = none → Q (.ref p) (upd H p (.lst (List.replicate k.toNat xs).flatten))
theorem len_rep {α : Type} (xs : List α) (k : Nat) : (List.replicate k xs).flatten.length = k * xs.length := by
  induction k with
  | zero => simp
  | succ k ih => rw [List.replicate_succ, List.flatten_cons, List.length_append, ih, Nat.succ_mul, Nat.add_comm]
theorem op_rep : OpR X (binaryOp .Mult) rRep := by
  intro pins s σ H x y v u Q I rx ry h
  obtain ⟨l, k, xs, rfl, rfl, hH, h1, h2, hz, q⟩ := h
  cases rx
  obtain ⟨t, rfl⟩ := ry
  obtain ⟨z, its, n, r, hl, e⟩ := I.lstM hH
  have hlen : its.toArray.size * k.toNat ≤ sizeLine := by rw [List.size_toArray, ← hl]; exact hz
  have hcap : ¬ its.toArray.size * k.toNat > (2 ^ 63 - 1) / 8 := by
    have : (sizeLine : Nat) ≤ (2 ^ 63 - 1) / 8 := by decide
    omega
  have hfit : ¬ (!Builtin.List.listFitsIndex k) = true := by
    rw [fitsIndex_both h1 h2]
    exact Bool.false_ne_true
  have hlong : ¬ Builtin.List.listTooLong (its.toArray.size * k.toNat) = true := by
    rw [notLongL hlen]
    exact Bool.false_ne_true
  have hnew : List.foldl (fun x1 x2 => x1 ++ x2) #[] (List.replicate (if its.toArray.isEmpty = true then 0 else k.toNat) its.toArray) = (List.replicate k.toNat its).flatten.toArray := by
    have f0 : ∀ m : Nat, List.foldl (fun x1 x2 => x1 ++ x2) #[] (List.replicate m its.toArray) = (List.replicate m its).flatten.toArray := fun m => by
      have := foldl_rep its m []
      rw [List.nil_append] at this
      exact this
    rw [f0]
    cases its with
    | nil => simp
    | cons a r' => rw [if_neg (by simp)]
  refine wpAny_binaryOp_repeat_ref (T := "list") (U := "int") (by decide) ⟨_, e, rfl⟩ (fun s' => typeIs_int s' k t) noFill_list_mul F.fills_int_mul F.slot_int_rmul repeat_list F.slot_int_index.lookup
    (call_meets F.slot_int_rmul (typeIs_int s k t) F.entry_int_rmul (F.args_int_rmul_2 _ _) (int___rmul___int_list k t l its.toArray n)
      ⟨e, rfl, ⟨_, e, rfl⟩, call_meets F.slot_list_mul ⟨_, e, rfl⟩ F.entry_list_mul (F.args_list_mul_2 _ _) (AutoListH.list___mul___list_int_3 l its.toArray n k t hfit hcap hlong) ⟨e, ?_⟩⟩)
  rw [hnew]
  exact ⟨.ref _, _, I.lnew (t' := s.toks) (r.rep k.toNat) (by rw [len_rep, Nat.mul_comm]; exact hz), rfl, q _ I.fresh⟩
end
section
variable {prog : Program} {w : World} {A : Around} {E : Value → Shared → Prop} {s : Shared}
set_option maxRecDepth 100000 in
end
section
variable {X : Cx}
end
end L2
namespace L2
open PySem PySem.Spec PyProof.Rows
theorem Vals.ints : ∀ {ns : List Int} {us : List Value}, Vals (ns.map V.int) us → IntsAre us ns
  | [], us, h => by
    rw [List.map_nil] at h
    cases h
    exact IntsAre.nil
  | n :: ns, us, h => by
    rw [List.map_cons] at h
    cases h with
    | cons r t =>
      obtain ⟨k, rfl⟩ := r
      exact IntsAre.cons n k (Vals.ints t)
theorem vals_of_ints : ∀ {us : List Value} {ns : List Int}, IntsAre us ns → Vals (ns.map V.int) us
  | _, _, .nil => by rw [List.map_nil]; exact Paired.nil
  | _, _, .cons n t h => by rw [List.map_cons]; exact Paired.cons (show RelV (V.int n) (Value.int n t) from ⟨t, rfl⟩) (vals_of_ints h)
theorem Vals.bls : ∀ {bs : List Bool} {us : List Value}, Vals (bs.map V.bl) us → us = bs.map Value.bool
  | [], us, h => by
    rw [List.map_nil] at h
    cases h
    rfl
  | b :: bs, us, h => by
    rw [List.map_cons] at h
    cases h with
    | cons r t =>
      cases r
      rw [Vals.bls t, List.map_cons]
theorem Vals.ref1 {a : Addr} {us : List Value} (r : Vals [V.ref a] us) : us = [Value.ref a] := by
  cases r with
  | cons r t =>
    cases t
    cases r
    rfl
section
variable {prog : Program} {w : World} {A : Around} {E : Value → Shared → Prop} {s : Shared} {l : Addr} {its : List Value} {ns : List Int} {Q : Value → Shared → Prop}
theorem sum_raw (hh : A.handled = none) (hl : s.heap.IsList l its.toArray) (hi : IntsAre its ns)
    (h : ∀ h' tk t', (∀ b o, s.heap.get? b = some o → h'.get? b = some o) → Q (.int ns.sum t') { s with heap := h', toks := tk }) : wpAny (model prog w) A (call (.builtin "sum") [.ref l]) Q E s := by
  obtain ⟨xs, e⟩ := hi.allInts.items
  have hn : numsOf (intItems xs).toList = ns := by rw [← e]; exact hi.numsOf
  rw [nums_intItems] at hn
  rw [e] at hl
  refine PySem.sum_intListG hh hl fun h' tk t' hk => ?_
  have := h h' tk t' hk
  rw [preSum_eq, List.take_of_length_le (by simp), hn]; exact this
theorem max_raw (hh : A.handled = none) (hl : s.heap.IsList l its.toArray) (hi : IntsAre its ns) (hne : 0 < ns.length)
    (h : ∀ h' tk M t', (∀ b o, s.heap.get? b = some o → h'.get? b = some o) → M ∈ ns → (∀ a, a ∈ ns → a ≤ M) → Q (.int M t') { s with heap := h', toks := tk }) : wpAny (model prog w) A (call (.builtin "max") [.ref l]) Q E s := by
  obtain ⟨xs, e⟩ := hi.allInts.items
  have hn : numsOf (intItems xs).toList = ns := by rw [← e]; exact hi.numsOf
  rw [nums_intItems] at hn
  subst hn
  rw [e] at hl
  have hsz : 0 < xs.size := by simpa using hne
  refine PySem.max_intList hh hl hsz fun v h' tk hv hk => ?_
  obtain ⟨t, rfl⟩ := intItems_at hv
  obtain ⟨h1, h2⟩ := argBest_gt (numAt xs) (xs.size - 1)
  refine h h' tk _ t hk ?_ fun a ha => ?_
  · rw [numAt_eq]; exact PySem.getD_mem (by rw [List.length_map, Array.length_toList]; omega)
  · obtain ⟨j, hj, rfl⟩ := mem_getD ha
    rw [List.length_map, Array.length_toList] at hj
    rw [← numAt_eq]; exact h2 j (by omega)
theorem min_raw (hh : A.handled = none) (hl : s.heap.IsList l its.toArray) (hi : IntsAre its ns) (hne : 0 < ns.length)
    (h : ∀ h' tk M t', (∀ b o, s.heap.get? b = some o → h'.get? b = some o) → M ∈ ns → (∀ a, a ∈ ns → M ≤ a) → Q (.int M t') { s with heap := h', toks := tk }) : wpAny (model prog w) A (call (.builtin "min") [.ref l]) Q E s := by
  obtain ⟨xs, e⟩ := hi.allInts.items
  have hn : numsOf (intItems xs).toList = ns := by rw [← e]; exact hi.numsOf
  rw [nums_intItems] at hn
  subst hn
  rw [e] at hl
  have hsz : 0 < xs.size := by simpa using hne
  refine PySem.min_intList hh hl hsz fun v h' tk hv hk => ?_
  obtain ⟨t, rfl⟩ := intItems_at hv
  obtain ⟨h1, h2⟩ := argBest_lt (numAt xs) (xs.size - 1)
  refine h h' tk _ t hk ?_ fun a ha => ?_
  · rw [numAt_eq]; exact PySem.getD_mem (by rw [List.length_map, Array.length_toList]; omega)
  · obtain ⟨j, hj, rfl⟩ := mem_getD ha
    rw [List.length_map, Array.length_toList] at hj
    rw [← numAt_eq]; exact h2 j (by omega)
end
section
variable {X : Cx}
def rSum (K : PySem.W.Frag) : List V → Hp → VK → Prop := fun vs H Q => ∃ (a : Addr) (ns : List Int), vs = [V.ref a] ∧ SqL K H a (ns.map V.int) ∧ Q (.int ns.sum) H
def rMax (K : PySem.W.Frag) : List V → Hp → VK → Prop := fun vs H Q => ∃ (a : Addr) (ns : List Int), vs = [V.ref a] ∧ SqL K H a (ns.map V.int) ∧ 0 < ns.length ∧ ∀ m, m ∈ ns → (∀ y, y ∈ ns → y ≤ m) → Q (.int m) H
def rMin (K : PySem.W.Frag) : List V → Hp → VK → Prop := fun vs H Q => ∃ (a : Addr) (ns : List Int), vs = [V.ref a] ∧ SqL K H a (ns.map V.int) ∧ 0 < ns.length ∧ ∀ m, m ∈ ns → (∀ y, y ∈ ns → m ≤ y) → Q (.int m) H
theorem cr_sum (hc : X.calm = true) : CallR X (.builtin "sum") (rSum X.K) := by
  intro pins s σ H vs us Q I r h
  obtain ⟨a, ns, rfl, hs, q⟩ := h
  obtain ⟨its, rv, hl, _⟩ := I.list hs
  rw [Vals.ref1 r]
  exact sum_raw (I.ok.hd hc) hl.isList rv.ints fun h' tk t' hk => ⟨.int _, H, I.kept hk, ⟨_, rfl⟩, q⟩
theorem cr_max (hc : X.calm = true) : CallR X (.builtin "max") (rMax X.K) := by
  intro pins s σ H vs us Q I r h
  obtain ⟨a, ns, rfl, hs, hne, q⟩ := h
  obtain ⟨its, rv, hl, _⟩ := I.list hs
  rw [Vals.ref1 r]
  exact max_raw (I.ok.hd hc) hl.isList rv.ints hne fun h' tk m t' hk h1 h2 => ⟨.int _, H, I.kept hk, ⟨_, rfl⟩, q m h1 h2⟩
theorem cr_min (hc : X.calm = true) : CallR X (.builtin "min") (rMin X.K) := by
  intro pins s σ H vs us Q I r h
  obtain ⟨a, ns, rfl, hs, hne, q⟩ := h
  obtain ⟨its, rv, hl, _⟩ := I.list hs
  rw [Vals.ref1 r]
  exact min_raw (I.ok.hd hc) hl.isList rv.ints hne fun h' tk m t' hk h1 h2 => ⟨.int _, H, I.kept hk, ⟨_, rfl⟩, q m h1 h2⟩
def rSorted (K : PySem.W.Frag) : List V → Hp → VK → Prop := fun vs H Q => ∃ (a : Addr) (ns : List Int), vs = [V.ref a] ∧ SqL K H a (ns.map V.int) ∧ ns.length < 64 ∧
  ∀ (ns' : List Int) (p : Addr), ns'.Perm ns → ns'.Pairwise (· ≤ ·) → H p = none → Q (.ref p) (upd H p (.lst (ns'.map V.int)))
def rSortedS (K : PySem.W.Frag) : List V → Hp → VK → Prop := fun vs H Q => ∃ (a : Addr) (xs : List Str), vs = [V.ref a] ∧ SqL K H a (xs.map V.str) ∧ xs.length < 64 ∧
  ∀ (ys : List Str) (p : Addr), ys.Perm xs → sortedS ys = true → H p = none → Q (.ref p) (upd H p (.lst (ys.map V.str)))
def rSort : V → List V → Hp → VK → Prop := fun x xs H Q => ∃ (a : Addr) (ns : List Int), x = V.ref a ∧ xs = [] ∧ H a = some (.lst (ns.map V.int)) ∧ ns.length < 64 ∧
  ∀ ns' : List Int, ns'.Perm ns → ns'.Pairwise (· ≤ ·) → Q .non (upd H a (.lst (ns'.map V.int)))
end
section
variable {X : Cx}
def rIndex (K : PySem.W.Frag) : V → List V → Hp → VK → Prop := fun x xs H Q => ∃ (a : Addr) (ys : List V) (y : V) (j : Nat) (z : V), x = V.ref a ∧ xs = [y] ∧ SqL K H a ys ∧ flatV y = true ∧ ys.all flatV = true ∧ ys[j]? = some z ∧ eqV z y = true ∧
  (∀ (m : Nat) (z' : V), m < j → ys[m]? = some z' → eqV z' y = false) ∧ Q (.int (j : Nat)) H
end
section
variable {X : Cx}
end
theorem iter_any {prog : Program} {w : World} {A : Around} {E : Value → Shared → Prop} {s : Shared} {l : Addr} {items : Array Value} {Q : Value → Shared → Prop} (hl : s.heap.IsList l items)
    (h : ∀ s₂ : Shared, s₂ = { s with heap := s.heap.push { cls := .type "list_iterator", data := .fields #[.ref l, .int 0 0] } } →
      (s₂.heap.IsListIter s.heap.objs.size l 0 ∧ s₂.heap.IsList l items) → l ≠ s.heap.objs.size → Q (.ref s.heap.objs.size) s₂) : wpAny (model prog w) A (pyIter (.ref l)) Q E s := by
  have hlt : l < s.heap.objs.size := by obtain ⟨_, e, _⟩ := hl; exact Heap.lt_size e
  exact wpAny_pyIter_list hl (h _ rfl ⟨⟨_, Heap.get?_push_size _ rfl, rfl, rfl⟩, hl.push _⟩ (Nat.ne_of_lt hlt))
theorem truth_bools {prog : Program} {w : World} {A : Around} {bs : List Bool} {its : List Value} (e : its = bs.map Value.bool) :
    TruthOf prog w A (fun i v => its.toArray[i]? = some v) (fun i => bs.getD i false) := fun i v s Q E hv hq => by
  have hv' : its[i]? = some v := by simpa using hv
  rw [e, List.getElem?_map] at hv'
  obtain ⟨b, hb, rfl⟩ := Option.map_eq_some_iff.mp hv'
  have hg : bs.getD i false = b := by rw [List.getD_eq_getElem?_getD, hb] <;> rfl
  have hq' : Q (bs.getD i false) s := hq
  rw [hg] at hq'
  exact wpAny_truthy_bool hq'
theorem any_range : ∀ bs : List Bool, (List.range bs.length).any (fun i => bs.getD i false) = bs.any id
  | [] => rfl
  | b :: bs => by
    rw [List.length_cons, List.range_succ_eq_map, List.any_cons, List.any_map, List.any_cons, ← any_range bs]
    all_goals rfl
theorem all_range : ∀ bs : List Bool, (List.range bs.length).all (fun i => bs.getD i false) = bs.all id
  | [] => rfl
  | b :: bs => by
    rw [List.length_cons, List.range_succ_eq_map, List.all_cons, List.all_map, List.all_cons, ← all_range bs]
    all_goals rfl
section
variable {X : Cx}
def rAny (K : PySem.W.Frag) : List V → Hp → VK → Prop := fun vs H Q => ∃ (a : Addr) (bs : List Bool), vs = [V.ref a] ∧ SqL K H a (bs.map V.bl) ∧ Q (.bl (bs.any id)) H
def rAll (K : PySem.W.Frag) : List V → Hp → VK → Prop := fun vs H Q => ∃ (a : Addr) (bs : List Bool), vs = [V.ref a] ∧ SqL K H a (bs.map V.bl) ∧ Q (.bl (bs.all id)) H
theorem cr_any (hc : X.calm = true) : CallR X (.builtin "any") (rAny X.K) := by
  intro pins s σ H vs us Q I r h
  obtain ⟨a, bs, rfl, hs, q⟩ := h
  obtain ⟨its, rv, hl, _⟩ := I.list hs
  rw [Vals.ref1 r]
  have hb := rv.bls
  refine call_any_walk (iter_any hl.isList fun s₂ e2 st hne => ?_)
  subst e2
  refine ⟨_, _, _, _, _, _, _, rfl, Walks.list (A := X.A.in1) (I.ok.hd hc) _ a hne its.toArray, st, truth_bools hb, fun h' tk hk => ?_⟩
  refine ⟨.bl _, H, I.kept fun b o eo => hk b o (fun hmem => ?_) (Heap.get?_push_of_some _ eo), ?_, q⟩
  · rcases List.mem_cons.mp hmem with e1 | hmem
    · exact absurd (e1 ▸ Heap.lt_size eo) (Nat.lt_irrefl _)
    · cases hmem
  · show Value.bool _ = Value.bool _
    rw [← any_range, hb, List.size_toArray, List.length_map]
theorem cr_all (hc : X.calm = true) : CallR X (.builtin "all") (rAll X.K) := by
  intro pins s σ H vs us Q I r h
  obtain ⟨a, bs, rfl, hs, q⟩ := h
  obtain ⟨its, rv, hl, _⟩ := I.list hs
  rw [Vals.ref1 r]
  have hb := rv.bls
  refine call_all_walk (iter_any hl.isList fun s₂ e2 st hne => ?_)
  subst e2
  refine ⟨_, _, _, _, _, _, _, rfl, Walks.list (A := X.A.in1) (I.ok.hd hc) _ a hne its.toArray, st, truth_bools hb, fun h' tk hk => ?_⟩
  refine ⟨.bl _, H, I.kept fun b o eo => hk b o (fun hmem => ?_) (Heap.get?_push_of_some _ eo), ?_, q⟩
  · rcases List.mem_cons.mp hmem with e1 | hmem
    · exact absurd (e1 ▸ Heap.lt_size eo) (Nat.lt_irrefl _)
    · cases hmem
  · show Value.bool _ = Value.bool _
    rw [← all_range, hb, List.size_toArray, List.length_map]
end
mutual
inductive Dp (K : PySem.W.Frag) (H : Hp) : V → PyData → Prop
  | non : Dp K H .non .none
  | bl (b : Bool) : Dp K H (.bl b) (.bool b)
  | int (i : Int) : Dp K H (.int i) (.int i)
  | str (x : Str) : Dp K H (.str x) (.str x)
  | lst {a : Addr} {xs : List V} {ds : List PyData} : SqL K H a xs → DpAll K H xs ds → Dp K H (.ref a) (.list ds)
  | tup {a : Addr} {xs : List V} {ds : List PyData} : SqT K H a xs → DpAll K H xs ds → Dp K H (.ref a) (.tuple ds)
inductive DpAll (K : PySem.W.Frag) (H : Hp) : List V → List PyData → Prop
  | nil : DpAll K H [] []
  | cons {v : V} {vs : List V} {d : PyData} {ds : List PyData} : Dp K H v d → DpAll K H vs ds → DpAll K H (v :: vs) (d :: ds)
end
section
variable {X : Cx} {pins : List (Addr × Obj)} {σ : St} {H : Hp} {s : Shared}
mutual
theorem Dp.reads (I : Inv X pins σ H s) : ∀ (d : PyData) (v : V) (u : Value), Dp X.K H v d → RelV v u → ∃ as, Reads s.heap u d as
  | .none, _, _, h, r => by
    cases h
    cases r
    exact ⟨_, Reads.none⟩
  | .bool b, _, _, h, r => by
    cases h
    cases r
    exact ⟨_, Reads.bool b⟩
  | .int i, _, _, h, r => by
    cases h
    obtain ⟨t, rfl⟩ := r
    exact ⟨_, Reads.int i t⟩
  | .str x, _, _, h, r => by
    cases h
    obtain ⟨t, rfl⟩ := r
    exact ⟨_, Reads.str x t⟩
  | .list ds, _, _, h, r => by
    cases h with
    | lst hs ha =>
      cases r
      obtain ⟨its, rv, ⟨o, n, ho, hc, _, hd⟩, _⟩ := I.list hs
      obtain ⟨as, hr⟩ := Dp.readsAll I ds _ its ha rv
      exact ⟨_, Reads.list ho hc hd hr⟩
  | .tuple ds, _, _, h, r => by
    cases h with
    | tup hs ha =>
      cases r
      obtain ⟨its, rv, ⟨o, ho, hc, n, hd⟩, _⟩ := I.tuple hs
      obtain ⟨as, hr⟩ := Dp.readsAll I ds _ its ha rv
      exact ⟨_, Reads.tuple ho hc hd hr⟩
  | .dict _, _, _, h, _ => by cases h
theorem Dp.readsAll (I : Inv X pins σ H s) : ∀ (ds : List PyData) (vs : List V) (us : List Value), DpAll X.K H vs ds → Vals vs us → ∃ as, ReadsAll s.heap us ds as
  | [], _, _, h, r => by
    cases h
    cases r
    exact ⟨_, ReadsAll.nil⟩
  | d :: ds, _, _, h, r => by
    cases h with
    | cons h1 h2 =>
      cases r with
      | cons r1 r2 =>
        obtain ⟨as, q1⟩ := Dp.reads I d _ _ h1 r1
        obtain ⟨bs, q2⟩ := Dp.readsAll I ds _ _ h2 r2
        exact ⟨_, ReadsAll.cons q1 q2⟩
end
end
section
variable {X : Cx}
def rEqD (K : PySem.W.Frag) : R2 := fun x y H Q => ∃ d e, Dp K H x d ∧ Dp K H y e ∧ SeqAt.shaped d = true ∧ SeqAt.shaped e = true ∧ Q (.bl (PyData.eqv d e)) H
def rNeD (K : PySem.W.Frag) : R2 := fun x y H Q => ∃ d e, Dp K H x d ∧ Dp K H y e ∧ SeqAt.shaped d = true ∧ SeqAt.shaped e = true ∧ Q (.bl (!PyData.eqv d e)) H
theorem op_neD (hu : X.A.units + 64 < cLine) : OpR X (compareOp .NotEq) (rNeD X.K) := by
  intro pins s σ H x y v u Q I rx ry h
  obtain ⟨d, e, hd, he, sd, se, q⟩ := h
  obtain ⟨as, r1⟩ := Dp.reads I d x v hd rx
  obtain ⟨bs, r2⟩ := Dp.reads I e y u he ry
  exact SeqAt.compareNe_shaped r1 r2 sd se hu ⟨.bl _, H, I, rfl, q⟩
end
end L2
namespace L2
open PySem PySem.Spec PyProof.Rows
abbrev CellAt (h : Heap) (c : Addr) (v : Option Value) : Prop := h.IsCell c v
def relS (scope sc : Scope) : Scope :=
  { scope with names := scope.names.map fun (n, k) => if (k == .free && sc.kind == .function && sc.names.lookup n == some .cell) then (n, .cell) else (n, k) }
def cloFrom (cells : List (Str × Addr)) : List (Str × NameKind) → List (Str × Addr) → List (Str × Addr)
  | [], acc => acc
  | (n, k) :: r, acc => if k == .free then cloFrom cells r ((n, (cells.lookup n).getD 0) :: acc) else cloFrom cells r acc
theorem closure_loop (env : Env) (f : Str × NameKind → List (Str × Addr) → Sem (ForInStep (List (Str × Addr))))
    (hf : ∀ n k c, f (n, k) c = if k == .free then (do let a ← cellOf env n; pure (.yield ((n, a) :: c))) else pure (.yield c)) :
    ∀ (names : List (Str × NameKind)) (acc : List (Str × Addr)), (∀ y ∈ names, y.2 = .free → ∃ c, env.cells.lookup y.1 = some c) → forIn names acc f = pure (cloFrom env.cells names acc)
  | [], acc, _ => by rw [List.forIn_nil]; rfl
  | (n, k) :: r, acc, h => by
    rw [List.forIn_cons, hf]
    have ih := fun acc => closure_loop env f hf r acc fun y hy => h y (List.mem_cons_of_mem _ hy)
    unfold cloFrom
    by_cases hk : (k == NameKind.free) = true
    · rw [if_pos hk, if_pos hk]
      obtain ⟨c, hc⟩ := h (n, k) List.mem_cons_self (by simpa using hk)
      have e : cellOf env n = pure c := by unfold cellOf; rw [hc]
      rw [e]
      have e2 : (env.cells.lookup n).getD 0 = c := by rw [hc]; rfl
      rw [e2]
      exact ih _
    · rw [if_neg hk, if_neg hk]
      exact ih _
theorem closure_ok {scope : Scope} {env : Env} (h : ∀ y ∈ scope.names, y.2 = .free → ∃ c, env.cells.lookup y.1 = some c) : closureFor scope env = pure (cloFrom env.cells scope.names []) := by
  simp only [closureFor]
  rw [closure_loop env _ (fun n k c => rfl) scope.names [] h]
  rfl
theorem mem_lookup {α : Type} : ∀ {l : List (Str × α)} {n : Str} {c : α}, (n, c) ∈ l → ∃ c', l.lookup n = some c'
  | (k, v) :: r, n, c, h => by
    rw [List.lookup_cons]
    cases hb : n == k with
    | true => exact ⟨_, rfl⟩
    | false =>
      rcases List.mem_cons.mp h with e | h
      · cases e; simp at hb
      · exact mem_lookup h
theorem cloFrom_mem {cells : List (Str × Addr)} : ∀ {names : List (Str × NameKind)} {acc : List (Str × Addr)} {n : Str} {c : Addr}, (n, c) ∈ cloFrom cells names acc → (n, c) ∈ acc ∨ ((n, .free) ∈ names ∧ c = (cells.lookup n).getD 0)
  | [], _, _, _, h => .inl h
  | (m, k) :: r, acc, n, c, h => by
    unfold cloFrom at h
    split at h
    · rename_i hk
      have hk : k = .free := by simpa using hk
      rcases cloFrom_mem h with h | ⟨h1, h2⟩
      · rcases List.mem_cons.mp h with e | h
        · cases e; exact .inr ⟨hk ▸ List.mem_cons_self, rfl⟩
        · exact .inl h
      · exact .inr ⟨List.mem_cons_of_mem _ h1, h2⟩
    · rcases cloFrom_mem h with h | ⟨h1, h2⟩
      · exact .inl h
      · exact .inr ⟨List.mem_cons_of_mem _ h1, h2⟩
theorem cloFrom_acc {cells : List (Str × Addr)} : ∀ {names : List (Str × NameKind)} {acc : List (Str × Addr)} {p : Str × Addr}, p ∈ acc → p ∈ cloFrom cells names acc
  | [], _, _, h => h
  | (m, k) :: r, acc, p, h => by
    unfold cloFrom
    split
    · exact cloFrom_acc (List.mem_cons_of_mem _ h)
    · exact cloFrom_acc h
theorem cloFrom_has {cells : List (Str × Addr)} : ∀ {names : List (Str × NameKind)} {acc : List (Str × Addr)} {n : Str}, (n, .free) ∈ names → (n, (cells.lookup n).getD 0) ∈ cloFrom cells names acc
  | (m, k) :: r, acc, n, h => by
    unfold cloFrom
    rcases List.mem_cons.mp h with e | h
    · cases e
      exact cloFrom_acc List.mem_cons_self
    · split
      · exact cloFrom_has h
      · exact cloFrom_has h
theorem cells_mem : ∀ {names : List (Str × NameKind)} {h : Heap} {acc : List (Str × Addr)} {x : Str} {c : Addr}, (x, c) ∈ cellsFrom h.objs.size names acc →
    (x, c) ∈ acc ∨ ((x, .cell) ∈ names ∧ h.objs.size ≤ c ∧ CellAt (pushCells h names) c none)
  | [], _, _, _, _, h => .inl h
  | (n, k) :: r, h, acc, x, c, hm => by
    unfold cellsFrom at hm
    unfold pushCells
    split at hm
    · rename_i hk
      rw [if_pos hk]
      have hk : k = .cell := by simpa using hk
      rw [← Heap.size_push h { cls := .type "cell", data := .cell none }] at hm
      rcases cells_mem hm with hm | ⟨h1, h2, h3⟩
      · rcases List.mem_cons.mp hm with e | hm
        · cases e
          exact .inr ⟨hk ▸ List.mem_cons_self, Nat.le_refl _, _, pushCells_keeps r _ _ _ (Heap.get?_push_size _ rfl), rfl⟩
        · exact .inl hm
      · rw [Heap.size_push] at h2
        exact .inr ⟨List.mem_cons_of_mem _ h1, Nat.le_of_succ_le h2, h3⟩
    · rename_i hk
      rw [if_neg hk]
      rcases cells_mem hm with hm | ⟨h1, h2, h3⟩
      · exact .inl hm
      · exact .inr ⟨List.mem_cons_of_mem _ h1, h2, h3⟩
theorem cells_acc : ∀ {names : List (Str × NameKind)} {n : Nat} {acc : List (Str × Addr)} {p : Str × Addr}, p ∈ acc → p ∈ cellsFrom n names acc
  | [], _, _, _, h => h
  | (m, k) :: r, n, acc, p, h => by
    unfold cellsFrom
    split
    · exact cells_acc (List.mem_cons_of_mem _ h)
    · exact cells_acc h
theorem cells_has : ∀ {names : List (Str × NameKind)} {n : Nat} {acc : List (Str × Addr)} {x : Str}, (x, .cell) ∈ names → ∃ c, (x, c) ∈ cellsFrom n names acc
  | (m, k) :: r, n, acc, x, h => by
    unfold cellsFrom
    rcases List.mem_cons.mp h with e | h
    · cases e
      exact ⟨n, cells_acc List.mem_cons_self⟩
    · split
      · exact cells_has h
      · exact cells_has h
theorem cells_inj : ∀ {names : List (Str × NameKind)} {h : Heap} {acc : List (Str × Addr)} {x y : Str} {c : Addr}, (∀ p ∈ acc, p.2 < h.objs.size) → (∀ x y c, (x, c) ∈ acc → (y, c) ∈ acc → x = y) →
    (x, c) ∈ cellsFrom h.objs.size names acc → (y, c) ∈ cellsFrom h.objs.size names acc → x = y
  | [], _, _, _, _, _, _, hi, h1, h2 => hi _ _ _ h1 h2
  | (n, k) :: r, h, acc, x, y, c, hl, hi, h1, h2 => by
    unfold cellsFrom at h1 h2
    split at h1
    · rename_i hk
      rw [if_pos hk] at h2
      rw [← Heap.size_push h { cls := .type "cell", data := .cell none }] at h1 h2
      refine cells_inj (h := h.push _) (fun p hp => ?_) (fun x y c a b => ?_) h1 h2
      · rw [Heap.size_push]
        rcases List.mem_cons.mp hp with rfl | hp
        · exact Nat.lt_succ_self _
        · exact Nat.lt_succ_of_lt (hl p hp)
      · rcases List.mem_cons.mp a with e | a <;> rcases List.mem_cons.mp b with e' | b
        · cases e; cases e'; rfl
        · cases e; exact absurd (hl _ b) (Nat.lt_irrefl _)
        · cases e'; exact absurd (hl _ a) (Nat.lt_irrefl _)
        · exact hi _ _ _ a b
    · rename_i hk
      rw [if_neg hk] at h2
      exact cells_inj hl hi h1 h2
theorem newEnv_comp {M : Model} {A : Around} {E : Value → Shared → Prop} {s : Shared} {scope : Scope} {globals : Addr} {closure : List (Str × Addr)} {qual : Str} {func : Option Addr} {code : Value} {around : Env} {builtins : Addr} {Q : Env → Shared → Prop}
    (h : Q (newEnv scope s.heap.objs.size globals (cellsFrom (s.heap.objs.size + 1) scope.names closure) qual func code (some around) builtins)
      { s with heap := pushCells (s.heap.push { cls := .type "dict", data := .dict #[] }) scope.names }) :
    wpAny M A (newFunctionEnv scope globals closure [] qual func code (some around) builtins) Q E s := by
  simp only [newFunctionEnv, Option.isSome_some, if_true]
  refine wpAny_bind (wpAny_alloc ?_)
  refine wpAny_bind (wpAny_layCells _ (fun n k c => rfl) scope.names closure _ _ ?_)
  rw [show ({ s with heap := s.heap.push { cls := .type "dict", data := .dict #[] } } : Shared).heap.objs.size = s.heap.objs.size + 1 from Heap.size_push ..]
  rw [List.forIn_nil]
  exact wpAny_bind (wpAny_pure (wpAny_pure h))
theorem lookup_relS {sc : Scope} : ∀ {names : List (Str × NameKind)} {x : Str} {k : NameKind},
    (names.map fun (n, k) => if (k == NameKind.free && sc.kind == .function && sc.names.lookup n == some .cell) then (n, NameKind.cell) else (n, k)).lookup x = some k →
    ∃ k', names.lookup x = some k' ∧ (k = k' ∨ (k' = .free ∧ k = .cell))
  | [], _, _, h => by simp at h
  | (n, k₀) :: r, x, k, h => by
    have ih := @lookup_relS sc r x k
    have h' : List.lookup x ((if (k₀ == NameKind.free && sc.kind == .function && sc.names.lookup n == some .cell) = true then (n, NameKind.cell) else (n, k₀)) :: (r.map _)) = some k := h
    cases hx : x == n with
    | true =>
      simp only [List.lookup_cons, hx]
      by_cases hc : (k₀ == NameKind.free && sc.kind == .function && sc.names.lookup n == some .cell) = true
      · rw [if_pos hc] at h'
        simp only [List.lookup_cons, hx] at h'
        cases h'
        simp only [Bool.and_eq_true, beq_iff_eq] at hc
        exact ⟨k₀, rfl, .inr ⟨hc.1.1, rfl⟩⟩
      · rw [if_neg hc] at h'
        simp only [List.lookup_cons, hx] at h'
        cases h'
        exact ⟨_, rfl, .inl rfl⟩
    | false =>
      simp only [List.lookup_cons, hx]
      by_cases hc : (k₀ == NameKind.free && sc.kind == .function && sc.names.lookup n == some .cell) = true
      · rw [if_pos hc] at h'
        simp only [List.lookup_cons, hx] at h'
        exact ih h'
      · rw [if_neg hc] at h'
        simp only [List.lookup_cons, hx] at h'
        exact ih h'
structure BlkOk (N : List Str) (sc scope : Scope) (own : List (Str × Nat)) : Prop where
  kind : scope.kind = .function
  uniq : ∀ y ∈ scope.names, scope.names.lookup y.1 = some y.2
  ix : ∀ p ∈ own, N[p.2]? = some p.1
  free : ∀ y ∈ scope.names, y.2 = .free → sc.names.lookup y.1 = some .cell ∨ sc.names.lookup y.1 = some .free
  own : ∀ y ∈ scope.names, y.2 = .local ∨ y.2 = .cell → y.1 ∈ own.map (·.1) ∨ y.1 ∉ N
def wipe (σ : St) : List Nat → St
  | [] => σ
  | v :: vs => (wipe σ vs).set v none
theorem wipe_length (σ : St) : ∀ vs : List Nat, (wipe σ vs).length = σ.length
  | [] => rfl
  | v :: vs => by unfold wipe; rw [List.length_set, wipe_length σ vs]
theorem wipe_some {σ : St} {i : Nat} {x : V} : ∀ {vs : List Nat}, (wipe σ vs)[i]? = some (some x) → σ[i]? = some (some x) ∧ i ∉ vs
  | [], h => ⟨h, by simp⟩
  | v :: vs, h => by
    unfold wipe at h
    by_cases hi : v = i
    · subst hi
      by_cases hv : v < (wipe σ vs).length
      · rw [List.getElem?_set_self hv] at h; cases h
      · rw [List.getElem?_eq_none (by simpa using hv)] at h; cases h
    · rw [List.getElem?_set_ne hi] at h
      obtain ⟨h1, h2⟩ := wipe_some h
      exact ⟨h1, by simp only [List.mem_cons, not_or]; exact ⟨fun e => hi e.symm, h2⟩⟩
abbrev Cx.blk (X : Cx) (s : Shared) (H : Hp) (scope : Scope) (cenv : Env) (fp : List Addr) : Cx := { X with s_0 := s, H_0 := H, env := cenv, outer := X.stack, ex := fp, fn := fun x => scope.names.lookup x == some .cell, pn := [], xe := fun _ _ => False }
section
variable {X : Cx} {pins : List (Addr × Obj)} {σ : St} {H : Hp} {s : Shared}
theorem block_start {scope : Scope} {own : List (Str × Nat)} {fp : List Addr} (I : Inv X pins σ H s) (ok : BlkOk X.N X.env.scope scope own) (hN : X.N.Nodup) (hfp : ∀ b ∈ fp, FpOk X pins H b ∧ b < s.heap.objs.size) :
    Inv (X.blk s H scope (compEnvC scope (cellsFrom (s.heap.objs.size + 1) scope.names (cloFrom X.env.cells scope.names [])) s.heap.objs.size X.env) fp) [] (wipe σ (own.map (·.2))) H { s with heap := pushCells (s.heap.push { cls := .type "dict", data := .dict #[] }) scope.names } := by
  have hfree : ∀ y ∈ scope.names, y.2 = .free → ∃ c, X.env.cells.lookup y.1 = some c := fun y hy e => by
    rcases ok.free y hy e with k | k
    · exact I.ok.has _ (.inl k)
    · exact I.ok.has _ (.inr k)
  generalize hcenv : compEnvC scope (cellsFrom (s.heap.objs.size + 1) scope.names (cloFrom X.env.cells scope.names [])) s.heap.objs.size X.env = cenv
  have kp : ∀ b o, s.heap.get? b = some o → (pushCells (s.heap.push { cls := .type "dict", data := .dict #[] }) scope.names).get? b = some o := fun b o e => pushCells_keeps _ _ _ _ (Heap.get?_push_of_some _ e)
  have hL : cenv.locals = s.heap.objs.size := by rw [← hcenv]; rfl
  have hcl : cenv.cells = cellsFrom (s.heap.objs.size + 1) scope.names (cloFrom X.env.cells scope.names []) := by rw [← hcenv]; rfl
  have hsc : cenv.scope = relS scope X.env.scope := by rw [← hcenv]; rfl
  rw [← Heap.size_push s.heap { cls := .type "dict", data := .dict #[] }] at hcl
  have cm : ∀ {y c}, (y, c) ∈ cloFrom X.env.cells scope.names [] → X.env.cells.lookup y = some c ∧ c < s.heap.objs.size := fun {y c} hm => by
    rcases cloFrom_mem hm with hm | ⟨h1, rfl⟩
    · cases hm
    · obtain ⟨c, hc⟩ := hfree _ h1 rfl
      rw [hc]
      obtain ⟨w, z⟩ := I.cell _ _ hc
      exact ⟨rfl, z.lt⟩
  have mem : ∀ {y c}, cenv.cells.lookup y = some c → (X.env.cells.lookup y = some c ∧ c < s.heap.objs.size) ∨ (s.heap.objs.size + 1 ≤ c ∧ CellAt (pushCells (s.heap.push { cls := .type "dict", data := .dict #[] }) scope.names) c none) := fun {y c} e => by
    rw [hcl] at e
    rcases cells_mem (PySem.mem_of_lookup e) with hm | ⟨_, h2, h3⟩
    · exact .inl (cm hm)
    · rw [Heap.size_push] at h2; exact .inr ⟨h2, h3⟩
  have look : ∀ {y}, scope.names.lookup y = some .free → ∃ c, cenv.cells.lookup y = some c ∧ X.env.cells.lookup y = some c := fun {y} hl => by
    have hy : (y, NameKind.free) ∈ scope.names := PySem.mem_of_lookup hl
    obtain ⟨c', e'⟩ := mem_lookup (cells_acc (names := scope.names) (n := (s.heap.push { cls := .type "dict", data := .dict #[] }).objs.size) (cloFrom_has (cells := X.env.cells) (acc := []) hy))
    rw [← hcl] at e'
    refine ⟨c', e', ?_⟩
    rw [hcl] at e'
    rcases cells_mem (PySem.mem_of_lookup e') with hm | ⟨h1, _, _⟩
    · exact (cm hm).1
    · have := ok.uniq _ h1
      rw [hl] at this; cases this
  have okB : (X.blk s H scope cenv fp).Ok := by
    refine ⟨I.ok.mod, by show cenv.scope.kind = _; rw [hsc]; exact ok.kind, by show cenv.globals = _; rw [← hcenv]; exact I.ok.glob, by show cenv.builtins = _; rw [← hcenv]; exact I.ok.blt, by show s.heap.objs.size ≤ cenv.locals; rw [hL]; exact Nat.le_refl _,
      fun y z c e1 e2 => ?_, fun y hy => ?_, fun y c z e => ?_, I.ok.hd, I.ok.frames, .inl rfl, fun b hb => ⟨?_, fun y c e z => ?_⟩, I.bs, Nat.le_trans I.ok.bsz I.sz, fun b o e hb => ?_, fun b hb z => ?_, I.stack, I.stkFree⟩
    · have e1 : cenv.cells.lookup y = some c := e1
      have e2 : cenv.cells.lookup z = some c := e2
      rw [hcl] at e1 e2
      refine cells_inj (fun p hp => ?_) (fun y z c a b => I.ok.inj y z c (cm a).1 (cm b).1) (PySem.mem_of_lookup e1) (PySem.mem_of_lookup e2)
      rw [Heap.size_push]
      exact Nat.lt_succ_of_lt (cm (y := p.1) (c := p.2) hp).2
    · show ∃ c, cenv.cells.lookup y = some c
      have key : ∀ k, cenv.kindOf y = some k → (k = .cell ∨ k = .free) → ∃ c, cenv.cells.lookup y = some c := fun k hk hk' => by
        unfold Env.kindOf at hk
        rw [hsc] at hk
        obtain ⟨k', e, r⟩ := lookup_relS hk
        have : k' = .cell ∨ k' = .free := by
          rcases r with rfl | ⟨rfl, _⟩
          · exact hk'
          · exact .inr rfl
        rcases this with rfl | rfl
        · obtain ⟨c, hm⟩ := cells_has (n := (s.heap.push { cls := .type "dict", data := .dict #[] }).objs.size) (acc := cloFrom X.env.cells scope.names []) (PySem.mem_of_lookup e)
          obtain ⟨c', e'⟩ := mem_lookup hm
          exact ⟨c', by rw [hcl]; exact e'⟩
        · obtain ⟨c, h1, _⟩ := look e
          exact ⟨c, h1⟩
      rcases hy with hy | hy
      · exact key _ hy (.inl rfl)
      · exact key _ hy (.inr rfl)
    · have z : (scope.names.lookup y == some NameKind.cell) = true := z
      have z : scope.names.lookup y = some .cell := by simpa using z
      have e : cenv.cells.lookup y = some c := e
      rw [hcl] at e
      rcases cells_mem (PySem.mem_of_lookup e) with hm | ⟨_, h2, _⟩
      · rcases cloFrom_mem hm with hm | ⟨h1, _⟩
        · cases hm
        · have q := ok.uniq _ h1
          rw [z] at q; cases q
      · rw [Heap.size_push] at h2
        exact Nat.le_of_succ_le h2
    · show b ≠ cenv.locals
      rw [hL]; exact Nat.ne_of_lt (hfp b hb).2
    · have e : cenv.cells.lookup y = some c := e
      rcases mem e with ⟨h1, _⟩ | ⟨h1, _⟩
      · exact (hfp b hb).1.2.2.2.2.1 y c h1 z
      · have h2 : s.heap.objs.size + 1 ≤ b := by rw [← z]; exact h1
        exact absurd (Nat.lt_of_lt_of_le (hfp b hb).2 (Nat.le_of_succ_le h2)) (Nat.lt_irrefl _)
    · rcases (hfp b hb).1.2.2.2.1 with z | z
      · exact I.ok.noex b o e z
      · exact absurd (Nat.lt_of_lt_of_le (Heap.lt_size e) (Nat.le_trans I.ok.bsz z)) (Nat.lt_irrefl _)
    · rcases List.mem_cons.mp (I.stkSub b z) with z | z
      · exact (hfp b hb).1.2.1 z
      · exact (hfp b hb).1.2.2.1 z
  refine ⟨okB, rfl, I.bare, Un.kept kp, ⟨fun _ => none, ?_, fun i y av e1 e2 e3 => ?_⟩, fun y c e => ?_, ?_, fun y c e => ?_, fun p hp => ?_, I.hok.kept kp, by rw [wipe_length]; exact I.len⟩
  · show Heap.Ns _ cenv.locals _
    rw [hL]
    exact Heap.Ns.keeps (Heap.Ns.new ..) fun b o e => pushCells_keeps _ _ _ _ e
  · obtain ⟨e2, hne⟩ := wipe_some e2
    have hfr : scope.names.lookup y = some .free ∧ (cenv.kindOf y = some .cell ∨ cenv.kindOf y = some .free) := by
      have key : ∀ k, cenv.scope.names.lookup y = some k → k = .local ∨ k = .cell ∨ k = .free → scope.names.lookup y = some .free ∧ (cenv.kindOf y = some .cell ∨ cenv.kindOf y = some .free) := fun k hk hk' => by
        have hk0 := hk
        rw [hsc] at hk
        obtain ⟨k', e, r⟩ := lookup_relS hk
        have no : ¬ (k' = .local ∨ k' = .cell) := fun hh => by
          rcases ok.own _ (PySem.mem_of_lookup e) hh with e' | e'
          · obtain ⟨p, hp, hpy⟩ := List.mem_map.mp e'
            have e3 := ok.ix p hp
            have : p.1 = y := hpy
            rw [this] at e3
            exact hne (List.mem_map.mpr ⟨p, hp, nodup_ix hN e3 e1⟩)
          · exact e' (List.mem_of_getElem? e1)
        rcases r with rfl | ⟨rfl, rfl⟩
        · rcases hk' with rfl | rfl | rfl
          · exact absurd (.inl rfl) no
          · exact absurd (.inr rfl) no
          · exact ⟨e, .inr hk0⟩
        · exact ⟨e, .inl hk0⟩
      have e3 : Vis cenv.scope y := e3
      rcases e3 with e3 | e3 | e3
      · exact key _ e3 (.inl rfl)
      · exact key _ e3 (.inr (.inl rfl))
      · exact key _ e3 (.inr (.inr rfl))
    obtain ⟨m, hn, hl⟩ := I.loc
    have hvis : Vis X.env.scope y := (ok.free _ (PySem.mem_of_lookup hfr.1) rfl).elim (fun k => .inr (.inl k)) (fun k => .inr (.inr k))
    obtain ⟨w, r, q⟩ := hl i y av e1 e2 hvis
    refine ⟨w, r, .inr ⟨hfr.2, ?_⟩⟩
    obtain ⟨c, h1, h2⟩ := look hfr.1
    rcases q with ⟨k, _⟩ | ⟨_, c', e', z⟩
    · have k : X.env.scope.names.lookup y = some .local := k
      rcases ok.free _ (PySem.mem_of_lookup hfr.1) rfl with k' | k' <;> rw [show X.env.scope.names.lookup y = _ from k'] at k <;> cases k
    · rw [h2] at e'; cases e'
      exact ⟨c, h1, z.keeps kp⟩
  · have e : cenv.cells.lookup y = some c := e
    rcases mem e with ⟨h1, _⟩ | ⟨_, z⟩
    · obtain ⟨w, z⟩ := I.cell y c h1
      exact ⟨w, z.keeps kp⟩
    · exact ⟨_, z⟩
  · show H cenv.locals = none
    rw [hL]; exact I.hok.fresh (Nat.le_refl _)
  · have e : cenv.cells.lookup y = some c := e
    rcases mem e with ⟨h1, _⟩ | ⟨h1, _⟩
    · exact I.freeC y c h1
    · exact I.hok.fresh (Nat.le_of_succ_le h1)
  · exact absurd (show p ∈ ([] : List (Addr × Obj)) ++ [] from hp) (by simp)
theorem app_ok {E : Value → Shared → Prop} {D : Addr} {xs : List V} {y : V} {v : Value} {Q : Value → Shared → Prop} (I : Inv X pins σ H s) (hD : H D = some (.lst xs)) (hz : xs.length < sizeLine) (r : RelV y v)
    (h : ∀ s', Inv X pins σ (upd H D (.lst (xs ++ [y]))) s' → Q .none s') : wpAny (model X.prog X.w) X.A (call (.builtin "list.append") [.ref D, v]) Q E s := by
  obtain ⟨hz', its, n, ri, e⟩ := I.hok D _ hD
  have hl := ri.length
  refine append_at (hsz := by rw [List.size_toArray]; omega) e fun h' sb ho' => ?_
  refine h { s with heap := h' } (I.write (t' := s.toks) (by rw [hD]; trivial) (.inl rfl) (fun b u hb q => (sb.2 b hb).trans q) ⟨_, ho'⟩ ⟨by rw [List.length_append]; exact hz, its ++ [v], n + 1, ri.append (.cons r .nil), ?_⟩)
  rw [ho']
  simp
def PTs (X : Cx) (ifs : List Expr) (t : TT) : Prop :=
  ∀ (pins : List (Addr × Obj)) (s : Shared) (σ : St) (H : Hp) (Q : Bool → Hp → Prop), Inv X pins σ H s → t σ H Q →
    wpAny (model X.prog X.w) X.A (forIn ifs true fun c r => if r = true then do let ok ← isTrue c X.env (eval c X.env); pure (ForInStep.yield ok) else pure (ForInStep.yield r)) (TP X pins σ Q) X.xe s
def tYes : TT := fun _ H Q => Q true H
theorem pts_nil : PTs X [] tYes := fun _ _ _ H _ I h => wpAny_tests_nil ⟨H, I, h⟩
theorem pts_one {c : Expr} {t : TT} (h : PT X c t) : PTs X [c] t := fun pins s σ H Q I hw => wpAny_tests_one (h pins s σ H Q I hw)
end
theorem thnF {α : Type} {t : Sem α} {Q Q' : α → Shared → Prop} {M : Model} {A : Around} {E : Value → Shared → Prop} {s : Shared} (h : wpAny M A t Q (fun _ _ => False) s) (hQ : ∀ a s, Q a s → Q' a s) : wpAny M A t Q' E s := wpAny_mono h hQ fun _ _ z => False.elim z
theorem compLoop_any {prog : Program} {w : World} {A : Around} {R : Result → Shared → Prop} {s : Shared} {elt target iter : Expr} {ifs : List Expr} {scope : Scope} {pos : Pos} {it acc : Value} {env : Env} (I : Nat → Shared → Prop)
    (turn : ∀ n s, I n s → wpAny (model prog w) A (pyNext it) (fun r s₁ => match r with
      | none => R (.ok .next) s₁
      | some v => wpAny (model prog w) A (letOwnedTupleGo target it v) (fun _ s₁' => wpAny (model prog w) A (assign target env v) (fun _ s₂ =>
          wpAny (model prog w) A (forIn ifs true fun c r => if r = true then do let ok ← isTrue c env (eval c env); pure (ForInStep.yield ok) else pure (ForInStep.yield r)) (fun ok s₃ =>
            if ok = true then wpAny (model prog w) A (eval elt env) (fun x s₄ =>
              wpAny (model prog w) A (call (.builtin "list.append") [acc, x]) (fun _ s₅ => ∃ m, m < n ∧ I m s₅) (notedBy (model prog w) A env fun e s' => R (.error e) s') s₄) (notedBy (model prog w) A env fun e s' => R (.error e) s') s₃
            else ∃ m, m < n ∧ I m s₃) (notedBy (model prog w) A env fun e s' => R (.error e) s') s₂) (notedBy (model prog w) A env fun e s' => R (.error e) s') s₁') (notedBy (model prog w) A env fun e s' => R (.error e) s') s₁) (notedBy (model prog w) A env fun e s' => R (.error e) s') s)
    (n : Nat) (h : I n s) :
    codeAny (model prog w) A (.compLoop (.ListComp elt [⟨target, iter, ifs, 0⟩] scope pos) 0 it acc env) R s := by
  refine codeAny_loop rfl I (fun n s hI => ?_) n h
  show wpAny _ A ((compTurn (.ListComp elt [⟨target, iter, ifs, 0⟩] scope pos) 0 it acc env).onRaise (fun x => do noteFrame x env; theTreesLotGoes x)) _ _ s
  refine wpAny_noted ?_
  rw [compTurn_list]
  refine wpAny_bind (wpAny_standAt (wpAny_bind (wpAny_mono (turn n s hI) (fun r s₁ h₁ => ?_) fun _ _ h' => h')))
  cases r with
  | none => exact wpAny_pure h₁
  | some v =>
    refine wpAny_bind (wpAny_mono h₁ (fun _ s₁' h₁' => ?_) fun _ _ h' => h')
    refine wpAny_bind (wpAny_mono h₁' (fun _ s₂ h₂ => wpAny_bind (wpAny_mono h₂ (fun ok s₃ h₃ => ?_) fun _ _ h' => h')) fun _ _ h' => h')
    cases ok with
    | false => exact wpAny_pure ⟨rfl, h₃⟩
    | true =>
      exact wpAny_bind (wpAny_bind (wpAny_mono h₃ (fun x s₄ h₄ => wpAny_bind (wpAny_mono h₄ (fun _ s₅ h₅ => wpAny_pure (wpAny_pure ⟨rfl, h₅⟩)) fun _ _ h' => h')) fun _ _ h' => h'))
section
variable {X : Cx}
def tLc (wi : TI) (g : TG) (tt : TT) (te : TE) (vs : List Nat) : TE := fun σ H Q => wi σ H fun J H1 => ∀ D, H1 D = none → ∃ W : Nat → Nat → Hp → Prop, (∃ m, W 0 m (upd H1 D (.lst []))) ∧ ∀ i m H, W i m H →
  (J.stop i H ∧ Q (.ref D) H) ∨ (J.go i H ∧ ∃ Nx : Hp → Prop, (∀ H', Nx H' → ∃ m', m' < m ∧ W (i + 1) m' H') ∧ ∀ x H', J.yld i H x H' → g x (wipe σ vs) H' fun σ2 H2 => wipe σ2 vs = wipe σ vs ∧ tt σ2 H2 fun b H3 =>
    if b = true then te σ2 H3 fun y H4 => ∃ acc, H4 D = some (.lst acc) ∧ acc.length < sizeLine ∧ Nx (upd H4 D (.lst (acc ++ [y]))) else Nx H3)
theorem lc_core {pins : List (Addr × Obj)} {s : Shared} {σ : St} {H : Hp} {Q : VK} {elt tg iter : Expr} {ifs : List Expr} {scope : Scope} {own : List (Str × Nat)} {pos pos' : Pos} {wi : TI} {g : TG} {tt : TT} {te : TE} {use : Option (Value → Sem Unit)} {Qf : Value → Shared → Prop}
    (hc : X.calm = true) (hN : X.N.Nodup) (I : Inv X pins σ H s) (hi : PI X tg iter wi) (ok : BlkOk X.N X.env.scope scope own)
    (hg : ∀ (s : Shared) (H : Hp) (C : Addr) (cl : List (Str × Addr)) (fp : List Addr), PG (X.blk s H scope (compEnvC scope cl C X.env) fp) tg g) (ht : ∀ (s : Shared) (H : Hp) (C : Addr) (cl : List (Str × Addr)) (fp : List Addr), PTs (X.blk s H scope (compEnvC scope cl C X.env) fp) ifs tt)
    (he : ∀ (s : Shared) (H : Hp) (C : Addr) (cl : List (Str × Addr)) (fp : List Addr), PE (X.blk s H scope (compEnvC scope cl C X.env) fp) elt te) (hs : ∀ x, foldedSetIterable iter X.env x = pure x)
    (h : tLc wi g tt te (own.map (·.2)) σ H Q)
    (hRR : ∀ D C s' m H', Inv X pins σ H' s' → Q (.ref D) H' → s'.heap.Ns C m → FpOk X pins H' C → compPost (model X.prog X.w) X.A X.xe use Qf (.ref D) C (.ok .next) s') :
    wpAny (model X.prog X.w) X.A (comprehension (.ListComp elt [⟨tg, iter, ifs, 0⟩] scope pos) scope X.env pos' (newList []) false (eval iter X.env) use) Qf X.xe s := by
  have hfree : ∀ y ∈ scope.names, y.2 = .free → ∃ c, X.env.cells.lookup y.1 = some c := fun y hy e => by
    rcases ok.free y hy e with k | k
    · exact I.ok.has _ (.inl k)
    · exact I.ok.has _ (.inr k)
  refine wpAny_comprehension_free (use := use) rfl hs (closure_ok hfree) ok.kind (fun y hy e => by rw [ok.uniq y hy, e])
    (thn (hi pins s σ H _ I h) fun xv s1 hx => thn hx fun itv s2 h2 => ?_)
  obtain ⟨it, fp, tn, J, H2, e, I2, T, st2, f2, q⟩ := h2
  subst e
  refine wpAny_newObj_type (newEnv_comp ?_) (by show 0 ≤ sizeLine; decide)
  generalize hD : s2.heap.objs.size = D
  have hDn : H2 D = none := I2.hok.fresh (Nat.le_of_eq hD)
  obtain ⟨W, ⟨m0, w0⟩, turn⟩ := q D hDn
  -- the new list
  generalize hs3 : ({ s2 with heap := s2.heap.push { cls := .type "list", data := .seq ([] : List Value).toArray } } : Shared) = s3
  have I3 : Inv X pins σ (upd H2 D (.lst [])) s3 := by
    rw [← hs3]
    refine I2.laid (t' := s2.toks) (fun b o e => Heap.get?_push_of_some _ e) (Nat.le_of_eq hD) ⟨Nat.zero_le _, [], 0, .nil, ?_⟩
    rw [← hD]
    exact Heap.get?_push_size _ rfl
  have h3 : s3.heap = s2.heap.push { cls := .type "list", data := .seq ([] : List Value).toArray } := by rw [← hs3]
  have sz : ∀ b ∈ fp, b < s2.heap.objs.size := fun b hb => by
    obtain ⟨o, e, _⟩ := T.obj _ _ st2 b hb
    exact Heap.lt_size e
  have f3 : ∀ b ∈ fp, FpOk X pins (upd H2 D (.lst [])) b ∧ b < s3.heap.objs.size := fun b hb => by
    have hlt := sz b hb
    refine ⟨⟨?_, (f2 b hb).2⟩, by rw [h3, Heap.size_push]; exact Nat.lt_succ_of_lt hlt⟩
    rw [upd_ne (by rw [← hD]; exact Nat.ne_of_lt hlt)]
    exact (f2 b hb).1
  have st3 : tn 0 s3.heap := T.keep _ _ _ st2 fun b _ o e => by rw [h3]; exact Heap.get?_push_of_some _ e
  have I4 := block_start I3 ok hN f3
  have pg := hg s3 (upd H2 D (.lst [])) s3.heap.objs.size (cellsFrom (s3.heap.objs.size + 1) scope.names (cloFrom X.env.cells scope.names [])) fp
  have pt := ht s3 (upd H2 D (.lst [])) s3.heap.objs.size (cellsFrom (s3.heap.objs.size + 1) scope.names (cloFrom X.env.cells scope.names [])) fp
  have pe := he s3 (upd H2 D (.lst [])) s3.heap.objs.size (cellsFrom (s3.heap.objs.size + 1) scope.names (cloFrom X.env.cells scope.names [])) fp
  show codeAny _ _ (.compStart (.ListComp elt [⟨tg, iter, ifs, 0⟩] scope pos) 0 (.ref it) (.ref D) (compEnvC scope (cellsFrom (s3.heap.objs.size + 1) scope.names (cloFrom X.env.cells scope.names [])) s3.heap.objs.size X.env)) (compPost (model X.prog X.w) X.A X.xe use Qf (.ref D) s3.heap.objs.size) { s3 with heap := pushCells (s3.heap.push { cls := .type "dict", data := .dict #[] }) scope.names }
  have nfp : ∀ b ∈ fp, (upd H2 D (.lst [])) b = none := fun b hb => (f3 b hb).1.1
  generalize hce : compEnvC scope (cellsFrom (s3.heap.objs.size + 1) scope.names (cloFrom X.env.cells scope.names [])) s3.heap.objs.size X.env = ce at I4 pg pt pe ⊢
  have cL : ce.locals = s3.heap.objs.size := by subst hce; rfl
  generalize hH3 : upd H2 D (.lst []) = H3 at I3 I4 pg pt pe w0 nfp f3
  generalize hs4 : ({ s3 with heap := pushCells (s3.heap.push { cls := .type "dict", data := .dict #[] }) scope.names } : Shared) = s4 at I4 ⊢
  have st4 : tn 0 s4.heap := T.keep _ _ _ st3 fun b _ o e => by rw [← hs4]; exact pushCells_keeps _ _ _ _ (Heap.get?_push_of_some _ e)
  have stat : ∀ {σ' : St} {H' : Hp} {s' : Shared}, Inv (X.blk s3 H3 scope ce fp) [] σ' H' s' → (∀ b ∈ fp, H' b = none) → ∀ b ∈ fp, FpOk (X.blk s3 H3 scope ce fp) [] H' b := fun {σ' H' s'} I' hn b hb =>
    ⟨hn b hb, (I'.ok.exf b hb).1, I'.ok.exfs b hb, .inl hb, fun x c e => (I'.ok.exf b hb).2 x c e, fun p hp => absurd (show p ∈ ([] : List (Addr × Obj)) ++ [] from hp) (by simp)⟩
  have loop : codeAny (model X.prog X.w) X.A (.compLoop (.ListComp elt [⟨tg, iter, ifs, 0⟩] scope pos) 0 (.ref it) (.ref D) ce) (compPost (model X.prog X.w) X.A X.xe use Qf (.ref D) s3.heap.objs.size) s4 := by
    refine compLoop_any (fun n s' => ∃ i H', Inv (X.blk s3 H3 scope ce fp) [] (wipe σ (own.map (·.2))) H' s' ∧ tn i s'.heap ∧ (∀ b ∈ fp, H' b = none) ∧ W i n H') ?_ m0 ⟨0, H3, I4, st4, nfp, w0⟩
    rintro n s5 ⟨i, H5, I5, st5, n5, w5⟩
    rcases turn i n H5 w5 with ⟨stop, qq⟩ | ⟨go, Nx, hNx, step⟩
    · have td := T.done (X.blk s3 H3 scope ce fp) rfl rfl rfl hc i [] s5 _ H5 (fun _ _ => False) I5 (stat I5 n5) st5 stop
      refine thnF td fun r s6 ⟨hr, I6⟩ => ?_
      subst hr
      -- back in the def's context
      have I7 : Inv X pins σ H5 s6 := I3.call' (ch := fp) I6.os I6.base I6.hok I6.bare fun b hb => ⟨(f3 b hb).1.2.2.2.1, (f3 b hb).1.2.1, (f3 b hb).1.2.2.2.2.1, (f3 b hb).1.2.2.2.2.2⟩
      have nC : H5 s3.heap.objs.size = none := by
        have z : H5 ce.locals = none := I6.free
        rw [cL] at z
        exact z
      obtain ⟨m, hn, _⟩ := I6.loc
      have hn : s6.heap.Ns ce.locals m := hn
      rw [cL] at hn
      exact hRR D s3.heap.objs.size s6 m H5 I7 qq hn (I3.fpOk (Nat.le_refl _) nC)
    · have ti := T.item (X.blk s3 H3 scope ce fp) rfl rfl rfl hc i [] s5 _ H5 (fun _ _ => False) I5 (stat I5 n5) st5 go
      refine thnF ti fun r s6 ⟨u, hr, h6⟩ => ?_
      subst hr
      refine thnF h6 fun _ s7 ⟨x, H7, I7, r7, y7, st7, n7⟩ => ?_
      have I7' := I7.pinned (stat I7 n7) (T.obj _ _ st7)
      refine thnF (pg _ s7 _ H7 x u _ I7' r7 (step x H7 y7)) fun _ s8 ⟨σ8, H8, I8, hw8, q8⟩ => ?_
      refine thnF (pt _ s8 σ8 H8 _ I8 q8) fun b s9 ⟨H9, I9, q9⟩ => ?_
      -- the turn's end
      have fin : ∀ {s' : Shared} {H' : Hp}, Inv (X.blk s3 H3 scope ce fp) ([] ++ pinsAt fp s7.heap) σ8 H' s' → Nx H' → ∃ m, m < n ∧ ∃ i H', Inv (X.blk s3 H3 scope ce fp) [] (wipe σ (own.map (·.2))) H' s' ∧ tn i s'.heap ∧ (∀ b ∈ fp, H' b = none) ∧ W i m H' := fun {s' H'} I' nx => by
        obtain ⟨m', hm, w'⟩ := hNx H' nx
        have pin' : ∀ b ∈ fp, ∀ o, s7.heap.get? b = some o → s'.heap.get? b = some o ∧ H' b = none := fun b hb o e =>
          let z := I'.pin (b, o) (List.mem_append_right _ (List.mem_append_right _ (mem_pinsAt hb e)))
          ⟨z.1, z.2.1⟩
        have hl : (wipe σ (own.map (·.2))).length = σ8.length := by rw [← hw8, wipe_length]
        refine ⟨m', hm, i + 1, H', (I'.unpinned (pins := [])).weak hl (fun j v e => ?_), T.keep _ _ _ st7 fun b hb o e => (pin' b hb o e).1, fun b hb => ?_, w'⟩
        · rw [← hw8] at e
          exact (wipe_some e).1
        · obtain ⟨o, e, _⟩ := T.obj _ _ st7 b hb
          exact (pin' b hb o e).2
      cases b with
      | false =>
        simp only [Bool.false_eq_true, if_false] at q9 ⊢
        exact fin I9 q9
      | true =>
        simp only [if_true] at q9 ⊢
        refine thnF (pe _ s9 σ8 H9 _ I9 q9) fun z s10 ⟨yv, H10, I10, r10, acc, hD10, hz10, nx⟩ => ?_
        exact app_ok (X := X.blk s3 H3 scope ce fp) I10 hD10 hz10 r10 fun s11 I11 => fin I11 nx
  exact codeAny_compStart_list loop (T.self X.A 0 _ _ _ st4 loop)
theorem pe_lc {elt tg iter : Expr} {ifs : List Expr} {scope : Scope} {own : List (Str × Nat)} {pos : Pos} {wi : TI} {g : TG} {tt : TT} {te : TE} (hc : X.calm = true) (hN : X.N.Nodup) (hi : PI X tg iter wi) (ok : BlkOk X.N X.env.scope scope own)
    (hg : ∀ (s : Shared) (H : Hp) (C : Addr) (cl : List (Str × Addr)) (fp : List Addr), PG (X.blk s H scope (compEnvC scope cl C X.env) fp) tg g) (ht : ∀ (s : Shared) (H : Hp) (C : Addr) (cl : List (Str × Addr)) (fp : List Addr), PTs (X.blk s H scope (compEnvC scope cl C X.env) fp) ifs tt)
    (he : ∀ (s : Shared) (H : Hp) (C : Addr) (cl : List (Str × Addr)) (fp : List Addr), PE (X.blk s H scope (compEnvC scope cl C X.env) fp) elt te) (hs : ∀ x, foldedSetIterable iter X.env x = pure x := by intro _; rfl) :
    PE X (.ListComp elt [⟨tg, iter, ifs, 0⟩] scope pos) (tLc wi g tt te (own.map (·.2))) := by
  intro pins s σ H Q I h
  rw [eval_ListComp]
  refine lc_core hc hN I hi ok hg ht he hs h fun D C s' m H' I' q hn f => ⟨m, hn, fun h'' sb => ?_⟩
  obtain ⟨f0, f1, f2, f3, f4, f5⟩ := f
  exact ⟨.ref D, H', I'.turned (t' := s'.toks) (fun b o hb e => (sb.2 b hb).trans e) f0 f1 f3 f4 f5, rfl, q⟩
theorem ps_setLc {i : Nat} {y : Str} {py : Pos} {elt tg iter : Expr} {ifs : List Expr} {scope : Scope} {own : List (Str × Nat)} {pos spos : Pos} {wi : TI} {g : TG} {tt : TT} {te : TE} (hc : X.calm = true) (hN : X.N.Nodup) (hy : X.N[i]? = some y) (hyl : X.env.scope.names.lookup y = some .local)
    (hsw : swapsWith (.ListComp elt [⟨tg, iter, ifs, 0⟩] scope pos) (some (.Name y py)) spos.line X.env = pure true) (hi : PI X tg iter wi) (ok : BlkOk X.N X.env.scope scope own)
    (hg : ∀ (s : Shared) (H : Hp) (C : Addr) (cl : List (Str × Addr)) (fp : List Addr), PG (X.blk s H scope (compEnvC scope cl C X.env) fp) tg g) (ht : ∀ (s : Shared) (H : Hp) (C : Addr) (cl : List (Str × Addr)) (fp : List Addr), PTs (X.blk s H scope (compEnvC scope cl C X.env) fp) ifs tt)
    (he : ∀ (s : Shared) (H : Hp) (C : Addr) (cl : List (Str × Addr)) (fp : List Addr), PE (X.blk s H scope (compEnvC scope cl C X.env) fp) elt te) (hs : ∀ x, foldedSetIterable iter X.env x = pure x := by intro _; rfl) :
    PS X (.Assign [.Name y py] (.ListComp elt [⟨tg, iter, ifs, 0⟩] scope pos) spos) (tAsg (tLc wi g tt te (own.map (·.2))) (gName i)) := by
  intro pins s σ H D I h
  rw [exec_Assign_Name_used _ _ _ _ hsw]
  refine wpAny_bind (wpAny_standAt (wpAny_bind ?_))
  show wpAny _ X.A (do let _ ← comprehension (.ListComp elt [⟨tg, iter, ifs, 0⟩] scope pos) scope X.env (firstIterPos [⟨tg, iter, ifs, 0⟩] pos) (newList []) false (eval iter X.env) (some (assign (.Name y py) X.env))) _ _ s
  have h : tLc wi g tt te (own.map (·.2)) σ H (fun x H1 => gName i x σ H1 D.nx) := h
  refine wpAny_bind (thn (lc_core (Qf := fun _ s' => SP X pins D .next s') hc hN I hi ok hg ht he hs h fun L C s' m H' I' q hn f => ?_) fun _ s' hq => wpAny_pure (wpAny_pure hq))
  show wpAny _ _ (assign (.Name y py) X.env (.ref L)) _ _ _
  refine wpAny_assign_Name (store_ok2 (v := V.ref L) I' hN hy (.inl hyl) rfl (fun s2 I2 ⟨a, sb, ha⟩ => ?_) (.inr hyl))
  obtain ⟨f0, f1, f2, f3, f4, f5⟩ := f
  have haC : C ≠ a := by
    rcases ha with z | z
    · rw [z]; exact f1
    · exact fun e => f4 y a z e.symm
  refine ⟨m, hn.sameBut sb haC, fun h3 sb3 => ?_⟩
  exact ⟨_, H', I2.turned (t' := s2.toks) (fun b o hb e => (sb3.2 b hb).trans e) f0 f1 f3 f4 f5, q⟩
theorem sw_true {elt : Expr} {gs : List Comprehension} {scope : Scope} {pos py : Pos} {y : Str} {l : Nat} {env : Env} (hk : env.scope.kind = .function) (hy : env.scope.names.lookup y = some .local) (hl : (py.line == pos.line) = true)
    (ha : (scope.names.any fun (n, k) => n == y && (k == .local || k == .cell)) = false) : swapsWith (.ListComp elt gs scope pos) (some (.Name y py)) l env = pure true := by
  have ky : env.kindOf y = some .local := hy
  have hb : env.blockKind = .function := by unfold Env.blockKind; rw [hk]; rfl
  unfold swapsWith
  simp only [hb, ky, ha, Expr.pos, hl]
  rfl
end
theorem lc_range {lo : Int} {n : Nat} {g : TG} {tt : TT} {te : TE} {vs : List Nat} {σ : St} {H1 : Hp} {D : Addr} {Qd : Hp → Prop} (Pv : Nat → Hp → Prop) (h0 : Pv 0 (upd H1 D (.lst [])))
    (hs : ∀ i H, i < n → Pv i H → g (.int (lo + i)) (wipe σ vs) H fun σ2 H2 => wipe σ2 vs = wipe σ vs ∧ tt σ2 H2 fun b H3 =>
      if b = true then te σ2 H3 fun y H4 => ∃ acc, H4 D = some (.lst acc) ∧ acc.length < sizeLine ∧ Pv (i + 1) (upd H4 D (.lst (acc ++ [y]))) else Pv (i + 1) H3) (hd : ∀ H, Pv n H → Qd H) :
    ∃ W : Nat → Nat → Hp → Prop, (∃ m, W 0 m (upd H1 D (.lst []))) ∧ ∀ i m H, W i m H →
      ((Itr lo n).stop i H ∧ Qd H) ∨ ((Itr lo n).go i H ∧ ∃ Nx : Hp → Prop, (∀ H', Nx H' → ∃ m', m' < m ∧ W (i + 1) m' H') ∧ ∀ x H', (Itr lo n).yld i H x H' → g x (wipe σ vs) H' fun σ2 H2 => wipe σ2 vs = wipe σ vs ∧ tt σ2 H2 fun b H3 =>
        if b = true then te σ2 H3 fun y H4 => ∃ acc, H4 D = some (.lst acc) ∧ acc.length < sizeLine ∧ Nx (upd H4 D (.lst (acc ++ [y]))) else Nx H3) := by
  refine ⟨fun i m H => m = n - i ∧ i ≤ n ∧ Pv i H, ⟨n, by simp, Nat.zero_le _, h0⟩, ?_⟩
  rintro i m H ⟨rfl, hi, p⟩
  by_cases hlt : i < n
  · refine .inr ⟨hlt, Pv (i + 1), fun H' p' => ⟨n - (i + 1), by omega, rfl, hlt, p'⟩, fun x H' y => ?_⟩
    obtain ⟨e, y⟩ := y
    subst e y
    exact hs i _ hlt p
  · have e : i = n := by omega
    subst e
    exact .inl ⟨Nat.le_refl _, hd H p⟩
theorem lc_list {K : PySem.W.Frag} {a : Addr} {xs : List V} {g : TG} {tt : TT} {te : TE} {vs : List Nat} {σ : St} {H1 : Hp} {D : Addr} {Qd : Hp → Prop} (Pv : Nat → Hp → Prop) (h0 : Pv 0 (upd H1 D (.lst []))) (hl : ∀ i H, i ≤ xs.length → Pv i H → SqL K H a xs)
    (hs : ∀ i x H, xs[i]? = some x → Pv i H → g x (wipe σ vs) H fun σ2 H2 => wipe σ2 vs = wipe σ vs ∧ tt σ2 H2 fun b H3 =>
      if b = true then te σ2 H3 fun y H4 => ∃ acc, H4 D = some (.lst acc) ∧ acc.length < sizeLine ∧ Pv (i + 1) (upd H4 D (.lst (acc ++ [y]))) else Pv (i + 1) H3) (hd : ∀ H, Pv xs.length H → Qd H) :
    ∃ W : Nat → Nat → Hp → Prop, (∃ m, W 0 m (upd H1 D (.lst []))) ∧ ∀ i m H, W i m H →
      ((Itl K a).stop i H ∧ Qd H) ∨ ((Itl K a).go i H ∧ ∃ Nx : Hp → Prop, (∀ H', Nx H' → ∃ m', m' < m ∧ W (i + 1) m' H') ∧ ∀ x H', (Itl K a).yld i H x H' → g x (wipe σ vs) H' fun σ2 H2 => wipe σ2 vs = wipe σ vs ∧ tt σ2 H2 fun b H3 =>
        if b = true then te σ2 H3 fun y H4 => ∃ acc, H4 D = some (.lst acc) ∧ acc.length < sizeLine ∧ Nx (upd H4 D (.lst (acc ++ [y]))) else Nx H3) := by
  refine ⟨fun i m H => m = xs.length - i ∧ i ≤ xs.length ∧ Pv i H, ⟨xs.length, by simp, Nat.zero_le _, h0⟩, ?_⟩
  rintro i m H ⟨rfl, hi, p⟩
  have q := hl i H hi p
  by_cases hlt : i < xs.length
  · refine .inr ⟨⟨xs, xs[i], q, by simp [hlt]⟩, Pv (i + 1), fun H' p' => ⟨xs.length - (i + 1), by omega, rfl, hlt, p'⟩, fun x H' y => ?_⟩
    obtain ⟨e, y⟩ := y
    subst e
    exact hs i x _ (y xs q) p
  · have e : i = xs.length := by omega
    subst e
    exact .inl ⟨⟨xs, q, Nat.le_refl _⟩, hd H p⟩
def blkC (N : List Str) (sc scope : Scope) (own : List (Str × Nat)) : Bool :=
  (match scope.kind with | .function => true | _ => false) && (scope.names.all fun y => decide (scope.names.lookup y.1 = some y.2)) && (own.all fun p => decide (N[p.2]? = some p.1)) &&
    (scope.names.all fun y => match y.2 with
      | .free => (match sc.names.lookup y.1 with | some .cell => true | some .free => true | _ => false)
      | .local => decide (y.1 ∈ own.map (·.1)) || decide (y.1 ∉ N)
      | .cell => decide (y.1 ∈ own.map (·.1)) || decide (y.1 ∉ N)
      | _ => true)
theorem blkOk_by {N : List Str} {sc scope : Scope} {own : List (Str × Nat)} (h : blkC N sc scope own = true) : BlkOk N sc scope own := by
  unfold blkC at h
  simp only [Bool.and_eq_true, List.all_eq_true, decide_eq_true_eq] at h
  obtain ⟨⟨⟨h1, h2⟩, h3⟩, h4⟩ := h
  refine ⟨?_, h2, h3, fun y hy e => ?_, fun y hy e => ?_⟩
  · split at h1
    · assumption
    · cases h1
  · have q := h4 y hy
    simp only [e] at q
    split at q <;> first | exact .inl (by assumption) | exact .inr (by assumption) | cases q
  · have q := h4 y hy
    rcases e with e | e <;> (simp only [e, Bool.or_eq_true, decide_eq_true_eq] at q; exact q)
end L2
namespace L2
open PySem PySem.Spec PyProof.Rows
section
variable {prog : Program} {w : World} {A : Around} {R : Result → Shared → Prop} {s : Shared} {elt t0 i0 t1 i1 : Expr} {ifs0 ifs1 : List Expr} {scope : Scope} {pos : Pos} {it acc : Value} {env : Env}
end
section
variable {X : Cx}
def tLc2 (wi : TI) (g : TG) (tt : TT) (wi1 : TI) (g1 : TG) (tt1 : TT) (te : TE) (vs vs1 : List Nat) : TE := fun σ H Q => wi σ H fun J H1 => ∀ D, H1 D = none → ∃ W : Nat → Nat → Hp → Prop, (∃ m, W 0 m (upd H1 D (.lst []))) ∧ ∀ i m H, W i m H →
  (J.stop i H ∧ Q (.ref D) H) ∨ (J.go i H ∧ ∃ Nx : Hp → Prop, (∀ H', Nx H' → ∃ m', m' < m ∧ W (i + 1) m' H') ∧ ∀ x H', J.yld i H x H' → g x (wipe σ vs) H' fun σ2 H2 => wipe σ2 vs = wipe σ vs ∧ tt σ2 H2 fun b H3 =>
    if b = true then wi1 σ2 H3 fun J1 H4 => ∃ W1 : Nat → Nat → Hp → Prop, (∃ m, W1 0 m H4) ∧ ∀ j k H, W1 j k H →
      (J1.stop j H ∧ Nx H) ∨ (J1.go j H ∧ ∃ Nx1 : Hp → Prop, (∀ H', Nx1 H' → ∃ k', k' < k ∧ W1 (j + 1) k' H') ∧ ∀ x H', J1.yld j H x H' → g1 x (wipe σ2 vs1) H' fun σ3 H5 => wipe σ3 vs1 = wipe σ2 vs1 ∧ tt1 σ3 H5 fun b H6 =>
        if b = true then te σ3 H6 fun y H7 => ∃ acc, H7 D = some (.lst acc) ∧ acc.length < sizeLine ∧ Nx1 (upd H7 D (.lst (acc ++ [y]))) else Nx1 H6)
    else Nx H3)
end
end L2
namespace L2
open PySem PySem.Spec PyProof.Rows
section
variable {κ : Type} [DecidableEq κ]
def valV (kvs : List (κ × V)) (k : κ) : Option V := (kvs.find? fun kv => decide (kv.1 = k)).map (·.2)
def putK (kvs : List (κ × V)) (k : κ) (v : V) : List (κ × V) :=
  if (kvs.any fun kv => decide (kv.1 = k)) = true then kvs.map (fun kv => if kv.1 = k then (kv.1, v) else kv) else kvs ++ [(k, v)]
def dropK (kvs : List (κ × V)) (k : κ) : List (κ × V) := kvs.filter fun kv => decide (kv.1 ≠ k)
theorem valV_pos {p : κ × V} {r : List (κ × V)} {k : κ} (e : p.1 = k) : valV (p :: r) k = some p.2 := by simp [valV, List.find?_cons, e]
theorem valV_neg {p : κ × V} {r : List (κ × V)} {k : κ} (e : ¬ p.1 = k) : valV (p :: r) k = valV r k := by simp [valV, List.find?_cons, e]
theorem valV_any (k : κ) : ∀ kvs : List (κ × V), (kvs.any fun kv => decide (kv.1 = k)) = (valV kvs k).isSome
  | [] => rfl
  | p :: r => by
    rw [List.any_cons]
    by_cases e : p.1 = k
    · simp only [valV_pos e, decide_eq_true e, Bool.true_or, Option.isSome_some]
    · rw [valV_neg e, decide_eq_false e, Bool.false_or]; exact valV_any k r
theorem length_putK (kvs : List (κ × V)) (k : κ) (v : V) : (putK kvs k v).length ≤ kvs.length + 1 := by
  unfold putK
  split
  · rw [List.length_map]; omega
  · rw [List.length_append, List.length_cons, List.length_nil]; omega
theorem RelO.isSome_eq {o : Option V} {u : Option Value} (r : RelO o u) : o.isSome = u.isSome := by
  cases o with
  | none => cases u with
    | none => rfl
    | some _ => exact (show False from r).elim
  | some _ => cases u with
    | none => exact (show False from r).elim
    | some _ => rfl
theorem KV.any {kvs : List (κ × V)} {vs : List (κ × Value)} (r : KV kvs vs) (k : κ) : (kvs.any fun kv => decide (kv.1 = k)) = vs.any fun kv => decide (kv.1 = k) := by
  unfold KV at r
  induction r with
  | nil => rfl
  | cons h t ih => rw [List.any_cons, List.any_cons, ih, h.1]
theorem KV.repl {kvs : List (κ × V)} {vs : List (κ × Value)} (r : KV kvs vs) (k : κ) {y : V} {u : Value} (ry : RelV y u) :
    KV (kvs.map fun kv => if kv.1 = k then (kv.1, y) else kv) (vs.map fun kv => if kv.1 = k then (kv.1, u) else kv) := by
  unfold KV at r ⊢
  induction r with
  | nil => exact .nil
  | @cons p q ps qs h t ih =>
    rw [List.map_cons, List.map_cons]
    refine .cons ?_ ih
    obtain ⟨h1, h2⟩ := h
    by_cases e : p.1 = k
    · rw [if_pos e, if_pos (h1.symm.trans e)]; exact ⟨h1, ry⟩
    · rw [if_neg e, if_neg (fun z => e (h1.trans z))]; exact ⟨h1, h2⟩
theorem KV.put {kvs : List (κ × V)} {vs : List (κ × Value)} (r : KV kvs vs) (k : κ) {y : V} {u : Value} (ry : RelV y u) : KV (putK kvs k y) (stored vs k u) := by
  unfold putK stored
  rw [r.any k]
  by_cases e : (vs.any fun kv => decide (kv.1 = k)) = true
  · rw [if_pos e, if_pos e]; exact r.repl k ry
  · rw [if_neg e, if_neg e]; exact Paired.snoc r ⟨rfl, ry⟩
theorem KV.keys {kvs : List (κ × V)} {vs : List (κ × Value)} (r : KV kvs vs) : kvs.map (·.1) = vs.map (·.1) := by
  unfold KV at r
  induction r with
  | nil => rfl
  | cons h t ih => rw [List.map_cons, List.map_cons, ih, h.1]
theorem KV.length {kvs : List (κ × V)} {vs : List (κ × Value)} (r : KV kvs vs) : kvs.length = vs.length := Paired.length r
end
theorem kV_is {P : Program} {w : World} {k : Key} {u : Value} (r : RelV (kV k) u) : (mixKind P w).is k u = true := by
  cases k with
  | inl i => obtain ⟨t, e⟩ := (show ∃ t, u = Value.int i t from r); subst e; exact mixKind_int P w i t
  | inr x => obtain ⟨t, e⟩ := (show ∃ t, u = Value.str x t from r); subst e; exact mixKind_str P w x t
theorem items_are {P : Program} {w : World} : ∀ {ks : List Key} {us : List Value}, Vals (ks.map kV) us → ItemsAre (mixKind P w) ks us
  | [], _, r => by rw [List.map_nil] at r; cases r; exact .nil
  | k :: ks, _, r => by
    rw [List.map_cons] at r
    cases r with
    | cons h t => exact .cons (kV_is h) (items_are t)
abbrev KT (H : Hp) : List (List Key × V) → List (List Key × Addr × Value) → Prop := Paired fun p q => p.1 = q.1 ∧ H q.2.1 = some (.tup (p.1.map kV)) ∧ RelV p.2 q.2.2
theorem KT.val {H : Hp} {kvs : List (List Key × V)} {xs : List (List Key × Addr × Value)} (r : KT H kvs xs) (k : List Key) : RelO (valV kvs k) ((atKey xs k).map (·.2)) := by
  induction r with
  | nil => exact True.intro
  | @cons p q ps qs h t ih =>
    obtain ⟨h1, _, h2⟩ := h
    by_cases e : p.1 = k
    · have e' : q.1 = k := h1.symm.trans e
      have b : atKey (q :: qs) k = some q.2 := by simp [atKey, List.find?_cons, e']
      rw [valV_pos e, b]; exact h2
    · have e' : ¬ q.1 = k := fun z => e (h1.trans z)
      have b : atKey (q :: qs) k = atKey qs k := by simp [atKey, List.find?_cons, e']
      rw [valV_neg e, b]; exact ih
theorem KT.repl {H : Hp} {kvs : List (List Key × V)} {xs : List (List Key × Addr × Value)} (r : KT H kvs xs) (k : List Key) {y : V} {u : Value} (ry : RelV y u) :
    KT H (kvs.map fun kv => if kv.1 = k then (kv.1, y) else kv) (xs.map (putAt k u)) := by
  induction r with
  | nil => exact .nil
  | @cons p q ps qs h t ih =>
    rw [List.map_cons, List.map_cons]
    refine .cons ?_ ih
    obtain ⟨h1, h2, h3⟩ := h
    unfold putAt
    by_cases e : p.1 = k
    · rw [if_pos e, if_pos (h1.symm.trans e)]; exact ⟨h1, h2, ry⟩
    · rw [if_neg e, if_neg (fun z => e (h1.trans z))]; exact ⟨h1, h2, h3⟩
theorem KT.put {H : Hp} {kvs : List (List Key × V)} {xs : List (List Key × Addr × Value)} (r : KT H kvs xs) (k : List Key) {b : Addr} {y : V} {u : Value} (hb : H b = some (.tup (k.map kV))) (ry : RelV y u) :
    KT H (putK kvs k y) (storedH xs k b u) := by
  have e : (kvs.any fun kv => decide (kv.1 = k)) = (atKey xs k).isSome := by
    rw [valV_any, (r.val k).isSome_eq, Option.isSome_map]
  unfold putK storedH
  rw [e]
  by_cases q : (atKey xs k).isSome = true
  · rw [if_pos q, if_pos q]; exact r.repl k ry
  · rw [if_neg q, if_neg q]; exact Paired.snoc r ⟨rfl, hb, ry⟩
theorem KT.keeps {H H' : Hp} {kvs : List (List Key × V)} {xs : List (List Key × Addr × Value)} (r : KT H kvs xs) (ht : ∀ b ys, H b = some (.tup ys) → H' b = some (.tup ys)) : KT H' kvs xs :=
  Paired.mapP r fun _ _ z => ⟨z.1, ht _ _ z.2.1, z.2.2⟩
section
variable {P : Program} {w : World} {H : Hp} {h : Heap} {a : Addr}
theorem rd_of {u : HO} (ok : HOk P w H h) (e : Rd H a u) : ObjOk P w H h a u := e.ok ok
theorem dk_rd {kvs : List (Key × V)} (ok : HOk P w H h) (e : Rd H a (.dK kvs)) : kvs.length ≤ sizeLine ∧ (a == sysModules) = false ∧ ∃ vs, KV kvs vs ∧ h.DictOf (mixKind P w) a vs :=
  show ObjOk P w H h a (.dK kvs) from rd_of ok e
theorem dk_of {kvs : List (Key × V)} (ok : HOk P w H h) (e : H a = some (.dK kvs)) : kvs.length ≤ sizeLine ∧ (a == sysModules) = false ∧ ∃ vs, KV kvs vs ∧ h.DictOf (mixKind P w) a vs := dk_rd ok (.inl e)
theorem key_of {ks : List Key} (ok : HOk P w H h) (e : H a = some (.tup (ks.map kV))) : (tupleKind (mixKind P w)).is h ks a := by
  obtain ⟨_, its, r, o, h1, h2, n, h3⟩ := (show ObjOk P w H h a (.tup (ks.map kV)) from ok a _ e)
  exact ⟨o, its.toArray, n, h1, h2, h3, by simpa using items_are r⟩
theorem dt_rd {kvs : List (List Key × V)} (ok : HOk P w H h) (e : Rd H a (.dT kvs)) : kvs.length ≤ sizeLine ∧ (a == sysModules) = false ∧
    ∃ xs, KT H kvs xs ∧ h.DictOfH (tupleKind (mixKind P w)) a xs := by
  obtain ⟨z, y, xs, r, o, es, ep, h1, h2, h3, h4, h5⟩ := (show ObjOk P w H h a (.dT kvs) from rd_of ok e)
  refine ⟨z, y, xs, r, o, es, ep, h1, h2, h3, h4, fun x hx => ?_, h5⟩
  have all : ∀ {l : List (List Key × V)} {m : List (List Key × Addr × Value)}, KT H l m → ∀ x ∈ m, (tupleKind (mixKind P w)).is h x.1 x.2.1 := by
    intro l m q
    induction q with
    | nil => intro x hx; exact nomatch hx
    | @cons p q ps qs hq t ih =>
      intro x hx
      rcases List.mem_cons.mp hx with e | hx
      · subst e
        exact key_of ok (by rw [← hq.1]; exact hq.2.1)
      · exact ih x hx
  exact all r x hx
theorem dt_of {kvs : List (List Key × V)} (ok : HOk P w H h) (e : H a = some (.dT kvs)) : kvs.length ≤ sizeLine ∧ (a == sysModules) = false ∧
    ∃ xs, KT H kvs xs ∧ h.DictOfH (tupleKind (mixKind P w)) a xs := dt_rd ok (.inl e)
end
def DGet (H : Hp) (a : Addr) (y : V) (r : Option V) : Prop :=
  (∃ kvs k, Rd H a (.dK kvs) ∧ y = kV k ∧ r = valV kvs k) ∨ ∃ kvs k b, Rd H a (.dT kvs) ∧ y = .ref b ∧ H b = some (.tup (k.map kV)) ∧ r = valV kvs k
def DPut (H : Hp) (a : Addr) (y v : V) (H' : Hp) : Prop :=
  (∃ kvs k, H a = some (.dK kvs) ∧ y = kV k ∧ kvs.length < sizeLine ∧ H' = upd H a (.dK (putK kvs k v))) ∨
  ∃ kvs k b, H a = some (.dT kvs) ∧ y = .ref b ∧ H b = some (.tup (k.map kV)) ∧ kvs.length < sizeLine ∧ H' = upd H a (.dT (putK kvs k v))
section
variable {X : Cx} {pins : List (Addr × Obj)} {σ : St} {H : Hp} {s : Shared} {a : Addr} {y v : V} {u r : Value} {o : Option V} {A : Around} {E : Value → Shared → Prop}
theorem Inv.big (I : Inv X pins σ H s) : sysModules < s.heap.objs.size := by
  have h : mainGlobals < s.heap.objs.size := (I.mod.glob.keeps I.bk).lt
  exact Nat.lt_trans (by decide) h
theorem d_write {h' : Heap} {t' : Nat} {ob : HO} (I : Inv X pins σ H s) (mu : Mut (H a)) (hs : Heap.SameBut a s.heap h') (he : ∃ q, h'.get? a = some q) (new : ObjOk X.prog X.w (upd H a ob) h' a ob) :
    Inv X pins σ (upd H a ob) { s with heap := h', toks := t' } :=
  I.write (x := a) (e := a) mu (.inl rfl) (fun b q hb z => (hs.2 b hb).trans z) he new
theorem dk_new {P : Program} {w : World} {H' : Hp} {h' : Heap} {kvs : List (Key × V)} {vs : List (Key × Value)} (z : kvs.length ≤ sizeLine) (hd : (a == sysModules) = false) (rel : KV kvs vs) (dd : h'.DictOf (mixKind P w) a vs) :
    ObjOk P w H' h' a (.dK kvs) := ⟨z, hd, vs, rel, dd⟩
theorem d_setItem {H' : Hp} {Q : Unit → Shared → Prop} (hu : A.units + 1 < cLine) (I : Inv X pins σ H s) (g : DPut H a y v H') (ry : RelV y u) (rv : RelV v r) (h : ∀ s', Inv X pins σ H' s' → Q () s') :
    wpAny (model X.prog X.w) A (setItem (.ref a) u r) Q E s := by
  rcases g with ⟨kvs, k, e, ey, l, eH⟩ | ⟨kvs, k, b, e, ey, eb, l, eH⟩
  · subst ey eH
    obtain ⟨z, hd, vs, rel, dd⟩ := dk_of I.hok e
    have hz : vs.length ≤ sizeLine := by rw [← rel.length]; exact z
    have hl : (putK kvs k v).length ≤ sizeLine := by have := length_putK kvs k v; omega
    refine wpAny_setItem_pairs (hsz := hz) (kV_is ry) dd fun h' dd' hs => h _ ?_
    have he : ∃ q, h'.get? a = some q := let ⟨q, _, _, hq, _⟩ := dd'; ⟨q, hq⟩
    exact d_write I (by rw [e]; exact True.intro) hs he (dk_new hl hd (rel.put k rv) dd')
  · subst ey eH
    cases (show u = Value.ref b from ry)
    obtain ⟨z, hd, xs, rel, dd⟩ := dt_of I.hok e
    have hz : xs.length ≤ sizeLine := by rw [← Paired.length rel]; exact z
    have hl : (putK kvs k v).length ≤ sizeLine := by have := length_putK kvs k v; omega
    refine wpAny_setItem_heap (hsz := hz) (tupleKind_room_in1 hu) (key_of I.hok eb) dd fun h' dd' hs => h _ ?_
    obtain ⟨q, es, ep, hq, h2, h3, h4, _, h5⟩ := dd'
    refine d_write I (by rw [e]; exact True.intro) hs ⟨q, hq⟩ ⟨hl, hd, _, (rel.put k eb rv).keeps fun c ys ec => ?_, q, es, ep, hq, h2, h3, h4, h5⟩
    rw [upd_ne (ne_of ec e (fun z => nomatch z))]
    exact ec
end
section
variable {X : Cx} {pins : List (Addr × Obj)} {σ : St} {H : Hp} {s : Shared} {a : Addr} {kvs : List (Key × V)} {k : Key} {u : Value} {A : Around} {E : Value → Shared → Prop}
end
def NoSl (i : Expr) : Prop := ∀ ov iv, subscripted i false ov iv = operate [ov, iv] (getItem ov iv)
def tDGet (td ty : TE) : TE := fun σ H Q => td σ H fun x H1 => ty σ H1 fun y H2 => ∃ a v, x = .ref a ∧ DGet H2 a y (some v) ∧ Q v H2
def tDIn (ty td : TE) : TE := fun σ H Q => ty σ H fun y H1 => td σ H1 fun x H2 => ∃ a o, x = .ref a ∧ DGet H2 a y o ∧ Q (.bl o.isSome) H2
def tDNotIn (ty td : TE) : TE := fun σ H Q => ty σ H fun y H1 => td σ H1 fun x H2 => ∃ a o, x = .ref a ∧ DGet H2 a y o ∧ Q (.bl (!o.isSome)) H2
def sDPut (td ty tv : TE) : TS := fun D σ H => tv σ H fun v H1 => td σ H1 fun x H2 => ty σ H2 fun y H3 => ∃ a H4, x = .ref a ∧ DPut H3 a y v H4 ∧ D.nx σ H4
def sDAug (td ty tv : TE) (rd : V → V → Hp → VK → Prop) : TS := fun D σ H => td σ H fun x H1 => ty σ H1 fun y H2 => ∃ a v, x = .ref a ∧ DGet H2 a y (some v) ∧
  tv σ H2 fun y2 H3 => rd v y2 H3 fun z H4 => ∃ H5, DPut H4 a y z H5 ∧ D.nx σ H5
def sDDel (td ty : TE) : TS := fun D σ H => td σ H fun x H1 => ty σ H1 fun y H2 => ∃ a kvs k, x = .ref a ∧ H2 a = some (.dK kvs) ∧ y = kV k ∧ (valV kvs k).isSome = true ∧ D.nx σ (upd H2 a (.dK (dropK kvs k)))
section
variable {X : Cx} {o i e value : Expr} {pos pos' tpos : Pos} {td ty tv : TE}
theorem ps_dput (hu : X.A.units + 1 < cLine) (ho : PE X o td) (hi : PE X i ty) (hv : PE X value tv) (hs : swapsWith value (some (.Subscript o i pos')) pos.line X.env = pure false) :
    PS X (.Assign [.Subscript o i pos'] value pos) (sDPut td ty tv) := by
  intro pins s σ H D I h
  refine wpAny_Assign_Subscript (thn (hv pins s σ H _ I h) fun r s1 ⟨v, H1, I1, rv, q1⟩ => thn (ho pins s1 σ H1 _ I1 q1) fun u s2 ⟨x, H2, I2, rx, q2⟩ => thn (hi pins s2 σ H2 _ I2 q2) fun iv s3 ⟨y, H3, I3, ry, a, H4, ex, g, q3⟩ => ?_) hs
  subst ex
  obtain rfl : u = Value.ref a := rx
  exact d_setItem hu I3 g ry rv fun s4 I4 => ⟨σ, H4, I4, q3⟩
end
theorem dk_empty {P : Program} {w : World} {H : Hp} (h : Heap) (hb : sysModules < h.objs.size) : ObjOk P w H (h.push { cls := .type "dict", data := .dict #[] }) h.objs.size (.dK []) :=
  ⟨Nat.zero_le _, beq_eq_false_iff_ne.mpr (Ne.symm (Nat.ne_of_lt hb)), [], .nil, Heap.DictOf.new h⟩
def tDNewK : TE := fun _ H Q => ∀ p, H p = none → Q (.ref p) (upd H p (.dK []))
def tDNewT : TE := fun _ H Q => ∀ p, H p = none → Q (.ref p) (upd H p (.dT []))
section
variable {X : Cx} {pos : Pos}
theorem pe_dnewK : PE X (.Dict [] [] pos) tDNewK := fun pins s σ H Q I h =>
  wpAny_Dict_empty ⟨.ref s.heap.objs.size, _, I.laid (a := s.heap.objs.size) (o := .dK []) (t' := s.toks) (fun _ _ q => Heap.get?_push_of_some _ q) (Nat.le_refl _) (dk_empty s.heap I.big), rfl, h _ (I.hok.fresh (Nat.le_refl _))⟩
end
def tPairs : List (TE × TE) → St → Hp → (List (V × V) → Hp → Prop) → Prop
  | [], _, H, Q => Q [] H
  | (tk, tv) :: r, σ, H, Q => tk σ H fun x H1 => tv σ H1 fun y H2 => tPairs r σ H2 fun ps H3 => Q ((x, y) :: ps) H3
abbrev VV : List (V × V) → List (Value × Value) → Prop := Paired fun p q => RelV p.1 q.1 ∧ RelV p.2 q.2
def PPs (X : Cx) (pos : Pos) (keys : List (Option Expr)) (values : List Expr) (trs : List (TE × TE)) : Prop :=
  ∀ (pins : List (Addr × Obj)) (s : Shared) (σ : St) (H : Hp) (Q : List (V × V) → Hp → Prop), Inv X pins σ H s → tPairs trs σ H Q →
    wpAny (model X.prog X.w) X.A (evalPairs (pairTrees keys values X.env pos)) (fun vs s' => ∃ ps H', Inv X pins σ H' s' ∧ VV ps vs ∧ Q ps H') X.xe s
def mergeK (kvs more : List (Key × V)) : List (Key × V) := more.foldl (fun acc kv => putK acc kv.1 kv.2) kvs
def tDisp (trs : List (TE × TE)) : TE := fun σ H Q => ∀ p, H p = none → tPairs trs σ (upd H p (.dK [])) fun ps H2 => H2 p = some (.dK []) ∧ ∃ kvs : List (Key × V), ps = kvs.map (fun kv => (kV kv.1, kv.2)) ∧ kvs.length ≤ 15 ∧ Q (.ref p) (upd H2 p (.dK (mergeK [] kvs)))
structure M1 (X : Cx) (o : Expr) (m : Str) (apos : Pos) (e : Expr) (cpos : Pos) : Prop where
  base : attributeBase o m X.env (eval o X.env) = eval o X.env
  few : ((backTo cpos (starEach [e] X.env)).all (fun x => !x.1) && (backToKw cpos (keywordEach [] X.env)).all (fun x => x.1.isSome)
    && decide (([e] : List Expr).length + ([] : List Keyword).length + (if ([] : List Keyword).isEmpty then 0 else 1) < 30)) = true
  line : (apos.endLine == cpos.line) = true
  trees : backTo cpos (starEach [e] X.env) = [(false, eval e X.env)]
structure M2 (X : Cx) (o : Expr) (m : Str) (apos : Pos) (e f : Expr) (cpos : Pos) : Prop where
  base : attributeBase o m X.env (eval o X.env) = eval o X.env
  few : ((backTo cpos (starEach [e, f] X.env)).all (fun x => !x.1) && (backToKw cpos (keywordEach [] X.env)).all (fun x => x.1.isSome)
    && decide (([e, f] : List Expr).length + ([] : List Keyword).length + (if ([] : List Keyword).isEmpty then 0 else 1) < 30)) = true
  line : (apos.endLine == cpos.line) = true
  trees : backTo cpos (starEach [e, f] X.env) = [(false, eval e X.env), (false, eval f X.env)]
def IsD (H : Hp) (a : Addr) : Prop := (∃ kvs, Rd H a (.dK kvs)) ∨ ∃ kvs, Rd H a (.dT kvs)
section
variable {X : Cx} {pins : List (Addr × Obj)} {σ : St} {H : Hp} {s : Shared} {a : Addr} {y d : V} {u r : Value} {o : Option V} {A : Around} {E : Value → Shared → Prop}
end
def tDGet1 (td ty : TE) : TE := fun σ H Q => td σ H fun x H1 => ∃ a, x = .ref a ∧ IsD H1 a ∧ ty σ H1 fun y H2 => ∃ o, DGet H2 a y o ∧ Q (o.getD .non) H2
def tDGet2 (td ty tx : TE) : TE := fun σ H Q => td σ H fun x H1 => ∃ a, x = .ref a ∧ IsD H1 a ∧ ty σ H1 fun y H2 => tx σ H2 fun z H3 => ∃ o, DGet H3 a y o ∧ Q (o.getD z) H3
def tDPop1 (td ty : TE) : TE := fun σ H Q => td σ H fun x H1 => ∃ a, x = .ref a ∧ IsD H1 a ∧ ty σ H1 fun y H2 => ∃ kvs k v, H2 a = some (.dK kvs) ∧ y = kV k ∧ valV kvs k = some v ∧ Q v (upd H2 a (.dK (dropK kvs k)))
def tDPop2 (td ty tx : TE) : TE := fun σ H Q => td σ H fun x H1 => ∃ a, x = .ref a ∧ IsD H1 a ∧ ty σ H1 fun y H2 => tx σ H2 fun z H3 => ∃ kvs k, H3 a = some (.dK kvs) ∧ y = kV k ∧
  (∀ v, valV kvs k = some v → Q v (upd H3 a (.dK (dropK kvs k)))) ∧ (valV kvs k = none → Q z H3)
section
variable {X : Cx} {o e f : Expr} {apos cpos : Pos} {td ty tx : TE}
end
section
variable {X : Cx} {pins : List (Addr × Obj)} {σ : St} {H : Hp} {s : Shared} {a : Addr} {kvs : List (Key × V)} {A : Around} {E : Value → Shared → Prop}
end
section
variable {X : Cx} {pins : List (Addr × Obj)} {σ : St} {H : Hp} {s : Shared} {a : Addr} {y : V} {u : Value} {A : Around} {E : Value → Shared → Prop}
end
end L2
namespace L2
open PySem PySem.Spec PyProof.Rows
section
variable {prog : Program} {w : World} {A : Around} {E : Value → Shared → Prop}
end
section
variable {X : Cx}
end
end L2
namespace L2
open PySem PySem.Spec PyProof.Rows
section
variable {X : Cx} {pins : List (Addr × Obj)} {σ : St} {H : Hp} {s : Shared} {h' : Heap}
theorem Inv.turnedL {t' : Nat} {ch : List Addr} (I : Inv X pins σ H s) (k : ∀ b o, b ∉ ch → s.heap.get? b = some o → h'.get? b = some o) (hf : ∀ b ∈ ch, FpOk X pins H b) : Inv X pins σ H { s with heap := h', toks := t' } := by
  have nit : ∀ b u, H b = some u → b ∉ ch := fun b u e z => by
    have q := (hf b z).1
    rw [q] at e; cases e
  refine I.step (g' := s.gens) (d' := s.drawn) (ch := ch) (fun b hb => ⟨(hf b hb).2.2.2.1, (hf b hb).2.1, (hf b hb).2.2.2.2.1, (hf b hb).2.2.2.2.2⟩) (fun b o _ _ hc e _ => k b o hc e) (fun b o _ _ hc e _ => ⟨o.slots, k b o hc e⟩)
    (fun _ _ _ _ n => n) (fun b o hc e => ⟨o, k b o hc e⟩) (fun _ _ e => e) (fun _ _ _ e => e) (fun b ps e => ⟨#[], by rw [e]; simp⟩) (fun m hm => ?_) (fun b u e => ?_) I.bare
  · obtain ⟨o, es, ep, ho, r⟩ := hm
    exact ⟨o, es, ep, k _ o (fun z => (hf _ z).2.1 rfl) ho, r⟩
  · refine (I.hok b u e).stay (fun c v hc q => k c v ?_ q) (fun _ q => q) fun _ _ q => q
    rcases hc with z | z
    · rw [z]; exact nit b u e
    · exact nit c _ z
theorem Inv.turnedNew {t' : Nat} {ch : List Addr} {T : Addr} {ob : HO} (I : Inv X pins σ H s) (k : ∀ b o, b ∉ ch → s.heap.get? b = some o → h'.get? b = some o) (hf : ∀ b ∈ ch, FpOk X pins H b) (hT : s.heap.objs.size ≤ T)
    (new : ObjOk X.prog X.w (upd H T ob) h' T ob) : Inv X pins σ (upd H T ob) { s with heap := h', toks := t' } := by
  have hn : H T = none := I.hok.fresh hT
  have nit : ∀ b u, H b = some u → b ∉ ch := fun b u e z => by
    have q := (hf b z).1
    rw [q] at e; cases e
  refine I.step (g' := s.gens) (d' := s.drawn) (ch := ch) (fun b hb => ⟨(hf b hb).2.2.2.1, (hf b hb).2.1, (hf b hb).2.2.2.2.1, (hf b hb).2.2.2.2.2⟩) (fun b o _ _ hc e _ => k b o hc e) (fun b o _ _ hc e _ => ⟨o.slots, k b o hc e⟩)
    (fun b o _ e n => ?_) (fun b o hc e => ⟨o, k b o hc e⟩) (fun b xs e => ?_) (fun b o u e => ?_) (fun b ps e => ⟨#[], ?_⟩) (fun m hm => ?_) (fun b u e => ?_) I.bare
  · rw [upd_ne (Nat.ne_of_lt (Nat.lt_of_lt_of_le (Heap.lt_size e) hT))]; exact n
  · rw [upd_ne (ne_of_none e hn)]; exact e
  · rw [upd_ne (ne_of_none e hn)]; exact e
  · rw [upd_ne (ne_of_none e hn), e]; simp
  · obtain ⟨o, es, ep, ho, r⟩ := hm
    exact ⟨o, es, ep, k _ o (fun z => (hf _ z).2.1 rfl) ho, r⟩
  · by_cases hb : b = T
    · subst hb
      rw [upd_same] at e
      cases e
      exact new
    · rw [upd_ne hb] at e
      refine (I.hok b u e).stay (fun c v hc q => k c v ?_ q) (fun c q => by rw [upd_ne (ne_of_none q hn)]; exact q) fun c xs q => by rw [upd_ne (ne_of_none q hn)]; exact q
      rcases hc with z | z
      · rw [z]; exact nit b u e
      · exact nit c _ z
end
def tLock (t : TS) : TS := fun D σ H => ∃ d u, H d = some u ∧ Mut (some u) ∧ ∀ od, t ⟨fun σ' H' => H' d = some (.frz od u) ∧ D.nx σ' (upd H' d u), fun v H' => H' d = some (.frz od u) ∧ D.rt v (upd H' d u), fun σ' H' => H' d = some (.frz od u) ∧ D.bk σ' (upd H' d u), fun σ' H' => H' d = some (.frz od u) ∧ D.ct σ' (upd H' d u)⟩ σ (upd H d (.frz od u))
def tLockE (t : TE) : TE := fun σ H Q => ∃ d u, H d = some u ∧ Mut (some u) ∧ ∀ od, t σ (upd H d (.frz od u)) fun v H' => H' d = some (.frz od u) ∧ Q v (upd H' d u)
section
variable {X : Cx}
end
def Itc (lo c : Int) (n : Nat) : It := ⟨fun i _ => i < n, fun i H x H' => H' = H ∧ x = .int (lo + (i : Nat) * c), fun i _ => n ≤ i⟩
def RgC (i j c : Int) (n : Nat) : Prop := c ≠ 0 ∧ c.natAbs < 1073741824 ∧ Builtin.Range.small i j c = true ∧ Builtin.Range.rangeSize i j c = n
def iRng3 (ta : TA) : TI := fun σ H R => ta σ H fun vs H1 => ∃ (i j c : Int) (n : Nat), vs = [.int i, .int j, .int c] ∧ RgC i j c n ∧ R (Itc i c n) H1
section
variable {X : Cx} {tg : Expr}
end
def Itv (K : PySem.W.Frag) (a : Addr) (n : Nat) : It :=
  ⟨fun i H => i < n ∧ ∃ (xs : List V) (x : V), SqL K H a xs ∧ xs[n - 1 - i]? = some x, fun i H x H' => H' = H ∧ ∀ xs, SqL K H a xs → xs[n - 1 - i]? = some x, fun i _ => n ≤ i⟩
def iRev (K : PySem.W.Frag) (ta : TA) : TI := fun σ H R => ta σ H fun vs H1 => ∃ (a : Addr) (xs : List V), vs = [.ref a] ∧ SqL K H1 a xs ∧ R (Itv K a xs.length) H1
section
variable {X : Cx} {tg : Expr}
end
def Its (x : Str) : It := ⟨fun i _ => i < x.cps.size, fun i H v H' => H' = H ∧ ∃ c, x.cps[i]? = some c ∧ v = .str ⟨#[c]⟩, fun i _ => x.cps.size ≤ i⟩
def iStr (te : TE) : TI := fun σ H R => te σ H fun v H1 => ∃ x, v = .str x ∧ R (Its x) H1
section
variable {prog : Program} {w : World} {A : Around} {E : Value → Shared → Prop} {s : Shared}
end
section
variable {X : Cx} {pins : List (Addr × Obj)} {σ : St} {H : Hp} {s : Shared} {d : Addr} {o : Obj}
end
def Itk (d : Addr) (o : Obj) (kvs : List (Key × V)) : It :=
  ⟨fun i H => H d = some (.frz o (.dK kvs)) ∧ i < kvs.length, fun i H x H' => H' = H ∧ ∃ k v, kvs[i]? = some (k, v) ∧ x = kV k, fun i H => H d = some (.frz o (.dK kvs)) ∧ kvs.length ≤ i⟩
def Itkt (d : Addr) (o : Obj) (kvs : List (List Key × V)) : It :=
  ⟨fun i H => H d = some (.frz o (.dT kvs)) ∧ i < kvs.length, fun i H x H' => H' = H ∧ ∃ (k : List Key) (v : V) (q : Addr), kvs[i]? = some (k, v) ∧ x = .ref q ∧ H q = some (.tup (k.map kV)), fun i H => H d = some (.frz o (.dT kvs)) ∧ kvs.length ≤ i⟩
def Itd (d : Addr) (o : Obj) (kvs : List (Key × V)) : It :=
  ⟨fun i H => H d = some (.frz o (.dK kvs)) ∧ i < kvs.length, fun i H x H' => H' = H ∧ ∃ k, kvs[i]? = some (k, x), fun i H => H d = some (.frz o (.dK kvs)) ∧ kvs.length ≤ i⟩
def Iti (d : Addr) (o : Obj) (kvs : List (Key × V)) : It :=
  ⟨fun i H => H d = some (.frz o (.dK kvs)) ∧ i < kvs.length, fun i H x H' => ∃ T k v, kvs[i]? = some (k, v) ∧ x = .ref T ∧ H T = none ∧ H' = upd H T (.tup [kV k, v]), fun i H => H d = some (.frz o (.dK kvs)) ∧ kvs.length ≤ i⟩
section
variable {P : Program} {w : World} {K : PySem.W.Frag} {tg : Expr} {d : Addr} {o : Obj} {es : Array DictEntry} {ep : Nat}
end
def iKeys (td : TE) : TI := fun σ H R => td σ H fun x H1 => ∃ d o, x = .ref d ∧ ((∃ kvs, H1 d = some (.frz o (.dK kvs)) ∧ R (Itk d o kvs) H1) ∨ ∃ kvs, H1 d = some (.frz o (.dT kvs)) ∧ R (Itkt d o kvs) H1)
def iVals (td : TE) : TI := fun σ H R => td σ H fun x H1 => ∃ d o kvs, x = .ref d ∧ H1 d = some (.frz o (.dK kvs)) ∧ R (Itd d o kvs) H1
def iItems (td : TE) : TI := fun σ H R => td σ H fun x H1 => ∃ d o kvs, x = .ref d ∧ H1 d = some (.frz o (.dK kvs)) ∧ R (Iti d o kvs) H1
def iKeysM (td : TE) : TI := fun σ H R => td σ H fun x H1 => ∃ d o kvs, x = .ref d ∧ H1 d = some (.frz o (.dK kvs)) ∧ R (Itk d o kvs) H1
section
variable {X : Cx} {tg e : Expr} {td : TE} {apos cpos : Pos}
end
def Ite (K : PySem.W.Frag) (a : Addr) : It :=
  ⟨fun i H => ∃ (xs : List V) (x : V), SqL K H a xs ∧ xs[i]? = some x, fun i H v H' => ∃ T x, v = .ref T ∧ H T = none ∧ H' = upd H T (.tup [.int (i : Nat), x]) ∧ ∀ xs, SqL K H a xs → xs[i]? = some x, fun i H => ∃ xs : List V, SqL K H a xs ∧ xs.length ≤ i⟩
theorem turn_enum {P : Program} {w : World} {K : PySem.W.Frag} {elts : List Expr} {kk : Nat} {tpos : Pos} (a e it : Addr) :
    Turn P w K (.Tuple elts kk tpos) (Ite K a) [e, it] e (fun i h => (∃ old, IsEnum h e it ((i : Nat) : Int) old) ∧ h.IsListIter it a i ∧ e ≠ it) where
  mem := by simp
  obj := fun i h st b hb => by
    obtain ⟨⟨old, he⟩, ⟨o, ho, hc, hd⟩, _⟩ := st
    have e' : b = e ∨ b = it := by simpa using hb
    rcases e' with z | z
    · rw [z]; exact ⟨_, he, fun v q => nomatch q⟩
    · rw [z]; exact ⟨o, ho, fun v q => by rw [hd] at q; cases q⟩
  keep := fun i h h' st k => let ⟨⟨old, he⟩, hi, hne⟩ := st; ⟨⟨old, k e (by simp) _ he⟩, hi.at fun o q => k it (by simp) o q, hne⟩
  item := by
    intro X hP hw hK hc i pins s σ H E I hf st hg
    subst hP hw hK
    obtain ⟨⟨old, he⟩, hit, hne⟩ := st
    obtain ⟨xs, x, hq, hx⟩ := hg
    obtain ⟨its, rv, p, hz⟩ := I.list hq
    obtain ⟨u, hu, ru⟩ := rv.get hx
    have hel : e < s.heap.objs.size := Heap.lt_size he
    have hil : it < s.heap.objs.size := by obtain ⟨_, q, _⟩ := hit; exact Heap.lt_size q
    refine wpAny_pyNext_enum_item he hit p.isList (x := u) (by simpa using hu) hne fun h' ho hit' hT hsz hk => ?_
    refine ⟨_, rfl, wpAny_letOwnedTupleGo_enum (s := { s with heap := h', toks := s.toks + 1 }) ho fun h'' he' sb => ?_⟩
    have hT2 : h''.get? s.heap.objs.size = some { cls := .type "tuple", data := .seq #[.int i s.toks, u] } := (sb.2 _ (Nat.ne_of_gt hel)).trans hT
    have new : ObjOk X.prog X.w (upd H s.heap.objs.size (.tup [.int (i : Nat), x])) h'' s.heap.objs.size (.tup [.int (i : Nat), x]) :=
      ⟨by show 2 ≤ sizeLine; decide, [.int i s.toks, u], .cons ⟨_, rfl⟩ (.cons ru .nil), ⟨_, hT2, rfl, _, rfl⟩⟩
    have I1 : Inv X pins σ (upd H s.heap.objs.size (.tup [.int (i : Nat), x])) { s with heap := h'', toks := s.toks + 1 } :=
      I.turnedNew (ch := [e, it]) (fun b ob hb q => (sb.2 b (fun z => hb (by simp [z]))).trans (hk b ob (fun z => hb (by simp [z])) (fun z => hb (by simp [z])) q)) hf (Nat.le_refl _) new
    refine ⟨.ref s.heap.objs.size, _, I1, rfl, ⟨_, x, rfl, I.hok.fresh (Nat.le_refl _), rfl, fun ys hy => by rw [I.list_inj hy hq]; exact hx⟩, ⟨⟨u, ?_⟩, hit'.at fun o q => (sb.2 it (Ne.symm hne)).trans q, hne⟩, fun b hb => ?_⟩
    · have e1 : ((i + 1 : Nat) : Int) = (i : Int) + 1 := by omega
      rw [e1]; exact he'
    · have hb' : b < s.heap.objs.size := by
        have e' : b = e ∨ b = it := by simpa using hb
        rcases e' with z | z
        · rw [z]; exact hel
        · rw [z]; exact hil
      rw [upd_ne (Nat.ne_of_lt hb')]
      exact (hf b hb).1
  done := by
    intro X hP hw hK hc i pins s σ H E I hf st hg
    subst hP hw hK
    obtain ⟨⟨old, he⟩, hit, hne⟩ := st
    obtain ⟨xs, hq, hx⟩ := hg
    obtain ⟨its, rv, p, hz⟩ := I.list hq
    obtain ⟨f0, f1, f2, f3, f4, f5⟩ := hf it (by simp)
    have hl := rv.length
    exact wpAny_pyNext_enum_end (I.ok.hd hc) he hit p.isList (by simp; omega) fun h' eb => ⟨rfl, I.turned (t' := s.toks) (fun b o hb q => eb b o hb q) f0 f1 f3 f4 f5⟩
  self := fun A i s Q E st h => let ⟨⟨_, he⟩, _⟩ := st; wpAny_pyIter_enum he h
def iEnum (K : PySem.W.Frag) (ta : TA) : TI := fun σ H R => ta σ H fun vs H1 => ∃ a xs, vs = [.ref a] ∧ SqL K H1 a xs ∧ R (Ite K a) H1
theorem pi_enum {X : Cx} {e : Expr} {ta : TA} {p pos tpos : Pos} {elts : List Expr} {kk : Nat} (hg : Gl X "enumerate") (hm : X.mg "enumerate" = none) (ha : PA X [e] ta) (hs : starEach [e] X.env = [(false, eval e X.env)] := by rfl) :
    PI X (.Tuple elts kk tpos) (.Call (.Name "enumerate" p) [e] [] pos) (iEnum X.K ta) := by
  intro pins s σ H R I h
  refine Call_ (ld_blt I hg hm boot_enumerate (PyProof.Rows.callWith_type1 (thn (ha pos pins s σ H _ I h) fun us s1 ⟨vs, H1, I1, r1, q1⟩ => ?_) hs rfl))
  obtain ⟨a, xs, ex, hq, q⟩ := q1
  subst ex
  cases r1 with
  | cons r rr =>
    cases rr
    cases r
    obtain ⟨its, rv, p', hz⟩ := I1.list hq
    refine call_enumerate_list p'.isList fun h' he hit hsz hk => wpAny_pyIter_enum he ?_
    have I2 : Inv X pins σ H1 { s1 with heap := h' } := I1.kept (t' := s1.toks) hk
    refine ⟨s1.heap.objs.size + 1, [s1.heap.objs.size + 1, s1.heap.objs.size], _, _, H1, rfl, I2, turn_enum a (s1.heap.objs.size + 1) s1.heap.objs.size, ⟨⟨.none, he⟩, hit, Nat.succ_ne_self _⟩, fun b hb => ?_, q⟩
    have e' : b = s1.heap.objs.size + 1 ∨ b = s1.heap.objs.size := by simpa using hb
    have hle : s1.heap.objs.size ≤ b := by
      rcases e' with z | z
      · rw [z]; exact Nat.le_add_right _ _
      · rw [z]; exact Nat.le_refl _
    exact I1.fpOk hle (I1.hok.fresh hle)
theorem boot_zip5 : bootBuiltins "zip" = some (.type "zip") := by decide +kernel
def Itz (K : PySem.W.Frag) (a b : Addr) : It :=
  ⟨fun i H => ∃ (xs ys : List V) (x y : V), SqL K H a xs ∧ SqL K H b ys ∧ xs[i]? = some x ∧ ys[i]? = some y,
    fun i H v H' => ∃ T x y, v = .ref T ∧ H T = none ∧ H' = upd H T (.tup [x, y]) ∧ (∀ xs, SqL K H a xs → xs[i]? = some x) ∧ ∀ ys, SqL K H b ys → ys[i]? = some y,
    fun i H => ∃ xs ys : List V, SqL K H a xs ∧ SqL K H b ys ∧ (xs.length ≤ i ∨ ys.length ≤ i)⟩
theorem turn_zip {P : Program} {w : World} {K : PySem.W.Frag} {elts : List Expr} {kk : Nat} {tpos : Pos} {a b z TI TO i1 i2 : Addr} (D : ZipApart z TI TO i1 i2 a b) :
    Turn P w K (.Tuple elts kk tpos) (Itz K a b) [z, TI, TO, i1, i2] z (fun i h => IsZip h z TI TO .none ∧ IsPair h TI (.ref i1) (.ref i2) ∧ (∃ x y, IsPair h TO x y) ∧ h.IsListIter i1 a i ∧ h.IsListIter i2 b i) where
  mem := by simp
  obj := fun i h st c hc => by
    obtain ⟨hz, hTI, ⟨x, y, hTO⟩, ⟨o1, e1, _, d1⟩, ⟨o2, e2, _, d2⟩⟩ := st
    have e' : c = z ∨ c = TI ∨ c = TO ∨ c = i1 ∨ c = i2 := by simpa using hc
    rcases e' with q | q | q | q | q
    · rw [q]; exact ⟨_, hz, fun v q => nomatch q⟩
    · rw [q]; exact ⟨_, hTI, fun v q => nomatch q⟩
    · rw [q]; exact ⟨_, hTO, fun v q => nomatch q⟩
    · rw [q]; exact ⟨o1, e1, fun v q => by rw [d1] at q; cases q⟩
    · rw [q]; exact ⟨o2, e2, fun v q => by rw [d2] at q; cases q⟩
  keep := fun i h h' st k => by
    obtain ⟨hz, hTI, ⟨x, y, hTO⟩, h1, h2⟩ := st
    exact ⟨k z (by simp) _ hz, k TI (by simp) _ hTI, ⟨x, y, k TO (by simp) _ hTO⟩, h1.at fun o q => k i1 (by simp) o q, h2.at fun o q => k i2 (by simp) o q⟩
  item := by
    intro X hP hw hK hc i pins s σ H E I hf st hg
    subst hP hw hK
    obtain ⟨hz, hTI, ⟨x0, y0, hTO⟩, h1, h2⟩ := st
    obtain ⟨xs, ys, x, y, hqx, hqy, hx, hy⟩ := hg
    obtain ⟨its, rv, p, _⟩ := I.list hqx
    obtain ⟨its2, rv2, p2, _⟩ := I.list hqy
    obtain ⟨u, hu, ru⟩ := rv.get hx
    obtain ⟨u2, hu2, ru2⟩ := rv2.get hy
    have hzl : z < s.heap.objs.size := Heap.lt_size hz
    refine wpAny_pyNext_zip_item D hz hTI hTO h1 h2 p.isList p2.isList (x := u) (y := u2) (by simpa using hu) (by simpa using hu2) fun h' z' TO' h1' h2' hT hsz hk => ?_
    refine ⟨_, rfl, wpAny_letOwnedTupleGo_zip (s := { s with heap := h' }) z' fun h'' z'' sb => ?_⟩
    have hT2 : h''.get? s.heap.objs.size = some { cls := .type "tuple", data := .seq #[u, u2] } := (sb.2 _ (Nat.ne_of_gt hzl)).trans hT
    have new : ObjOk X.prog X.w (upd H s.heap.objs.size (.tup [x, y])) h'' s.heap.objs.size (.tup [x, y]) :=
      ⟨by show 2 ≤ sizeLine; decide, [u, u2], .cons ru (.cons ru2 .nil), ⟨_, hT2, rfl, _, rfl⟩⟩
    have I1 : Inv X pins σ (upd H s.heap.objs.size (.tup [x, y])) { s with heap := h'' } :=
      I.turnedNew (t' := s.toks) (ch := [z, TI, TO, i1, i2]) (fun c o hb q => (sb.2 c (fun q' => hb (by simp [q']))).trans (hk c o (fun q' => hb (by simp [q'])) (fun q' => hb (by simp [q'])) (fun q' => hb (by simp [q'])) (fun q' => hb (by simp [q'])) q)) hf (Nat.le_refl _) new
    refine ⟨.ref s.heap.objs.size, _, I1, rfl, ⟨_, x, y, rfl, I.hok.fresh (Nat.le_refl _), rfl, fun l hl => by rw [I.list_inj hl hqx]; exact hx, fun l hl => by rw [I.list_inj hl hqy]; exact hy⟩, ⟨z'', ?_, ⟨u, u2, ?_⟩, ?_, ?_⟩, fun c hcm => ?_⟩
    · exact (sb.2 _ D.TIz).trans (hk _ _ D.TIz D.TITO D.TIi1 D.TIi2 hTI)
    · exact (sb.2 _ D.TOz).trans TO'
    · exact h1'.at fun o q => (sb.2 _ D.i1z).trans q
    · exact h2'.at fun o q => (sb.2 _ D.i2z).trans q
    · have hlt : c < s.heap.objs.size := by
        have e' : c = z ∨ c = TI ∨ c = TO ∨ c = i1 ∨ c = i2 := by simpa using hcm
        rcases e' with q | q | q | q | q
        · rw [q]; exact hzl
        · rw [q]; exact Heap.lt_size hTI
        · rw [q]; exact Heap.lt_size hTO
        · rw [q]; obtain ⟨_, e1, _⟩ := h1; exact Heap.lt_size e1
        · rw [q]; obtain ⟨_, e2, _⟩ := h2; exact Heap.lt_size e2
      rw [upd_ne (Nat.ne_of_lt hlt)]
      exact (hf c hcm).1
  done := by
    intro X hP hw hK hc i pins s σ H E I hf st hg
    subst hP hw hK
    obtain ⟨hz, hTI, ⟨x0, y0, hTO⟩, h1, h2⟩ := st
    obtain ⟨xs, ys, hqx, hqy, hend⟩ := hg
    obtain ⟨its, rv, p, _⟩ := I.list hqx
    obtain ⟨its2, rv2, p2, _⟩ := I.list hqy
    have l1 := rv.length
    have l2 := rv2.length
    have he : its.toArray[i]? = none ∨ its2.toArray[i]? = none := by
      rcases hend with q | q
      · exact .inl (by simp; omega)
      · exact .inr (by simp; omega)
    exact wpAny_pyNext_zip_end (I.ok.hd hc) D hz hTI hTO h1 h2 p.isList p2.isList he fun h' hk => ⟨rfl, I.turnedL (t' := s.toks) (ch := [z, TI, TO, i1, i2]) (fun c o hb q =>
      hk c o (fun q' => hb (by simp [q'])) (fun q' => hb (by simp [q'])) (fun q' => hb (by simp [q'])) (fun q' => hb (by simp [q'])) q) hf⟩
  self := fun A i s Q E st h => wpAny_pyIter_zip st.1 h
def iZip (K : PySem.W.Frag) (ta : TA) : TI := fun σ H R => ta σ H fun vs H1 => ∃ a b xs ys, vs = [.ref a, .ref b] ∧ SqL K H1 a xs ∧ SqL K H1 b ys ∧ R (Itz K a b) H1
theorem pi_zip {X : Cx} {e e2 : Expr} {ta : TA} {p pos tpos : Pos} {elts : List Expr} {kk : Nat} (hg : Gl X "zip") (hm : X.mg "zip" = none) (ha : PA X [e, e2] ta)
    (hs : starEach [e, e2] X.env = (false, eval e X.env) :: starEach [e2] X.env := by rfl) (hpl : (backTo pos (starEach [e2] X.env)).any (·.1) = false := by rfl) :
    PI X (.Tuple elts kk tpos) (.Call (.Name "zip" p) [e, e2] [] pos) (iZip X.K ta) := by
  intro pins s σ H R I h
  refine Call_ (ld_blt I hg hm boot_zip5 (PyProof.Rows.callWith_type1 (thn (ha pos pins s σ H _ I h) fun us s1 ⟨vs, H1, I1, r1, q1⟩ => ?_) hs hpl))
  obtain ⟨a, b, xs, ys, ex, hqx, hqy, q⟩ := q1
  subst ex
  cases r1 with
  | cons r rr =>
    cases rr with
    | cons r' rr =>
      cases rr
      cases r
      cases r'
      obtain ⟨its, rv, p1, _⟩ := I1.list hqx
      obtain ⟨its2, rv2, p2, _⟩ := I1.list hqy
      have la : a < s1.heap.objs.size := p1.lt
      have lb : b < s1.heap.objs.size := p2.lt
      refine call_zip_2 p1.isList p2.isList fun h' hz hTI hTO h1 h2 hsz hk => wpAny_pyIter_zip hz ?_
      have I2 : Inv X pins σ H1 { s1 with heap := h' } := I1.kept (t' := s1.toks) hk
      refine ⟨s1.heap.objs.size + 4, [s1.heap.objs.size + 4, s1.heap.objs.size + 2, s1.heap.objs.size + 3, s1.heap.objs.size, s1.heap.objs.size + 1], _, _, H1, rfl, I2, turn_zip (PySem.W.ktu_apart s1.heap.objs.size a b la lb), ⟨hz, hTI, ⟨_, _, hTO⟩, h1, h2⟩, fun c hcm => ?_, q⟩
      have e' : c = s1.heap.objs.size + 4 ∨ c = s1.heap.objs.size + 2 ∨ c = s1.heap.objs.size + 3 ∨ c = s1.heap.objs.size ∨ c = s1.heap.objs.size + 1 := by simpa using hcm
      have hle : s1.heap.objs.size ≤ c := by
        rcases e' with z | z | z | z | z
        · rw [z]; exact Nat.le_add_right _ _
        · rw [z]; exact Nat.le_add_right _ _
        · rw [z]; exact Nat.le_add_right _ _
        · rw [z]; exact Nat.le_refl _
        · rw [z]; exact Nat.le_add_right _ _
      exact I1.fpOk hle (I1.hok.fresh hle)
end L2
section 
namespace Bits
open PySem PyProof.Rows
theorem bitOr_pp {x y : Int} (hx : 0 ≤ x) (hy : 0 ≤ y) : Builtin.bitOr x y = ((x.toNat ||| y.toNat : Nat) : Int) := by
  have e := nat_or_add_and x.toNat y.toNat
  rw [bitOr_and, bitAnd_pp hx hy]
  omega
end Bits
end 
section 
namespace TL
open PySem PySem.Builtin PySem.Builtin.Str PySem.StrLaws
abbrev tl (x : Str) : List Nat := x.cps.toList
def pre (S l : List Nat) : Bool := l.take S.length == S
def spl (S : List Nat) : Nat → List Nat → List Nat → List (List Nat)
  | _, acc, [] => [acc]
  | 0, acc, c :: r => if pre S (c :: r) = true then acc :: spl S (S.length - 1) [] r else spl S 0 (acc ++ [c]) r
  | k + 1, acc, _ :: r => spl S k acc r
def par (S : List Nat) : List Nat → List Nat → Option (List Nat × List Nat)
  | _, [] => none
  | acc, c :: r => if pre S (c :: r) = true then some (acc, (c :: r).drop S.length) else par S (acc ++ [c]) r
def joinL (S : List Nat) : List (List Nat) → List Nat
  | [] => []
  | [p] => p
  | p :: q :: r => p ++ (S ++ joinL S (q :: r))
def numL (n : Nat) : List Nat := (Nat.toDigits 10 n).map Char.toNat
def wstep (st : List (List Nat) × List Nat) (c : Nat) : List (List Nat) × List Nat :=
  if Unicode.isSpace c = true then (if st.2 = [] then st else (st.1 ++ [st.2], [])) else (st.1, st.2 ++ [c])
def wfin (st : List (List Nat) × List Nat) : List (List Nat) := if st.2 = [] then st.1 else st.1 ++ [st.2]
end TL
end 
namespace L2
open PySem PySem.Spec PyProof.Rows
def rNewStrs (ys : List Str) : Hp → VK → Prop := fun H Q => ∀ p, H p = none → Q (.ref p) (upd H p (.lst (ys.map V.str)))
section
variable {X : Cx} {pins : List (Addr × Obj)} {σ : St} {H : Hp} {s : Shared} {Q : VK}
end
section
variable {X : Cx}
end
section
variable {X : Cx} {o e : Expr} {to te : TE}
def tM0 (r : V → List V → Hp → VK → Prop) (to : TE) : TE := fun σ H Q => to σ H fun x H1 => (∃ a, x = .str a) ∧ r x [] H1 Q
def tM1 (r : V → List V → Hp → VK → Prop) (to te : TE) : TE := fun σ H Q => to σ H fun x H1 => (∃ a, x = .str a) ∧ te σ H1 fun y H2 => r x [y] H2 Q
end
end L2
namespace L2
open PySem PySem.Spec PyProof.Rows
section
variable {X : Cx}
end
def clipS (n d : Nat) : Option Int → Int
  | none => (d : Int)
  | some i => max 0 (min (if i < 0 then i + (n : Int) else i) (n : Int))
def cutS (z : Str) (lo hi : Option Int) : Str :=
  ⟨((z.cps.toList.drop (HT.sIx z.length 0 lo)).take (HT.sIx z.length z.length hi - HT.sIx z.length 0 lo)).toArray⟩
def rSlS : V → Option Int → Option Int → Hp → VK → Prop := fun x lo hi H Q => ∃ z, x = .str z ∧ z.length ≤ sizeLine ∧ Q (.str (cutS z lo hi)) H
end L2
namespace Att
open PySem PySem.W PySem.Calls PyProof.Rows
section
variable {prog : Program} {w : World} {A : Around} {E : Value → Shared → Prop} {s : Shared} {K : Frag}
def noObjs (h : Heap) : Heap := { h with objs := #[] }
def ledger (h : Heap) (L d : Addr) : List (Addr × Obj) := (List.range h.objs.size).filterMap fun a => if a = L ∨ a = d then none else (h.get? a).map fun o => (a, o)
end
end Att
namespace L2
open PySem PySem.Spec PyProof.Rows
def Only (H : Hp) : Prop := ∀ b, H b = none ∨ ∃ o xs, H b = some (.frz o (.lst xs))
end L2
namespace L2
open PySem PySem.Spec PyProof.Rows
abbrev KOf {K : PySem.W.Frag} {h : Heap} (_ : K.In h) : PySem.W.Frag := K
end L2
/- THE LAST THEOREM (shape; LID, My.* are yours):
   My.Adr: a structure of the addresses that your layer names (classes, functions); My.Txt K t: a structure (Prop) of the equations over K;
   My.txt_mk : {K} {implicit addresses ..} (e1 : nsIn K mainGlobals "law" = some (some (.ref f))) (e2 : K.lookup f = some ⟨oc, od, .func (fnOf "law" "law" params body scope dV kV doc pm an cdv ct), sl⟩) (e3 : codeIn K cdv "law" = true) .. : ∃ t, My.Txt K t
set_option maxRecDepth 100000 in
set_option maxHeartbeats 0 in
theorem PySem.Challenge.cw_LID_holds : PySem.Challenge.rw_LID.Holds := by
  w_on; o_law; k_head; (case hw => w_witness2)
  k_fill
  refine L2.walk_of (l := PySem.Challenge.rw_LID) (n := 63) (k := 40) (x := "script") (CX := fun w => ..) (sp := fun _ => My.sp_law) rfl (by decide) rfl ⟨rfl, by decide, by decide⟩ (fun w h Y => PySem.W.kIn_of Y) ?F ?S ?C
  case F =>
    intro w mg fa h KX G hmg
    have T : ∃ t, My.Txt (L2.KOf KX) t := by
      dsimp only [L2.KOf]                          -- K must stand as «<heap const> w.params» for k_is
      refine' My.txt_mk ?e1 ?e2 ?e3 ..
      (case e1 => PySem.W.k_is)                    -- in the order: a name -> its address -> its object -> its parts
      (case e2 => PySem.W.k_is)
      ..
    obtain ⟨t, T⟩ := T
    have e0 := hmg.symm.trans (PySem.W.mg_of KX G T.law)
    cases e0                                       -- fa is the law's own address
    exact ⟨_, fun s u => .of_eq rfl, fun base kb nb => My.law_fn T kb nb⟩     -- if «.of_eq rfl» comes too early: refine' ⟨_, ?b, fun base kb nb => My.law_fn T kb nb⟩; exact fun s u => .of_eq rfl
  case S => exact fun w H a ns hl hO hS => ..
  case C => exact ..
(the tactic k_is has no namespace: write k_is) -/
namespace L2
open PySem PySem.Spec PyProof.Rows
def inClass (s : Stmt) (j : Nat) : Stmt := match s with
  | .ClassDef _ _ _ body _ _ _ _ _ _ _ => body.getD j (.Pass ⟨0, 0, 0, 0⟩)
  | _ => .Pass ⟨0, 0, 0, 0⟩
def defArgs (s : Stmt) : Arguments := match s with
  | .FunctionDef _ a _ _ _ _ _ _ _ _ => a
  | _ => { posonlyargs := [], args := [], vararg := none, kwonlyargs := [], kw_defaults := [], kwarg := none, defaults := [] }
def defBody (s : Stmt) : List Stmt := match s with
  | .FunctionDef _ _ b _ _ _ _ _ _ _ => b
  | _ => []
def defScope (s : Stmt) : Scope := match s with
  | .FunctionDef _ _ _ _ _ _ sc _ _ _ => sc
  | _ => { kind := .function, names := [], isGenerator := false, isCoroutine := false }
abbrev CX0 : CXT := fun _ _ _ _ _ _ => False
abbrev E0 : XK := fun _ _ _ => False
theorem pass0 {X : Cx} : Passes CX0 X E0 := fun _ _ _ _ _ _ _ h => h.elim
structure Fun (K : PySem.W.Frag) (x qual : Str) (st : Stmt) (f : Addr) (fd : FuncData) : Prop where
  ex : ∃ (oc : Value) (od : Option Addr) (kV doc pm : Value) (an : Option Addr) (cdv ct : Value) (osl : Array (Option Value)),
    fd = PySem.W.fnOf x qual (defArgs st) (defBody st) (defScope st) .none kV doc pm an cdv ct ∧ K.lookup f = some ⟨oc, od, .func fd, osl⟩ ∧ PySem.W.codeIn K cdv qual = true
  kp : PySem.W.keepIn K (.ref f) = true
section
variable {P : Program} {w : World} {K : PySem.W.Frag} {mg : Str → Option Value} {base : Heap}
theorem Fun.ok {x qual : Str} {st : Stmt} {f : Addr} {fd : FuncData} {N ps : List Str} {k : Nat} {sp : Sp} (F : Fun K x qual st f fd) (S : FnScope N ps (defScope st)) (len : ∀ vs H Q E, sp vs H Q E → vs.length = ps.length)
    (hbody : ∀ (cdv : Value) (A : Around) (outer : List Env) (s : Shared) (H : Hp) (vs : List V) (Q : VK) (E : XK), Room k (A.deeper (envOfC qual (defScope st) s.heap.objs.size f cdv)) → sp vs H Q E →
      ∃ t, PSs (cxOf CX0 P w K mg base N qual (defScope st) f cdv A outer s H E).nox (defBody st) t ∧ t { nx := fun _ H' => Q .non H', rt := Q } (start N vs) H) : FnOk P w K mg base CX0 (k + 1) f fd ps sp := by
  obtain ⟨oc, od, kV, doc, pm, an, cdv, ct, osl, rfl, lk, hcd⟩ := F.ex
  refine fn_of lk hcd S len fun A outer s H vs Q E hr hsp => ?_
  obtain ⟨t, h, q⟩ := hbody cdv A outer s H vs Q E hr hsp
  exact ⟨t, h.nox, q⟩
theorem Fun.binds {x qual : Str} {st : Stmt} {f : Addr} {fd : FuncData} {ps : List Str} (F : Fun K x qual st f fd)
    (h : ∀ (kV doc pm : Value) (an : Option Addr) (cdv ct : Value) (us : List Value), us.length = ps.length → bindArgs (PySem.W.fnOf x qual (defArgs st) (defBody st) (defScope st) .none kV doc pm an cdv ct) ⟨us, []⟩ = pure (ps.zip us)) : Binds K fd ps [] := by
  obtain ⟨oc, od, kV, doc, pm, an, cdv, ct, osl, rfl, lk, hcd⟩ := F.ex
  exact .all (h kV doc pm an cdv ct)
theorem fun_mk {x qual : Str} {st : Stmt} {f : Addr} {oc : Value} {od an : Option Addr} {osl : Array (Option Value)} {kV doc pm cdv ct : Value} (l : K.lookup f = some ⟨oc, od, .func (PySem.W.fnOf x qual (defArgs st) (defBody st) (defScope st) .none kV doc pm an cdv ct), osl⟩)
    (c : PySem.W.codeIn K cdv qual = true) (k : PySem.W.keepIn K (.ref f) = true) : Fun K x qual st f (PySem.W.fnOf x qual (defArgs st) (defBody st) (defScope st) .none kV doc pm an cdv ct) := ⟨⟨oc, od, kV, doc, pm, an, cdv, ct, osl, rfl, l, c⟩, k⟩
end
section
variable {X : Cx}
theorem pv (i : Nat) {x : Str} {pos : Pos} (hN : X.N[i]? = some x := by rfl) (hv : Vis X.env.scope x := by first | exact Or.inl rfl | exact Or.inr (Or.inl rfl) | exact Or.inr (Or.inr rfl)) (hd : (x == ("__debug__" : Str)) = false := by decide)
    (hcd : (x == ("__classdict__" : Str)) = false := by decide) : PE X (.Name x pos) (tVar i) := pe_var hN hv hd hcd
end
theorem iteF {A B : Prop} (h : B) : if false = true then A else B := by
  rw [if_neg Bool.false_ne_true]
  exact h
theorem iteT {A B : Prop} (h : A) : if true = true then A else B := by
  rw [if_pos rfl]
  exact h
theorem ite2 {c A B : Prop} [Decidable c] (h1 : c → A) (h2 : ¬ c → B) : if c then A else B := by
  by_cases h : c
  · rw [if_pos h]
    exact h1 h
  · rw [if_neg h]
    exact h2 h
def Same (H H' : Hp) : Prop := ∀ b o, H b = some o → H' b = some o
theorem Same.refl (H : Hp) : Same H H := fun _ _ h => h
theorem Same.trans {H H1 H2 : Hp} (a : Same H H1) (b : Same H1 H2) : Same H H2 := fun c o h => b c o (a c o h)
theorem Same.free {H H' : Hp} (e : Same H H') {l : Addr} (h : H' l = Option.none) : H l = Option.none := by
  cases q : H l with
  | none => rfl
  | some o =>
    rw [e l o q] at h
    cases h
theorem Same.seq {K : PySem.W.Frag} {H H' : Hp} {a : Addr} {xs : List V} (e : Same H H') (h : SqL K H a xs) : SqL K H' a xs := by
  rcases h with (h | ⟨o, h⟩) | h
  · exact .inl (.inl (e _ _ h))
  · exact .inl (.inr ⟨o, e _ _ h⟩)
  · exact .inr h
section
variable {κ : Type} [DecidableEq κ]
end
theorem nd_ix {α : Type} {l : List α} (hN : l.Nodup) {i j : Nat} {x : α} (a : l[i]? = some x) (b : l[j]? = some x) : i = j := by
  obtain ⟨h1, e1⟩ := List.getElem?_eq_some_iff.mp a
  obtain ⟨h2, e2⟩ := List.getElem?_eq_some_iff.mp b
  exact (List.getElem_inj hN).mp (e1.trans e2.symm)
end L2
end
section
section
set_option Elab.async false
set_option linter.all false
set_option maxRecDepth 100000
set_option maxHeartbeats 2000000
namespace L2
open PySem PySem.Spec PyProof.Rows
open PySem.W (WData Codec OpenSpec Well WellAll ReadsW ReadsAllW)
mutual
inductive Dw (K : PySem.W.Frag) (H : Hp) : V → WData → Prop
  | non : Dw K H .non .none
  | bl (b : Bool) : Dw K H (.bl b) (.bool b)
  | int (i : Int) : Dw K H (.int i) (.int i)
  | str (x : Str) : Dw K H (.str x) (.str x)
  | byt (b : Array UInt8) : Dw K H (.byt b) (.bytes b.toList)
  | lst {a : Addr} {xs : List V} {ds : List WData} : SqL K H a xs → DwAll K H xs ds → Dw K H (.ref a) (.list ds)
  | tup {a : Addr} {xs : List V} {ds : List WData} : SqT K H a xs → DwAll K H xs ds → Dw K H (.ref a) (.tuple ds)
inductive DwAll (K : PySem.W.Frag) (H : Hp) : List V → List WData → Prop
  | nil : DwAll K H [] []
  | cons {v : V} {vs : List V} {d : WData} {ds : List WData} : Dw K H v d → DwAll K H vs ds → DwAll K H (v :: vs) (d :: ds)
end
theorem dw_ints {K : PySem.W.Frag} {H : Hp} : ∀ ns : List Int, DwAll K H (ns.map V.int) (ns.map WData.int)
  | [] => .nil
  | n :: r => .cons (.int n) (dw_ints r)
theorem ints_dw {K : PySem.W.Frag} {H : Hp} : ∀ (ns : List Int) (xs : List V), DwAll K H xs (ns.map WData.int) → xs = ns.map V.int
  | [], xs, h => by
    cases h
    rfl
  | n :: r, xs, h => by
    cases h with
    | cons h1 h2 =>
      cases h1
      rw [ints_dw r _ h2] <;> rfl
section
variable {P : Program} {w : World} {K : PySem.W.Frag} {H : Hp} {h : Heap} {R : PySem.W.WRecords} {cl : Str → Option Addr}
theorem sqL_at {a : Addr} {xs : List V} (hok : HOk P w H h) (KX : K.In h) (q : SqL K H a xs) : ∃ (its : List Value) (o : Obj) (n : Nat), Vals xs its ∧ h.get? a = some o ∧ o.cls = .type "list" ∧ o.data = .seq its.toArray n := by
  rcases q with q | ⟨o, its, n, e, hc, _, hd, _, hv⟩
  · obtain ⟨_, its, n, hv, e⟩ := (show ObjOk P w H h a (.lst xs) from q.ok hok)
    exact ⟨its, _, n, hv, e, rfl, rfl⟩
  · exact ⟨its.toList, o, n, hv, KX _ _ e, hc, by simp [hd]⟩
theorem sqT_at {a : Addr} {xs : List V} (hok : HOk P w H h) (KX : K.In h) (q : SqT K H a xs) : ∃ (its : List Value) (o : Obj) (n : Nat), Vals xs its ∧ h.get? a = some o ∧ o.cls = .type "tuple" ∧ o.data = .seq its.toArray n := by
  rcases q with q | ⟨o, its, n, e, hc, hd, _, hv⟩
  · obtain ⟨_, its, hv, o, e, hc, n, hd⟩ := (show ObjOk P w H h a (.tup xs) from q.ok hok)
    exact ⟨its, o, n, hv, e, hc, hd⟩
  · exact ⟨its.toList, o, n, hv, KX _ _ e, hc, by simp [hd]⟩
mutual
theorem Dw.reads (hok : HOk P w H h) (KX : K.In h) : ∀ (d : WData) (v : V) (u : Value), Dw K H v d → RelV v u → ∃ as, ReadsW R cl h u d as
  | .none, _, _, x, r => by
    cases x
    cases r
    exact ⟨_, ReadsW.none⟩
  | .bool b, _, _, x, r => by
    cases x
    cases r
    exact ⟨_, ReadsW.bool b⟩
  | .int i, _, _, x, r => by
    cases x
    obtain ⟨t, rfl⟩ := r
    exact ⟨_, ReadsW.int i t⟩
  | .str s, _, _, x, r => by
    cases x
    obtain ⟨t, rfl⟩ := r
    exact ⟨_, ReadsW.str s t⟩
  | .bytes b, _, _, x, r => by
    cases x
    obtain ⟨t, rfl⟩ := r
    exact ⟨_, ReadsW.bytes _ t⟩
  | .list ds, _, _, x, r => by
    cases x with
    | lst hs ha =>
      cases r
      obtain ⟨its, o, n, rv, ho, hc, hd⟩ := sqL_at hok KX hs
      obtain ⟨as, hr⟩ := Dw.readsAll hok KX ds _ its ha rv
      exact ⟨_, ReadsW.list ho hc hd hr⟩
  | .tuple ds, _, _, x, r => by
    cases x with
    | tup hs ha =>
      cases r
      obtain ⟨its, o, n, rv, ho, hc, hd⟩ := sqT_at hok KX hs
      obtain ⟨as, hr⟩ := Dw.readsAll hok KX ds _ its ha rv
      exact ⟨_, ReadsW.tuple ho hc hd hr⟩
  | .float _, _, _, x, _ => by cases x
  | .dict _, _, _, x, _ => by cases x
  | .bytearray _, _, _, x, _ => by cases x
  | .set _, _, _, x, _ => by cases x
  | .frozenset _, _, _, x, _ => by cases x
  | .obj _ _, _, _, x, _ => by cases x
theorem Dw.readsAll (hok : HOk P w H h) (KX : K.In h) : ∀ (ds : List WData) (vs : List V) (us : List Value), DwAll K H vs ds → Vals vs us → ∃ as, ReadsAllW R cl h us ds as
  | [], _, _, x, r => by
    cases x
    cases r
    exact ⟨_, ReadsAllW.nil⟩
  | d :: ds, _, _, x, r => by
    cases x with
    | cons h1 h2 =>
      cases r with
      | cons r1 r2 =>
        obtain ⟨as, q1⟩ := Dw.reads hok KX d _ _ h1 r1
        obtain ⟨bs, q2⟩ := Dw.readsAll hok KX ds _ _ h2 r2
        exact ⟨_, ReadsAllW.cons q1 q2⟩
end
end
mutual
def plW : WData → Bool
  | .none => true
  | .bool _ => true
  | .int _ => true
  | .str _ => true
  | .bytes _ => true
  | .list xs => plWs xs
  | .tuple xs => plWs xs
  | _ => false
def plWs : List WData → Bool
  | [] => true
  | x :: r => plW x && plWs r
end
theorem plWs_map {α : Type} {f : α → WData} (h : ∀ a, plW (f a) = true) : ∀ l : List α, plWs (l.map f) = true
  | [] => rfl
  | x :: r => by
    show (plW (f x) && plWs (r.map f)) = true
    rw [h x, plWs_map h r] <;> rfl
theorem pl_enc : ∀ (c : Codec) (a : c.denote), plW (c.enc a) = true
  | .unit, _ => rfl
  | .bool, _ => rfl
  | .int _ _, _ => rfl
  | .nat _ _, _ => rfl
  | .u8, _ => rfl
  | .bytes _ _, _ => rfl
  | .text _ _ _ _, _ => rfl
  | .list _ _ c, a => plWs_map (fun x => pl_enc c x) a
  | .pair c d, a => by
    show (plW (c.enc a.1) && (plW (d.enc a.2) && true)) = true
    rw [pl_enc c a.1, pl_enc d a.2] <;> rfl
  | .triple c d e, a => by
    show (plW (c.enc a.1) && (plW (d.enc a.2.1) && (plW (e.enc a.2.2) && true))) = true
    rw [pl_enc c a.1, pl_enc d a.2.1, pl_enc e a.2.2] <;> rfl
  | .option c, none => rfl
  | .option c, some x => pl_enc c x
theorem pl_encAll : ∀ (cs : List Codec) (a : Codec.denoteAll cs), plWs (Codec.encAll cs a) = true
  | [], _ => rfl
  | c :: cs, a => by
    show (plW (c.enc a.1) && plWs (Codec.encAll cs a.2)) = true
    rw [pl_enc c a.1, pl_encAll cs a.2] <;> rfl
theorem weight_mem : ∀ {xs : List WData} {d : WData}, d ∈ xs → d.weight ≤ WData.weightAll xs
  | [], d, h => absurd h (by simp)
  | x :: r, d, h => by
    show d.weight ≤ x.weight + 1 + WData.weightAll r
    rcases List.mem_cons.mp h with e | m
    · rw [e]
      omega
    · have z := weight_mem m
      omega
def toV : Value → V
  | .none => .non
  | .bool b => .bl b
  | .int i _ => .int i
  | .str x _ => .str x
  | .bytes b _ => .byt b
  | .ref a => .ref a
  | _ => .non
def OkU (A : List Addr) : Value → Prop
  | .none => True
  | .bool _ => True
  | .int _ _ => True
  | .str _ _ => True
  | .bytes _ _ => True
  | .ref a => a ∈ A
  | _ => False
theorem OkU.mono {A B : List Addr} (h : ∀ a ∈ A, a ∈ B) : ∀ {u : Value}, OkU A u → OkU B u := fun {u} x => by
  cases u with
  | ref a => exact h a x
  | none => trivial
  | bool b => trivial
  | int i t => trivial
  | str s t => trivial
  | bytes b t => trivial
  | _ => exact False.elim x
theorem relV_toV {A : List Addr} {u : Value} (x : OkU A u) : RelV (toV u) u := by
  cases u with
  | ref a => rfl
  | none => rfl
  | bool b => rfl
  | int i t => exact ⟨t, rfl⟩
  | str s t => exact ⟨t, rfl⟩
  | bytes b t => exact ⟨t, rfl⟩
  | _ => exact False.elim x
theorem vals_toV {A : List Addr} : ∀ {vs : List Value}, (∀ u ∈ vs, OkU A u) → Vals (vs.map toV) vs
  | [], _ => .nil
  | u :: r, h => .cons (relV_toV (h u (List.mem_cons_self ..))) (vals_toV fun x hx => h x (List.mem_cons_of_mem _ hx))
def ArgOb (h : Heap) (A : List Addr) (a : Addr) : Prop := ∃ vs : List Value, vs.length ≤ sizeLine ∧ (∀ u ∈ vs, OkU A u) ∧
  (h.get? a = some { cls := .type "list", data := .seq vs.toArray } ∨ h.get? a = some { cls := .type "tuple", data := .seq vs.toArray })
theorem ArgOb.mono {h : Heap} {A B : List Addr} {a : Addr} (k : ∀ a ∈ A, a ∈ B) (x : ArgOb h A a) : ArgOb h B a := by
  obtain ⟨vs, h1, h2, h3⟩ := x
  exact ⟨vs, h1, fun u hu => (h2 u hu).mono k, h3⟩
theorem wellAll_len {P : Params} {h : Heap} : ∀ {vs : List Value} {ds : List WData}, WellAll P h vs ds → vs.length = ds.length
  | _, _, .nil => rfl
  | _, _, .cons _ b => by
    show _ + 1 = _ + 1
    rw [wellAll_len b]
theorem well_list {P : Params} {h : Heap} {v : Value} {ds : List WData} (x : Well P h v (.list ds)) : ∃ (a : Addr) (vs : List Value), v = .ref a ∧ h.get? a = some { cls := .type "list", data := .seq vs.toArray } ∧ WellAll P h vs ds := by
  cases x with
  | list ho hall => exact ⟨_, _, rfl, ho, hall⟩
theorem well_tuple {P : Params} {h : Heap} {v : Value} {ds : List WData} (x : Well P h v (.tuple ds)) : ∃ (a : Addr) (vs : List Value), v = .ref a ∧ h.get? a = some { cls := .type "tuple", data := .seq vs.toArray } ∧ WellAll P h vs ds := by
  cases x with
  | tuple ho hall => exact ⟨_, _, rfl, ho, hall⟩
theorem well_cons {P : Params} {h : Heap} {us : List Value} {d : WData} {ds : List WData} (x : WellAll P h us (d :: ds)) : ∃ (v : Value) (vs : List Value), us = v :: vs ∧ Well P h v d ∧ WellAll P h vs ds := by
  cases x with
  | cons a b => exact ⟨_, _, rfl, a, b⟩
theorem line_of {n : Nat} (h : n ≤ 1048576) : n ≤ sizeLine := Nat.le_trans h (by decide)
section
variable {P : Params} {h : Heap}
mutual
theorem area_one : ∀ (d : WData) (v : Value), Well P h v d → plW d = true → d.weight ≤ 1048576 → ∃ A : List Addr, OkU A v ∧ ∀ a ∈ A, ArgOb h A a
  | .none, _, x, _, _ => by
    cases x
    exact ⟨[], trivial, fun a m => absurd m (by simp)⟩
  | .bool b, _, x, _, _ => by
    cases x
    exact ⟨[], trivial, fun a m => absurd m (by simp)⟩
  | .int i, _, x, _, _ => by
    cases x
    exact ⟨[], trivial, fun a m => absurd m (by simp)⟩
  | .str s, _, x, _, _ => by
    cases x
    exact ⟨[], trivial, fun a m => absurd m (by simp)⟩
  | .bytes b, _, x, _, _ => by
    cases x
    exact ⟨[], trivial, fun a m => absurd m (by simp)⟩
  | .list ds, _, x, p, z => by
    obtain ⟨a, vs, rfl, ho, hall⟩ := well_list x
    have z2 : WData.weightAll ds ≤ 1048576 := z
    obtain ⟨A, h1, h2⟩ := area_all ds _ hall p fun d hd => Nat.le_trans (weight_mem hd) z2
    have k : ∀ b ∈ A, b ∈ a :: A := fun b hb => List.mem_cons_of_mem _ hb
    refine ⟨a :: A, List.mem_cons_self .., fun b hb => ?_⟩
    rcases List.mem_cons.mp hb with e | m
    · rw [e]
      exact ⟨vs, line_of (by rw [wellAll_len hall]; exact Nat.le_trans (PySem.W.length_le_weightAllW ds) z2), fun u hu => (h1 u hu).mono k, .inl ho⟩
    · exact (h2 b m).mono k
  | .tuple ds, _, x, p, z => by
    obtain ⟨a, vs, rfl, ho, hall⟩ := well_tuple x
    have z2 : WData.weightAll ds ≤ 1048576 := z
    obtain ⟨A, h1, h2⟩ := area_all ds _ hall p fun d hd => Nat.le_trans (weight_mem hd) z2
    have k : ∀ b ∈ A, b ∈ a :: A := fun b hb => List.mem_cons_of_mem _ hb
    refine ⟨a :: A, List.mem_cons_self .., fun b hb => ?_⟩
    rcases List.mem_cons.mp hb with e | m
    · rw [e]
      exact ⟨vs, line_of (by rw [wellAll_len hall]; exact Nat.le_trans (PySem.W.length_le_weightAllW ds) z2), fun u hu => (h1 u hu).mono k, .inr ho⟩
    · exact (h2 b m).mono k
  | .float _, _, _, p, _ => Bool.noConfusion (show false = true from p)
  | .dict _, _, _, p, _ => Bool.noConfusion (show false = true from p)
  | .bytearray _, _, _, p, _ => Bool.noConfusion (show false = true from p)
  | .set _, _, _, p, _ => Bool.noConfusion (show false = true from p)
  | .frozenset _, _, _, p, _ => Bool.noConfusion (show false = true from p)
  | .obj _ _, _, _, p, _ => Bool.noConfusion (show false = true from p)
theorem area_all : ∀ (ds : List WData) (vs : List Value), WellAll P h vs ds → plWs ds = true → (∀ d ∈ ds, d.weight ≤ 1048576) → ∃ A : List Addr, (∀ u ∈ vs, OkU A u) ∧ ∀ a ∈ A, ArgOb h A a
  | [], _, x, _, _ => by
    cases x
    exact ⟨[], fun u m => absurd m (by simp), fun a m => absurd m (by simp)⟩
  | d :: ds, _, x, p, z => by
    obtain ⟨v, vs, rfl, x1, x2⟩ := well_cons x
    have q : plW d = true ∧ plWs ds = true := Bool.and_eq_true_iff.mp p
    obtain ⟨A, a1, a2⟩ := area_one d v x1 q.1 (z d (List.mem_cons_self ..))
    obtain ⟨B, b1, b2⟩ := area_all ds vs x2 q.2 fun e he => z e (List.mem_cons_of_mem _ he)
    have kA : ∀ b ∈ A, b ∈ A ++ B := fun b hb => List.mem_append.mpr (.inl hb)
    have kB : ∀ b ∈ B, b ∈ A ++ B := fun b hb => List.mem_append.mpr (.inr hb)
    refine ⟨A ++ B, fun u hu => ?_, fun b hb => ?_⟩
    · rcases List.mem_cons.mp hu with e | m
      · rw [e]
        exact a1.mono kA
      · exact (b1 u m).mono kB
    · rcases List.mem_append.mp hb with m | m
      · exact (a2 b m).mono kA
      · exact (b2 b m).mono kB
end
end
def hoOf (o : Obj) : Option HO := match o.data with
  | .seq vs _ => if (o.cls == Value.type "list") = true then some (.frz o (.lst (vs.toList.map toV))) else some (.frz o (.tup (vs.toList.map toV)))
  | _ => none
def argH (K : PySem.W.Frag) (h : Heap) (A : List Addr) : Hp := fun b => if b ∈ A then (if (K.lookup b).isNone = true then (h.get? b).bind hoOf else none) else none
def OnlyF (H : Hp) : Prop := ∀ b, H b = none ∨ ∃ o u, H b = some (.frz o u)
theorem hoOf_lst (vs : List Value) : hoOf { cls := .type "list", data := .seq vs.toArray } = some (.frz { cls := .type "list", data := .seq vs.toArray } (.lst (vs.map toV))) := by
  show (if (Value.type "list" == Value.type "list") = true then some (HO.frz { cls := .type "list", data := .seq vs.toArray } (.lst (vs.toArray.toList.map toV))) else some (HO.frz { cls := .type "list", data := .seq vs.toArray } (.tup (vs.toArray.toList.map toV)))) = _
  rw [if_pos (beq_self_eq_true _)]
theorem hoOf_tup (vs : List Value) : hoOf { cls := .type "tuple", data := .seq vs.toArray } = some (.frz { cls := .type "tuple", data := .seq vs.toArray } (.tup (vs.map toV))) := by
  show (if (Value.type "tuple" == Value.type "list") = true then some (HO.frz { cls := .type "tuple", data := .seq vs.toArray } (.lst (vs.toArray.toList.map toV))) else some (HO.frz { cls := .type "tuple", data := .seq vs.toArray } (.tup (vs.toArray.toList.map toV)))) = _
  rw [if_neg (by decide)]
section
variable {P : Program} {w : World} {K : PySem.W.Frag} {h : Heap} {A : List Addr}
theorem argH_at {b : Addr} {o : Obj} (hb : b ∈ A) (hk : K.lookup b = none) (e : h.get? b = some o) : argH K h A b = hoOf o := by
  unfold argH
  rw [if_pos hb, hk, if_pos (show (none : Option Obj).isNone = true from rfl), e] <;> rfl
theorem of_argH {b : Addr} {u : HO} (q : argH K h A b = some u) : b ∈ A ∧ K.lookup b = none := by
  unfold argH at q
  by_cases hb : b ∈ A
  · rw [if_pos hb] at q
    cases hk : K.lookup b with
    | none => exact ⟨hb, rfl⟩
    | some o =>
      rw [hk, if_neg (by simp)] at q
      cases q
  · rw [if_neg hb] at q
    cases q
theorem argH_is (ar : ∀ a ∈ A, ArgOb h A a) {b : Addr} {u : HO} (q : argH K h A b = some u) : K.lookup b = none ∧ ∃ vs : List Value, vs.length ≤ sizeLine ∧ (∀ u ∈ vs, OkU A u) ∧
    ((h.get? b = some { cls := .type "list", data := .seq vs.toArray } ∧ u = .frz { cls := .type "list", data := .seq vs.toArray } (.lst (vs.map toV))) ∨
     (h.get? b = some { cls := .type "tuple", data := .seq vs.toArray } ∧ u = .frz { cls := .type "tuple", data := .seq vs.toArray } (.tup (vs.map toV)))) := by
  obtain ⟨hb, hk⟩ := of_argH q
  obtain ⟨vs, h1, h2, h3⟩ := ar b hb
  refine ⟨hk, vs, h1, h2, ?_⟩
  rcases h3 with e | e
  · rw [argH_at hb hk e, hoOf_lst] at q
    exact .inl ⟨e, (Option.some.inj q).symm⟩
  · rw [argH_at hb hk e, hoOf_tup] at q
    exact .inr ⟨e, (Option.some.inj q).symm⟩
theorem argH_only (ar : ∀ a ∈ A, ArgOb h A a) : OnlyF (argH K h A) := fun b => by
  cases q : argH K h A b with
  | none => exact .inl rfl
  | some u =>
    obtain ⟨_, vs, _, _, ⟨_, e⟩ | ⟨_, e⟩⟩ := argH_is ar q
    · exact .inr ⟨_, _, by rw [e]⟩
    · exact .inr ⟨_, _, by rw [e]⟩
theorem argH_ok (ar : ∀ a ∈ A, ArgOb h A a) : HOk P w (argH K h A) h := fun b u q => by
  obtain ⟨_, vs, h1, h2, ⟨e, rfl⟩ | ⟨e, rfl⟩⟩ := argH_is ar q
  · exact ⟨e, by rw [List.length_map]; exact h1, vs, _, vals_toV h2, e⟩
  · exact ⟨e, by rw [List.length_map]; exact h1, vs, vals_toV h2, _, e, rfl, _, rfl⟩
theorem seq_inj {c c' : Value} {vs us : List Value} (e : (some { cls := c, data := .seq vs.toArray } : Option Obj) = some { cls := c', data := .seq us.toArray }) : c = c' ∧ vs = us := by
  have e1 := Option.some.inj e
  have e2 : c = c' := congrArg Obj.cls e1
  have e3 : Data.seq vs.toArray = Data.seq us.toArray := congrArg Obj.data e1
  injection e3 with e4
  refine ⟨e2, ?_⟩
  have e5 := congrArg Array.toList e4
  simpa using e5
theorem argL (KX : K.In h) (ar : ∀ a ∈ A, ArgOb h A a) {a : Addr} {vs : List Value} (ha : a ∈ A) (e : h.get? a = some { cls := .type "list", data := .seq vs.toArray }) : (∀ u ∈ vs, OkU A u) ∧ SqL K (argH K h A) a (vs.map toV) := by
  obtain ⟨us, h1, h2, h3⟩ := ar a ha
  have hu : us = vs := by
    rcases h3 with q | q
    · rw [e] at q
      exact (seq_inj q).2.symm
    · rw [e] at q
      exact absurd (Value.type.inj (seq_inj q).1) (by decide)
  subst hu
  refine ⟨h2, ?_⟩
  cases hk : K.lookup a with
  | none => exact .inl (.inr ⟨_, by rw [argH_at ha hk e, hoOf_lst]⟩)
  | some o =>
    have e2 := KX a o hk
    rw [e] at e2
    obtain rfl := Option.some.inj e2
    exact .inr ⟨_, us.toArray, _, hk, rfl, rfl, rfl, by rw [List.size_toArray]; exact h1, by simpa using vals_toV h2⟩
theorem argT (KX : K.In h) (ar : ∀ a ∈ A, ArgOb h A a) {a : Addr} {vs : List Value} (ha : a ∈ A) (e : h.get? a = some { cls := .type "tuple", data := .seq vs.toArray }) : (∀ u ∈ vs, OkU A u) ∧ SqT K (argH K h A) a (vs.map toV) := by
  obtain ⟨us, h1, h2, h3⟩ := ar a ha
  have hu : us = vs := by
    rcases h3 with q | q
    · rw [e] at q
      exact absurd (Value.type.inj (seq_inj q).1) (by decide)
    · rw [e] at q
      exact (seq_inj q).2.symm
  subst hu
  refine ⟨h2, ?_⟩
  cases hk : K.lookup a with
  | none => exact .inl (.inr ⟨_, by rw [argH_at ha hk e, hoOf_tup]⟩)
  | some o =>
    have e2 := KX a o hk
    rw [e] at e2
    obtain rfl := Option.some.inj e2
    exact .inr ⟨_, us.toArray, _, hk, rfl, rfl, by rw [List.size_toArray]; exact h1, by simpa using vals_toV h2⟩
mutual
theorem dw_one {Pm : Params} (KX : K.In h) (ar : ∀ a ∈ A, ArgOb h A a) : ∀ (d : WData) (v : Value), Well Pm h v d → plW d = true → OkU A v → Dw K (argH K h A) (toV v) d
  | .none, _, x, _, _ => by
    cases x
    exact .non
  | .bool b, _, x, _, _ => by
    cases x
    exact .bl b
  | .int i, _, x, _, _ => by
    cases x
    exact .int i
  | .str s, _, x, _, _ => by
    cases x
    exact .str s
  | .bytes b, _, x, _, _ => by
    cases x
    have z := Dw.byt (K := K) (H := argH K h A) b.toArray
    exact z
  | .list ds, _, x, p, hu => by
    obtain ⟨a, vs, rfl, ho, hall⟩ := well_list x
    obtain ⟨h2, hs⟩ := argL KX ar hu ho
    exact .lst hs (dw_all KX ar ds _ hall p h2)
  | .tuple ds, _, x, p, hu => by
    obtain ⟨a, vs, rfl, ho, hall⟩ := well_tuple x
    obtain ⟨h2, hs⟩ := argT KX ar hu ho
    exact .tup hs (dw_all KX ar ds _ hall p h2)
  | .float _, _, _, p, _ => Bool.noConfusion (show false = true from p)
  | .dict _, _, _, p, _ => Bool.noConfusion (show false = true from p)
  | .bytearray _, _, _, p, _ => Bool.noConfusion (show false = true from p)
  | .set _, _, _, p, _ => Bool.noConfusion (show false = true from p)
  | .frozenset _, _, _, p, _ => Bool.noConfusion (show false = true from p)
  | .obj _ _, _, _, p, _ => Bool.noConfusion (show false = true from p)
theorem dw_all {Pm : Params} (KX : K.In h) (ar : ∀ a ∈ A, ArgOb h A a) : ∀ (ds : List WData) (vs : List Value), WellAll Pm h vs ds → plWs ds = true → (∀ u ∈ vs, OkU A u) → DwAll K (argH K h A) (vs.map toV) ds
  | [], _, x, _, _ => by
    cases x
    exact .nil
  | d :: ds, _, x, p, hu => by
    obtain ⟨v, vs, rfl, x1, x2⟩ := well_cons x
    have q : plW d = true ∧ plWs ds = true := Bool.and_eq_true_iff.mp p
    exact .cons (dw_one KX ar d v x1 q.1 (hu _ (List.mem_cons_self ..))) (dw_all KX ar ds vs x2 q.2 fun u m => hu u (List.mem_cons_of_mem _ m))
end
end
theorem spec_call {P : Program} {w : World} {K : PySem.W.Frag} {mg mb : Str → Option Value} {CX : CXT} {k : Nat} {fa : Addr} {fd : FuncData} {ps : List Str} {sp : Sp} {s₁ : Shared} {vals : List Value} {ds : List WData} {R : PySem.W.WRecords} {cl : Str → Option Addr} {d0 : WData}
    (KX : K.In s₁.heap) (hns : s₁.heap.Ns mainGlobals mg) (hb : s₁.heap.Ns builtinsNs mb) (hbb : ∀ x : Str, x ≠ "__name__" → mb x = bootBuiltins x) (hlim : s₁.heap.NoLimit) (hg : s₁.gens = #[])
    (hwl : WellAll w.params s₁.heap vals ds) (hpl : plWs ds = true) (hwt : ∀ d ∈ ds, d.weight ≤ 1048576) (hr : Room k callerA)
    (F : ∀ base : Heap, K.In base → base.Ns mainGlobals mg → FnOk P w K mg base CX k fa fd ps sp) (hbind : ∀ (s : Shared) (us : List Value), us.length = ps.length → BindsTo s fd ⟨us, []⟩ (ps.zip us)) (hlen : ds.length = ps.length)
    (hsp : ∀ (H : Hp) (xs : List V), OnlyF H → DwAll K H xs ds → sp xs H (fun v H' => Dw K H' v d0) fun _ _ _ => False)
    (hCX : ∀ H e s', CX [] H s₁ (fun _ _ _ => False) e s' → False) :
    codeAny (model P w) callerA (.call (.ref fa) ⟨vals, []⟩) (fun r s' => ∃ u as, r = .ok (.ret u) ∧ ReadsW R cl s'.heap u d0 as ∧ OldK s₁.heap s'.heap ∧ s'.os = s₁.os ∧ AllBare s'.gens) s₁ := by
  obtain ⟨A, ho, ar⟩ := area_all ds vals hwl hpl hwt
  have hO : OnlyF (argH K s₁.heap A) := argH_only ar
  have hok : HOk P w (argH K s₁.heap A) s₁.heap := argH_ok ar
  have hS := dw_all KX ar ds vals hwl hpl ho
  have hV := vals_toV ho
  have hK : ∀ b u, argH K s₁.heap A b = some u → K.lookup b = none := fun b u q => (argH_is ar q).1
  have noA : ∀ {b : Addr} {o : Obj} {es : Array DictEntry} {ep : Nat}, s₁.heap.get? b = some o → o.data = .dict es ep → argH K s₁.heap A b = none := fun {b o es ep} e d => by
    cases q : argH K s₁.heap A b with
    | none => rfl
    | some u =>
      obtain ⟨_, vs, _, _, ⟨e2, _⟩ | ⟨e2, _⟩⟩ := argH_is ar q
      · rw [e2] at e
        cases e
        have d' : Data.seq vs.toArray _ = Data.dict es ep := d
        cases d'
      · rw [e2] at e
        cases e
        have d' : Data.seq vs.toArray _ = Data.dict es ep := d
        cases d'
  generalize argH K s₁.heap A = H at hO hok hS hK noA
  have base_of : ∀ {b : Addr} {o : Obj}, s₁.heap.get? b = some o → H b = none → (hidT s₁.heap H).get? b = some o := fun e n => hidT_get e n
  have nsK : ∀ {b : Addr} {m : Str → Option Value}, s₁.heap.Ns b m → (hidT s₁.heap H).Ns b m := fun {b m} ⟨o, es, ep, e, d, r⟩ => ⟨o, es, ep, base_of e (noA e d), d, r⟩
  have nK : ∀ b o, K.lookup b = some o → H b = none := fun b o e => by
    cases q : H b with
    | none => rfl
    | some u =>
      rw [hK b u q] at e
      cases e
  have hKb : K.In (hidT s₁.heap H) := fun b o e => base_of (KX b o e) (nK b o e)
  have hM : Mod K mg (hidT s₁.heap H) := ⟨hKb, nsK hns, ⟨mb, nsK hb, hbb⟩, let ⟨mc, h1, h2⟩ := hlim; ⟨mc, nsK h1, h2⟩⟩
  have e0 : Env0 P w K mg (hidT s₁.heap H) callerA [] s₁ H := ⟨rfl, hM, fun b o e => of_hidT e, Nat.le_of_eq (hidT_size _ _), trivial, fun b hb => absurd (show b ∈ ([] : List Addr) from hb) (by simp), hok, .of_eq hg⟩
  have hl : vals.length = ps.length := by rw [wellAll_len hwl]; exact hlen
  refine codeAny_mono ((F _ hKb (nsK hns)).run callerA [] s₁ H ⟨vals, []⟩ vals (vals.map toV) _ _ hr e0 (hbind s₁ vals hl) hV (hsp H _ hO hS)) fun r s' x => ?_
  cases r with
  | error e => exact (hCX H e s' x).elim
  | ok fl =>
    cases fl with
    | next => exact False.elim x
    | brk => exact False.elim x
    | cont => exact False.elim x
    | ret u =>
      obtain ⟨v, H', os, bare, un, hok', r', q⟩ := x
      have kept : ∀ b o, s₁.heap.get? b = some o → s'.heap.get? b = some o := fun b o e => by
        cases q2 : H b with
        | none => exact un.keep b o e q2 (by intro z; exact absurd (show b ∈ ([] : List Addr) from z) (by simp)) (by simp)
        | some u2 =>
          rcases hO b with z | ⟨ob, u3, z⟩
          · rw [q2] at z
            cases z
          · have z2 := un.frzs b ob _ z
            obtain ⟨e1, _⟩ := hok b _ z
            obtain ⟨e2, _⟩ := hok' b _ z2
            rw [e] at e1
            cases e1
            exact e2
      have KX' : K.In s'.heap := fun b o e => kept b o (KX b o e)
      obtain ⟨as, hrd⟩ := Dw.reads (R := R) (cl := cl) hok' KX' d0 v u q r'
      exact ⟨u, as, rfl, hrd, OldK.of_keep kept, os, bare⟩
theorem layable_weight {ds : List WData} (h : WData.layableAll ds = true) : ∀ d ∈ ds, d.weight ≤ 1048576 := fun d hd =>
  (PySem.W.layableW_iff.mp (List.all_eq_true.mp h d hd)).2.2
theorem encAll_len : ∀ (cs : List Codec) (a : Codec.denoteAll cs), (Codec.encAll cs a).length = cs.length
  | [], _ => rfl
  | c :: cs, a => by
    show (Codec.encAll cs a.2).length + 1 = cs.length + 1
    rw [encAll_len cs a.2]
theorem walk_spec {r : OpenSpec} {k : Nat} {q : Program} {loose : List Str} {XP : (Str → Option Value) → Heap → Prop} {YP : World → Heap → Prop} {d : DefRec} {K : Params → PySem.W.Frag} {CX : World → CXT} {ps : List Str} {sp : World → Sp}
    (hwell : r.wellSaid = true) (hdf : d.params.defaults = []) (hlen : r.args.length = ps.length) (hr : Room k callerA)
    (hY : ∀ (w : World) (h : Heap), YP w h → (K w.params).In h)
    (F : ∀ (w : World) (mg : Str → Option Value) (fa : Addr) (h : Heap), YP w h → (K w.params).In h → h.Ns mainGlobals mg → mg d.name = some (.ref fa) →
      ∃ fd : FuncData, (∀ (s : Shared) (us : List Value), us.length = ps.length → BindsTo s fd ⟨us, []⟩ (ps.zip us)) ∧
        ∀ base : Heap, (K w.params).In base → base.Ns mainGlobals mg → FnOk r.prog w (K w.params) mg base (CX w) k fa fd ps (sp w))
    (hsp : ∀ (w : World) (H : Hp) (xs : List V) (a : Codec.denoteAll r.args), OnlyF H → Codec.withinAll r.args a = true → Codec.app r.args r.asked a = true → DwAll (K w.params) H xs (Codec.encAll r.args a) →
      sp w xs H (fun v H' => Dw (K w.params) H' v (r.ret.enc (Codec.app r.args r.f a))) fun _ _ _ => False)
    (hCX : ∀ (w : World) (H : Hp) (s : Shared) (e : Value) (s' : Shared), CX w [] H s (fun _ _ _ => False) e s' → False) :
    PySem.W.WalkOS q loose XP YP r d [] (fun f vs => PySem.call f vs) := by
  intro w s_0 s₁ mg mb G Y fa o pm cd doc dV kV ho hd hcd hD hmg hg args vals as hpre hlay hrd hwl hlo
  obtain ⟨a, e1, e2⟩ := PySem.W.os_pre_some hpre
  obtain ⟨e3, hwi⟩ := Codec.encAll_of_decAll r.args args a e1
  subst e3
  have KX := hY w _ Y
  obtain ⟨fd, hb, hF⟩ := F w mg fa _ Y KX G.T.g hmg
  refine PySem.W.enter_call (codeAny_mono (spec_call (R := []) (cl := classAt s_0.heap) (d0 := r.ret.enc (Codec.app r.args r.f a)) KX G.T.g G.T.b G.T.builtins G.T.nolimit hg hwl (pl_encAll _ _) (layable_weight hlay) hr hF hb (by rw [encAll_len]; exact hlen)
    (fun H xs hO hS => hsp w H xs a hO hwi e2 hS) fun H e s' => hCX w H s₁ e s') fun r' s' hq => ?_)
  obtain ⟨u, as', rfl, h1, h2, h3, h4⟩ := hq
  exact ⟨.inl ⟨u, _, as', rfl, fun _ => rfl, h1, (OpenSpec.post_iff hwell hwi _ _).mpr rfl, fun z => Bool.noConfusion (show false = true from z)⟩, h2, h3, h4⟩
theorem walk_specK {r : OpenSpec} {k : Nat} {q : Program} {loose : List Str} {XP : (Str → Option Value) → Heap → Prop} {YP : World → Heap → Prop} {d : DefRec} {K : Params → PySem.W.Frag} {CX : CXT} {ps : List Str} {sp : PySem.W.Frag → Sp}
    (hwell : r.wellSaid = true) (hdf : d.params.defaults = []) (hlen : r.args.length = ps.length) (hr : Room k callerA)
    (hY : ∀ (w : World) (h : Heap), YP w h → (K w.params).In h)
    (F : ∀ (w : World) (mg : Str → Option Value) (fa : Addr) (h : Heap), YP w h → (K w.params).In h → h.Ns mainGlobals mg → mg d.name = some (.ref fa) →
      ∃ fd : FuncData, (∀ (s : Shared) (us : List Value), us.length = ps.length → BindsTo s fd ⟨us, []⟩ (ps.zip us)) ∧
        ∀ base : Heap, (K w.params).In base → base.Ns mainGlobals mg → FnOk r.prog w (K w.params) mg base CX k fa fd ps (sp (K w.params)))
    (hsp : ∀ (K : PySem.W.Frag) (H : Hp) (xs : List V) (a : Codec.denoteAll r.args), OnlyF H → Codec.withinAll r.args a = true → Codec.app r.args r.asked a = true → DwAll K H xs (Codec.encAll r.args a) →
      sp K xs H (fun v H' => Dw K H' v (r.ret.enc (Codec.app r.args r.f a))) fun _ _ _ => False)
    (hCX : ∀ (H : Hp) (s : Shared) (e : Value) (s' : Shared), CX [] H s (fun _ _ _ => False) e s' → False) :
    PySem.W.WalkOS q loose XP YP r d [] (fun f vs => PySem.call f vs) :=
  walk_spec (K := K) (CX := fun _ => CX) (sp := fun w => sp (K w.params)) hwell hdf hlen hr hY F (fun w H xs a h1 h2 h3 h4 => hsp (K w.params) H xs a h1 h2 h3 h4) fun _ H s e s' => hCX H s e s'
end L2
end
end
section
set_option Elab.async false
set_option linter.all false
set_option maxRecDepth 100000
set_option maxHeartbeats 4000000
namespace Lk
open PySem PySem.Spec PyProof.Rows L2
def top (i : Nat) : Stmt := PySem.Challenge.pw_likeliersets_s01_answers.main.body.getD i (.Pass ⟨0, 0, 0, 0⟩)
section
variable {X : Cx}
theorem pgi {x : Str} {i : Int} {pos : Pos} (hm : ∃ t, X.mg x = some (Value.int i t)) (hg : Gl X x := by rfl) (hd : (x == ("__debug__" : Str)) = false := by decide) : PE X (.Name x pos) (tC (.int i)) :=
  let ⟨t, h⟩ := hm
  pe_glob hg h ⟨t, rfl⟩ hd
end
section
variable {X : Cx}
theorem vals3 {a b c : V} {us : List Value} (r : Vals [a, b, c] us) : ∃ u v x, us = [u, v, x] ∧ RelV a u ∧ RelV b v ∧ RelV c x := by
  cases r with
  | cons r1 r => cases r with
    | cons r2 r => cases r with
      | cons r3 r => cases r; exact ⟨_, _, _, rfl, r1, r2, r3⟩
theorem call_max3 (hc : X.calm = true) : CallR X (.builtin "max") (fun xs H Q => ∃ i j k : Nat, xs = [.int i, .int j, .int k] ∧ Q (.int ((max i (max j k) : Nat) : Int)) H) := by
  intro pins s σ H xs us Q I r h
  obtain ⟨i, j, k, rfl, q⟩ := h
  obtain ⟨u, w', x, rfl, ⟨t, rfl⟩, ⟨t', rfl⟩, ⟨t'', rfl⟩⟩ := vals3 r
  refine max_three_ints (I.ok.hd hc) fun h' tk kk => ⟨_, H, I.kept kk, ?_, q⟩
  by_cases h1 : (j : Int) > i
  · rw [if_pos h1]
    by_cases h2 : (k : Int) > j
    · rw [if_pos h2]; exact ⟨_, by rw [show ((max i (max j k) : Nat) : Int) = (k : Int) by omega]⟩
    · rw [if_neg h2]; exact ⟨_, by rw [show ((max i (max j k) : Nat) : Int) = (j : Int) by omega]⟩
  · rw [if_neg h1]
    by_cases h2 : (k : Int) > i
    · rw [if_pos h2]; exact ⟨_, by rw [show ((max i (max j k) : Nat) : Int) = (k : Int) by omega]⟩
    · rw [if_neg h2]; exact ⟨_, by rw [show ((max i (max j k) : Nat) : Int) = (i : Int) by omega]⟩
theorem call_max2n (hc : X.calm = true) : CallR X (.builtin "max") (fun xs H Q => ∃ i j : Nat, xs = [.int i, .int j] ∧ Q (.int ((max i j : Nat) : Int)) H) := by
  intro pins s σ H xs us Q I r h
  obtain ⟨i, j, rfl, q⟩ := h
  refine call_max2 hc pins s σ H _ us Q I r ⟨_, _, rfl, ?_⟩
  have e : (if (j : Int) > (i : Int) then (j : Int) else (i : Int)) = ((max i j : Nat) : Int) := by split <;> omega
  rw [e]
  exact q
end
theorem Same.new {H : Hp} {p : Addr} {o : HO} (h : H p = none) : Same H (upd H p o) := fun b u e => by
  rw [upd_ne (ne_of_none e h)]; exact e
theorem Same.put {H0 H : Hp} {p : Addr} {o : HO} (s : Same H0 H) (h : H0 p = none) : Same H0 (upd H p o) := fun b u e => by
  rw [upd_ne (ne_of_none e h)]; exact s b u e
def But (p : Addr) (H H' : Hp) : Prop := ∀ b o, H b = some o → b ≠ p → H' b = some o
theorem But.same {H0 H H' : Hp} {p : Addr} (s : Same H0 H) (h : H0 p = none) (k : But p H H') : Same H0 H' := fun b o e => k b o (s b o e) (ne_of_none e h)
def nums (n : Nat) (f : Nat → Nat) : List V := (List.range n).map fun b => V.int ((f b : Nat) : Int)
theorem nums_length (n : Nat) (f : Nat → Nat) : (nums n f).length = n := by unfold nums; rw [List.length_map, List.length_range]
theorem nums_get {n : Nat} {f : Nat → Nat} {b : Nat} (h : b < n) : (nums n f)[b]? = some (V.int ((f b : Nat) : Int)) := by
  unfold nums
  rw [List.getElem?_map, List.getElem?_range h]
  rfl
theorem nums_snoc (n : Nat) (f : Nat → Nat) : nums (n + 1) f = nums n f ++ [V.int ((f n : Nat) : Int)] := by
  unfold nums
  rw [List.range_succ, List.map_append]
  rfl
theorem nums_congr {n : Nat} {f g : Nat → Nat} (h : ∀ b, b < n → f b = g b) : nums n f = nums n g := by
  unfold nums
  refine List.map_congr_left fun b hb => ?_
  rw [h b (List.mem_range.mp hb)]
theorem nums_inj {n : Nat} {f g : Nat → Nat} (h : nums n f = nums n g) : ∀ b, b < n → f b = g b := fun b hb => by
  have e := nums_get (f := f) hb
  rw [h, nums_get hb] at e
  have e2 := Option.some.inj e
  injection e2 with e3
  omega
theorem nums_set {n : Nat} {f : Nat → Nat} {j v : Nat} (hj : j < n) : (nums n f).set j (V.int (v : Int)) = nums n (fun b => if b = j then v else f b) := by
  apply List.ext_getElem?
  intro b
  by_cases hb : b < n
  · rw [nums_get hb]
    by_cases e : b = j
    · subst e
      rw [List.getElem?_set_self (by rw [nums_length]; exact hj), if_pos rfl]
    · rw [List.getElem?_set_ne (fun q => e q.symm), nums_get hb, if_neg e]
  · rw [List.getElem?_eq_none (by rw [List.length_set, nums_length]; omega), List.getElem?_eq_none (by rw [nums_length]; omega)]
theorem nums_ne_refs {n : Nat} {f : Nat → Nat} {as : List Addr} (h0 : 0 < n) : HO.lst (nums n f) ≠ HO.lst (as.map V.ref) := fun e => by
  injection e with e1
  have e2 := nums_get (f := f) h0
  rw [e1, List.getElem?_map] at e2
  cases q : as[0]? with
  | none => rw [q] at e2; cases e2
  | some a => rw [q] at e2; cases e2
structure TabA (H : Hp) (p : Addr) (as : List Addr) (n : Nat) (v : Nat → Nat → Nat) : Prop where
  len : as.length = n
  lst : H p = some (.lst (as.map V.ref))
  row : ∀ a r, as[a]? = some r → H r = some (.lst (nums n (v a)))
def Tab (H : Hp) (p : Addr) (n : Nat) (v : Nat → Nat → Nat) : Prop := ∃ as, TabA H p as n v
theorem TabA.same {H H' : Hp} {p : Addr} {as : List Addr} {n : Nat} {v : Nat → Nat → Nat} (s : Same H H') (t : TabA H p as n v) : TabA H' p as n v := ⟨t.len, s _ _ t.lst, fun a r e => s _ _ (t.row a r e)⟩
theorem Tab.same {H H' : Hp} {p : Addr} {n : Nat} {v : Nat → Nat → Nat} (s : Same H H') (t : Tab H p n v) : Tab H' p n v := let ⟨as, t⟩ := t; ⟨as, t.same s⟩
theorem TabA.congr {H : Hp} {p : Addr} {as : List Addr} {n : Nat} {v w : Nat → Nat → Nat} (h : ∀ a b, a < n → b < n → v a b = w a b) (t : TabA H p as n v) : TabA H p as n w :=
  ⟨t.len, t.lst, fun a r e => by
    have ha : a < n := by rw [← t.len]; exact (List.getElem?_eq_some_iff.mp e).1
    rw [t.row a r e, nums_congr fun b hb => h a b ha hb]⟩
theorem TabA.get {H : Hp} {p : Addr} {as : List Addr} {n : Nat} {v : Nat → Nat → Nat} (t : TabA H p as n v) {a : Nat} (ha : a < n) : ∃ r, as[a]? = some r ∧ (as.map V.ref)[a]? = some (V.ref r) ∧ H r = some (.lst (nums n (v a))) := by
  obtain ⟨r, hr⟩ : ∃ r, as[a]? = some r := ⟨_, List.getElem?_eq_getElem (by rw [t.len]; exact ha)⟩
  exact ⟨r, hr, by rw [List.getElem?_map, hr]; rfl, t.row a r hr⟩
def Part (H : Hp) (D : Addr) (n : Nat) (v : Nat → Nat → Nat) (i : Nat) (H' : Hp) : Prop :=
  Same H H' ∧ ∃ as : List Addr, as.length = i ∧ H' D = some (.lst (as.map V.ref)) ∧ as.Nodup ∧ (∀ r ∈ as, H r = none) ∧ ∀ a r, as[a]? = some r → H' r = some (.lst (nums n (v a)))
theorem Part.start {H : Hp} {D : Addr} {n : Nat} {v : Nat → Nat → Nat} (hD : H D = none) : Part H D n v 0 (upd H D (.lst [])) :=
  ⟨Same.new hD, [], rfl, upd_same, List.nodup_nil, fun r h => (by cases h), fun a r e => (by simp at e)⟩
theorem snoc_get {α : Type} {l : List α} {x y : α} {i : Nat} (h : (l ++ [x])[i]? = some y) : l[i]? = some y ∨ (i = l.length ∧ x = y) := by
  by_cases hi : i < l.length
  · rw [List.getElem?_append_left hi] at h; exact .inl h
  · rw [List.getElem?_append_right (by omega)] at h
    have e : i - l.length = 0 := by
      rcases Nat.lt_or_ge (i - l.length) 1 with q | q
      · omega
      · rw [List.getElem?_eq_none (by simpa using q)] at h; cases h
    rw [e] at h
    exact .inr ⟨by omega, Option.some.inj h⟩
theorem Part.step {H H' H2 : Hp} {D p : Addr} {n i : Nat} {v : Nat → Nat → Nat} (h0 : 0 < n) (hD : H D = none) (P : Part H D n v i H') (hp : H' p = none) (s : Same H' H2) (hr : H2 p = some (.lst (nums n (v i)))) :
    ∃ acc, H2 D = some (.lst acc) ∧ acc.length = i ∧ Part H D n v (i + 1) (upd H2 D (.lst (acc ++ [V.ref p]))) := by
  obtain ⟨s1, as, len, hl, nd, fr, row⟩ := P
  have hDp : p ≠ D := ne_of_none (h' := hp) hl |>.symm
  refine ⟨_, s _ _ hl, by rw [List.length_map]; exact len, Same.put (s1.trans s) hD, as ++ [p], by rw [List.length_append]; simp [len], by rw [upd_same, List.map_append]; rfl, ?_, ?_, ?_⟩
  · refine List.nodup_append.mpr ⟨nd, by simp, ?_⟩
    intro r hr1 q hq e
    have eq : q = p := by simpa using hq
    subst eq
    obtain ⟨j, hj⟩ := List.getElem?_of_mem hr1
    have := row j r hj
    rw [e, hp] at this
    cases this
  · intro r hm
    rcases List.mem_append.mp hm with h | h
    · exact fr r h
    · have e : r = p := by simpa using h
      rw [e]; exact s1.free hp
  · intro a r e
    rcases snoc_get e with h | ⟨h, rfl⟩
    · have q := s _ _ (row a r h)
      have ne : r ≠ D := ne_of (row a r h) hl (nums_ne_refs h0)
      rw [upd_ne ne]; exact q
    · rw [upd_ne hDp, h, len]; exact hr
theorem Part.tab {H H' : Hp} {D : Addr} {n : Nat} {v : Nat → Nat → Nat} (P : Part H D n v n H') : ∃ as, Same H H' ∧ TabA H' D as n v ∧ as.Nodup ∧ ∀ r ∈ as, H r = none := by
  obtain ⟨s1, as, len, hl, nd, fr, row⟩ := P
  exact ⟨as, s1, ⟨len, hl, row⟩, nd, fr⟩
structure Df (K : PySem.W.Frag) (mg : Str → Option Value) (x : Str) (f : Addr) (fd : FuncData) (ps : List Str) : Prop where
  mg : mg x = some (.ref f)
  kp : PySem.W.keepIn K (.ref f) = true
  b : Binds K fd ps []
structure ToldA (H : Hp) (p : Addr) (ts : List Addr) (l : List Krae.Told) : Prop where
  len : ts.length = l.length
  lst : H p = some (.lst (ts.map V.ref))
  one : ∀ (i : Nat) t o, ts[i]? = some t → l[i]? = some o → H t = some (.tup [.int (o.kind : Nat), .int (o.a : Nat), .int (o.b : Nat)])
def ToldAt (H : Hp) (p : Addr) (l : List Krae.Told) : Prop := ∃ ts, ToldA H p ts l
theorem ToldA.same {H H' : Hp} {p : Addr} {ts : List Addr} {l : List Krae.Told} (s : Same H H') (t : ToldA H p ts l) : ToldA H' p ts l := ⟨t.len, s _ _ t.lst, fun i x o e1 e2 => s _ _ (t.one i x o e1 e2)⟩
theorem ToldAt.same {H H' : Hp} {p : Addr} {l : List Krae.Told} (s : Same H H') (t : ToldAt H p l) : ToldAt H' p l := let ⟨ts, t⟩ := t; ⟨ts, t.same s⟩
theorem ToldA.get {H : Hp} {p : Addr} {ts : List Addr} {l : List Krae.Told} (t : ToldA H p ts l) {i : Nat} {y : V} (h : (ts.map V.ref)[i]? = some y) : ∃ a o, y = V.ref a ∧ l[i]? = some o ∧ H a = some (.tup [.int (o.kind : Nat), .int (o.a : Nat), .int (o.b : Nat)]) := by
  rw [List.getElem?_map] at h
  cases q : ts[i]? with
  | none => rw [q] at h; cases h
  | some a =>
    rw [q] at h
    have hi : i < l.length := by rw [← t.len]; exact (List.getElem?_eq_some_iff.mp q).1
    exact ⟨a, l[i], (Option.some.inj h).symm, List.getElem?_eq_getElem hi, t.one i a _ q (List.getElem?_eq_getElem hi)⟩
theorem take_snoc {α : Type} {l : List α} {i : Nat} {x : α} (h : l[i]? = some x) : l.take (i + 1) = l.take i ++ [x] := by
  rw [List.take_add_one, h]; rfl
theorem lcr {n : Nat} {g : TG} {te : TE} {vs : List Nat} {σ : L2.St} {H1 : Hp} {D : Addr} {Qd : Hp → Prop} (Pv : Nat → Hp → Prop) (h0 : Pv 0 (upd H1 D (.lst [])))
    (hs : ∀ i H, i < n → Pv i H → g (.int (i : Int)) (wipe σ vs) H fun σ2 H2 => wipe σ2 vs = wipe σ vs ∧ te σ2 H2 fun y H4 => ∃ acc, H4 D = some (.lst acc) ∧ acc.length < sizeLine ∧ Pv (i + 1) (upd H4 D (.lst (acc ++ [y])))) (hd : ∀ H, Pv n H → Qd H) :
    ∃ W : Nat → Nat → Hp → Prop, (∃ m, W 0 m (upd H1 D (.lst []))) ∧ ∀ i m H, W i m H →
      ((Itr 0 n).stop i H ∧ Qd H) ∨ ((Itr 0 n).go i H ∧ ∃ Nx : Hp → Prop, (∀ H', Nx H' → ∃ m', m' < m ∧ W (i + 1) m' H') ∧ ∀ x H', (Itr 0 n).yld i H x H' → g x (wipe σ vs) H' fun σ2 H2 => wipe σ2 vs = wipe σ vs ∧ tYes σ2 H2 fun b H3 =>
        if b = true then te σ2 H3 fun y H4 => ∃ acc, H4 D = some (.lst acc) ∧ acc.length < sizeLine ∧ Nx (upd H4 D (.lst (acc ++ [y]))) else Nx H3) := by
  refine ⟨fun i m H => m = n - i ∧ i ≤ n ∧ Pv i H, ⟨n, by simp, Nat.zero_le _, h0⟩, ?_⟩
  rintro i m H ⟨rfl, hi, p⟩
  by_cases hlt : i < n
  · refine .inr ⟨hlt, Pv (i + 1), fun H' p' => ⟨n - (i + 1), by omega, rfl, hlt, p'⟩, fun x H' y => ?_⟩
    obtain ⟨e, y⟩ := y
    subst e y
    rw [Int.zero_add]
    exact hs i _ hlt p
  · have e : i = n := by omega
    subst e
    exact .inl ⟨Nat.le_refl _, hd H p⟩
theorem or_nn (a b : Nat) : Builtin.bitOr (a : Int) (b : Int) = ((a ||| b : Nat) : Int) := by
  rw [Bits.bitOr_pp (Int.natCast_nonneg _) (Int.natCast_nonneg _), Int.toNat_natCast, Int.toNat_natCast]
theorem and_nn (a b : Nat) : Builtin.bitAnd (a : Int) (b : Int) = ((a &&& b : Nat) : Int) := by
  rw [bitAnd_pp (Int.natCast_nonneg _) (Int.natCast_nonneg _), Int.toNat_natCast, Int.toNat_natCast]
section
variable {X : Cx}
theorem op_shl1 : OpR X (binaryOp .LShift) (fun x y H Q => ∃ n : Nat, x = .int 1 ∧ y = .int (n : Int) ∧ n ≤ 1000 ∧ Q (.int ((2 ^ n : Nat) : Int)) H) := by
  intro pins s σ H x y v u Q I rx ry h
  obtain ⟨n, rfl, rfl, hn, q⟩ := h
  refine op_shl pins s σ H _ _ v u Q I rx ry ⟨_, _, rfl, rfl, ⟨by omega, by omega, by decide⟩, ?_⟩
  have e1 : (1 : Int) * 2 ^ ((n : Int)).toNat = ((2 ^ n : Nat) : Int) := by rw [Int.toNat_natCast, Int.one_mul]; exact (Int.natCast_pow 2 n).symm
  show Q (.int ((1 : Int) * 2 ^ ((n : Int)).toNat)) H
  rw [e1]; exact q
theorem op_subn : OpR X (binaryOp .Sub) (fun x y H Q => ∃ a b : Nat, x = .int (a : Int) ∧ y = .int (b : Int) ∧ b ≤ a ∧ Q (.int ((a - b : Nat) : Int)) H) := by
  intro pins s σ H x y v u Q I rx ry h
  obtain ⟨a, b, rfl, rfl, hn, q⟩ := h
  refine op_sub pins s σ H _ _ v u Q I rx ry ⟨_, _, rfl, rfl, ?_⟩
  show Q (.int ((a : Int) - (b : Int))) H
  rw [show (a : Int) - (b : Int) = ((a - b : Nat) : Int) by omega]; exact q
theorem op_addn : OpR X (binaryOp .Add) (fun x y H Q => ∃ a b : Nat, x = .int (a : Int) ∧ y = .int (b : Int) ∧ Q (.int ((a + b : Nat) : Int)) H) := by
  intro pins s σ H x y v u Q I rx ry h
  obtain ⟨a, b, rfl, rfl, q⟩ := h
  refine op_add pins s σ H _ _ v u Q I rx ry ⟨_, _, rfl, rfl, ?_⟩
  show Q (.int ((a : Int) + (b : Int))) H
  rw [show (a : Int) + (b : Int) = ((a + b : Nat) : Int) by omega]; exact q
theorem op_orn : OpR X (binaryOp .BitOr) (fun x y H Q => ∃ a b : Nat, x = .int (a : Int) ∧ y = .int (b : Int) ∧ Q (.int ((a ||| b : Nat) : Int)) H) := by
  intro pins s σ H x y v u Q I rx ry h
  obtain ⟨a, b, rfl, rfl, q⟩ := h
  refine op_or pins s σ H _ _ v u Q I rx ry ⟨_, _, rfl, rfl, ?_⟩
  show Q (.int (Builtin.bitOr (a : Int) (b : Int))) H
  rw [or_nn]; exact q
theorem op_andn : OpR X (binaryOp .BitAnd) (fun x y H Q => ∃ a b : Nat, x = .int (a : Int) ∧ y = .int (b : Int) ∧ Q (.int ((a &&& b : Nat) : Int)) H) := by
  intro pins s σ H x y v u Q I rx ry h
  obtain ⟨a, b, rfl, rfl, q⟩ := h
  refine op_and pins s σ H _ _ v u Q I rx ry ⟨_, _, rfl, rfl, ?_⟩
  show Q (.int (Builtin.bitAnd (a : Int) (b : Int))) H
  rw [and_nn]; exact q
theorem op_shrn : OpR X (binaryOp .RShift) (fun x y H Q => ∃ a b : Nat, x = .int (a : Int) ∧ y = .int (b : Int) ∧ Q (.int ((a / 2 ^ b : Nat) : Int)) H) := by
  intro pins s σ H x y v u Q I rx ry h
  obtain ⟨a, b, rfl, rfl, q⟩ := h
  refine op_shr pins s σ H _ _ v u Q I rx ry ⟨_, _, rfl, rfl, by omega, ?_⟩
  show Q (.int ((a : Int) / 2 ^ ((b : Int)).toNat)) H
  have e : (a : Int) / 2 ^ ((b : Int)).toNat = ((a / 2 ^ b : Nat) : Int) := by
    rw [Int.toNat_natCast, Int.natCast_ediv, Int.natCast_pow]
    rfl
  rw [e]; exact q
theorem ip_addn : PIp X .Add (fun x y H Q => ∃ a b : Nat, x = .int (a : Int) ∧ y = .int (b : Int) ∧ Q (.int ((a + b : Nat) : Int)) H) := by
  intro pins s σ H x y v u Q I rx ry h
  obtain ⟨a, b, rfl, rfl, q⟩ := h
  refine ip_add pins s σ H _ _ v u Q I rx ry ⟨_, _, rfl, rfl, ?_⟩
  show Q (.int ((a : Int) + (b : Int))) H
  rw [show (a : Int) + (b : Int) = ((a + b : Nat) : Int) by omega]; exact q
theorem op_eqn : OpR X (compareOp .Eq) (fun x y H Q => ∃ a b : Nat, x = .int (a : Int) ∧ y = .int (b : Int) ∧ Q (.bl (decide (a = b))) H) := by
  intro pins s σ H x y v u Q I rx ry h
  obtain ⟨a, b, rfl, rfl, q⟩ := h
  refine op_eq pins s σ H _ _ v u Q I rx ry ⟨rfl, ?_⟩
  have e : decide (V.int (a : Int) = V.int (b : Int)) = decide (a = b) := decide_eq_decide.mpr ⟨fun z => by injection z with z; omega, fun z => by rw [z]⟩
  rw [e]; exact q
theorem op_nen : OpR X (compareOp .NotEq) (fun x y H Q => ∃ a b : Nat, x = .int (a : Int) ∧ y = .int (b : Int) ∧ Q (.bl (!decide (a = b))) H) := by
  intro pins s σ H x y v u Q I rx ry h
  obtain ⟨a, b, rfl, rfl, q⟩ := h
  refine op_ne pins s σ H _ _ v u Q I rx ry ⟨rfl, ?_⟩
  have e : decide (V.int (a : Int) = V.int (b : Int)) = decide (a = b) := decide_eq_decide.mpr ⟨fun z => by injection z with z; omega, fun z => by rw [z]⟩
  rw [e]; exact q
end
section
variable {X : Cx} {K : PySem.W.Frag}
theorem ixl (h : X.K = K := by rfl) : IxR X (rIxL K) := h ▸ ix_list
theorem ixt (h : X.K = K := by rfl) : IxR X (rIxT K) := h ▸ ix_tup
theorem lens (h : X.K = K := by rfl) : CallR X (.builtin "len") (fun xs H Q => ∃ p ys, xs = [.ref p] ∧ (SqL K H p ys ∨ SqT K H p ys) ∧ Q (.int ys.length) H) := h ▸ call_len_seq
theorem sums (hc : X.calm = true) (h : X.K = K := by rfl) : CallR X (.builtin "sum") (rSum K) := h ▸ cr_sum hc
theorem mins (hc : X.calm = true) (h : X.K = K := by rfl) : CallR X (.builtin "min") (rMin K) := h ▸ cr_min hc
theorem maxs (hc : X.calm = true) (h : X.K = K := by rfl) : CallR X (.builtin "max") (rMax K) := h ▸ cr_max hc
theorem ins_ (h : X.K = K := by rfl) : OpR X (compareOp .In) (rIn K false) := h ▸ op_in_seq
theorem neD (hu : X.A.units + 64 < cLine) (h : X.K = K := by rfl) : OpR X (compareOp .NotEq) (rNeD K) := h ▸ op_neD hu
theorem pgt {es : List Expr} {k : Nat} {pos : Pos} {t : TGs} {n : Nat} (hc : X.calm = true) (h : PGs X es t) (hK : X.K = K := by rfl)
    (hn : (assignEach es X.env).length = n := by rfl) (hst : (assignEach es X.env).findIdx? (·.1) = none := by rfl) : PG X (.Tuple es k pos) (gTup K n t) := hK ▸ pg_tup hc h hn hst
theorem sls (h : X.K = K := by rfl) : SlR X (rSlL K) := h ▸ sl_list
end
theorem frn {n : Nat} {g : TG} {tb : TS} {D : Ends} {σ : L2.St} {H : Hp} (Pv : Nat → L2.St → Hp → Prop) (h0 : Pv 0 σ H)
    (hs : ∀ (i : Nat) σ H, i < n → Pv i σ H → g (.int (i : Int)) σ H fun σ2 H2 => tb { D with nx := Pv (i + 1), ct := Pv (i + 1), bk := D.nx } σ2 H2) (hd : ∀ σ H, Pv n σ H → D.nx σ H) :
    ∃ W : Nat → Nat → L2.St → Hp → Prop, (∃ m, W 0 m σ H) ∧ ∀ i m σ H, W i m σ H →
      ((Itr 0 n).stop i H ∧ D.nx σ H) ∨ ((Itr 0 n).go i H ∧ ∃ N : L2.St → Hp → Prop, (∀ σ' H', N σ' H' → ∃ m', m' < m ∧ W (i + 1) m' σ' H') ∧ ∀ x H', (Itr 0 n).yld i H x H' → g x σ H' fun σ2 H2 => tb { D with nx := N, ct := N, bk := D.nx } σ2 H2) :=
  for_range Pv h0 (fun i σ H hi p => by rw [Int.zero_add]; exact hs i σ H hi p) hd
theorem for_zip {K : PySem.W.Frag} {a b : Addr} {xs ys : List V} {g : TG} {tb : TS} {D : Ends} {σ : L2.St} {H : Hp} (Pv : Nat → L2.St → Hp → Prop) (hxy : xs.length = ys.length) (h0 : Pv 0 σ H) (hl : ∀ i σ H, Pv i σ H → SqL K H a xs ∧ SqL K H b ys)
    (hs : ∀ i x y T σ H, xs[i]? = some x → ys[i]? = some y → Pv i σ H → H T = none → g (.ref T) σ (upd H T (.tup [x, y])) fun σ2 H2 => tb { D with nx := Pv (i + 1), ct := Pv (i + 1), bk := D.nx } σ2 H2) (hd : ∀ σ H, Pv xs.length σ H → D.nx σ H) :
    ∃ W : Nat → Nat → L2.St → Hp → Prop, (∃ m, W 0 m σ H) ∧ ∀ i m σ H, W i m σ H →
      ((Itz K a b).stop i H ∧ D.nx σ H) ∨ ((Itz K a b).go i H ∧ ∃ N : L2.St → Hp → Prop, (∀ σ' H', N σ' H' → ∃ m', m' < m ∧ W (i + 1) m' σ' H') ∧ ∀ x H', (Itz K a b).yld i H x H' → g x σ H' fun σ2 H2 => tb { D with nx := N, ct := N, bk := D.nx } σ2 H2) := by
  refine ⟨fun i m σ H => m = xs.length - i ∧ i ≤ xs.length ∧ Pv i σ H, ⟨xs.length, by simp, Nat.zero_le _, h0⟩, ?_⟩
  rintro i m σ H ⟨rfl, hi, p⟩
  obtain ⟨q1, q2⟩ := hl i σ H p
  by_cases hlt : i < xs.length
  · refine .inr ⟨⟨xs, ys, xs[i], ys[i]'(by omega), q1, q2, by simp [hlt], by simp⟩, Pv (i + 1), fun σ' H' p' => ⟨xs.length - (i + 1), by omega, rfl, hlt, p'⟩, fun v H' y => ?_⟩
    obtain ⟨T, x, y, rfl, hT, rfl, hx, hy⟩ := y
    exact hs i x y T σ H (hx xs q1) (hy ys q2) p hT
  · have e : i = xs.length := by omega
    subst e
    exact .inl ⟨⟨xs, ys, q1, q2, .inl (Nat.le_refl _)⟩, hd σ H p⟩
theorem for_enum {K : PySem.W.Frag} {a : Addr} {xs : List V} {g : TG} {tb : TS} {D : Ends} {σ : L2.St} {H : Hp} (Pv : Nat → L2.St → Hp → Prop) (h0 : Pv 0 σ H) (hl : ∀ i σ H, Pv i σ H → SqL K H a xs)
    (hs : ∀ (i : Nat) x T σ H, xs[i]? = some x → Pv i σ H → H T = none → g (.ref T) σ (upd H T (.tup [.int (i : Int), x])) fun σ2 H2 => tb { D with nx := Pv (i + 1), ct := Pv (i + 1), bk := D.nx } σ2 H2) (hd : ∀ σ H, Pv xs.length σ H → D.nx σ H) :
    ∃ W : Nat → Nat → L2.St → Hp → Prop, (∃ m, W 0 m σ H) ∧ ∀ i m σ H, W i m σ H →
      ((Ite K a).stop i H ∧ D.nx σ H) ∨ ((Ite K a).go i H ∧ ∃ N : L2.St → Hp → Prop, (∀ σ' H', N σ' H' → ∃ m', m' < m ∧ W (i + 1) m' σ' H') ∧ ∀ x H', (Ite K a).yld i H x H' → g x σ H' fun σ2 H2 => tb { D with nx := N, ct := N, bk := D.nx } σ2 H2) := by
  refine ⟨fun i m σ H => m = xs.length - i ∧ i ≤ xs.length ∧ Pv i σ H, ⟨xs.length, by simp, Nat.zero_le _, h0⟩, ?_⟩
  rintro i m σ H ⟨rfl, hi, p⟩
  have q1 := hl i σ H p
  by_cases hlt : i < xs.length
  · refine .inr ⟨⟨xs, xs[i], q1, by simp [hlt]⟩, Pv (i + 1), fun σ' H' p' => ⟨xs.length - (i + 1), by omega, rfl, hlt, p'⟩, fun v H' y => ?_⟩
    obtain ⟨T, x, rfl, hT, rfl, hx⟩ := y
    exact hs i x T σ H (hx xs q1) p hT
  · have e : i = xs.length := by omega
    subst e
    exact .inl ⟨⟨xs, q1, Nat.le_refl _⟩, hd σ H p⟩
theorem lc_enum {K : PySem.W.Frag} {a : Addr} {xs : List V} {g : TG} {tt : TT} {te : TE} {vs : List Nat} {σ : L2.St} {H1 : Hp} {D : Addr} {Qd : Hp → Prop} (Pv : Nat → Hp → Prop) (h0 : Pv 0 (upd H1 D (.lst []))) (hl : ∀ i H, Pv i H → SqL K H a xs)
    (hs : ∀ (i : Nat) x T H, xs[i]? = some x → Pv i H → H T = none → g (.ref T) (wipe σ vs) (upd H T (.tup [.int (i : Int), x])) fun σ2 H2 => wipe σ2 vs = wipe σ vs ∧ tt σ2 H2 fun b H3 =>
      if b = true then te σ2 H3 fun y H4 => ∃ acc, H4 D = some (.lst acc) ∧ acc.length < sizeLine ∧ Pv (i + 1) (upd H4 D (.lst (acc ++ [y]))) else Pv (i + 1) H3) (hd : ∀ H, Pv xs.length H → Qd H) :
    ∃ W : Nat → Nat → Hp → Prop, (∃ m, W 0 m (upd H1 D (.lst []))) ∧ ∀ i m H, W i m H →
      ((Ite K a).stop i H ∧ Qd H) ∨ ((Ite K a).go i H ∧ ∃ Nx : Hp → Prop, (∀ H', Nx H' → ∃ m', m' < m ∧ W (i + 1) m' H') ∧ ∀ x H', (Ite K a).yld i H x H' → g x (wipe σ vs) H' fun σ2 H2 => wipe σ2 vs = wipe σ vs ∧ tt σ2 H2 fun b H3 =>
        if b = true then te σ2 H3 fun y H4 => ∃ acc, H4 D = some (.lst acc) ∧ acc.length < sizeLine ∧ Nx (upd H4 D (.lst (acc ++ [y]))) else Nx H3) := by
  refine ⟨fun i m H => m = xs.length - i ∧ i ≤ xs.length ∧ Pv i H, ⟨xs.length, by simp, Nat.zero_le _, h0⟩, ?_⟩
  rintro i m H ⟨rfl, hi, p⟩
  have q := hl i H p
  by_cases hlt : i < xs.length
  · refine .inr ⟨⟨xs, xs[i], q, by simp [hlt]⟩, Pv (i + 1), fun H' p' => ⟨xs.length - (i + 1), by omega, rfl, hlt, p'⟩, fun v H' y => ?_⟩
    obtain ⟨T, x, rfl, hT, rfl, hx⟩ := y
    exact hs i x T H (hx xs q) p hT
  · have e : i = xs.length := by omega
    subst e
    exact .inl ⟨⟨xs, q, Nat.le_refl _⟩, hd H p⟩
theorem ifN {c : Prop} [Decidable c] {x y : Nat} {σ : L2.St} {H : Hp} {Q : VK} (h : Q (.int ((if c then x else y : Nat) : Int)) H) : if decide c = true then tC (.int (x : Int)) σ H Q else tC (.int (y : Int)) σ H Q := by
  by_cases e : c
  · rw [if_pos e] at h; rw [if_pos (decide_eq_true e)]; exact h
  · rw [if_neg e] at h; rw [if_neg (fun z => e (of_decide_eq_true z))]; exact h
structure Gn (mg : Str → Option Value) : Prop where
  kLik : ∃ t, mg "KIND_LIKELIER" = some (Value.int 0 t)
  kNol : ∃ t, mg "KIND_NO_LESS" = some (Value.int 1 t)
  kAs : ∃ t, mg "KIND_AS_LIKELY" = some (Value.int 2 t)
  not_ : ∃ t, mg "NOTHING" = some (Value.int 0 t)
  nol : ∃ t, mg "NO_LESS" = some (Value.int 1 t)
  lik : ∃ t, mg "LIKELIER" = some (Value.int 2 t)
  mostT : ∃ t, mg "MOST_TOGETHER" = some (Value.int 10 t)
  range : mg "range" = none
  len : mg "len" = none
  max : mg "max" = none
  min : mg "min" = none
  sum : mg "sum" = none
  zip : mg "zip" = none
  list : mg "list" = none
  enum : mg "enumerate" = none
  any : mg "any" = none
  all : mg "all" = none
  sorted : mg "sorted" = none
end Lk
end
section
set_option Elab.async false
set_option linter.all false
set_option maxRecDepth 100000
set_option maxHeartbeats 4000000
namespace Lk
open PySem PySem.Spec PyProof.Rows L2
abbrev sRowOfParts : Stmt := top 7
abbrev sRaise : Stmt := top 8
abbrev sWithout : Stmt := top 10
section
variable {P : Program} {w : World} {K : PySem.W.Frag} {mg : Str → Option Value} {base : Heap}
def less (a b : Nat) : Nat := a - (a &&& b)
def spWithout : Sp := fun vs H Q _ => ∃ a b : Nat, vs = [.int a, .int b] ∧ Q (.int (less a b : Nat)) H
theorem scWithout : FnScope ["chosen", "others"] ["chosen", "others"] (defScope sWithout) := ⟨rfl, rfl, rfl, by decide +kernel, rfl, by decide +kernel, by decide +kernel⟩
theorem ok_without {f : Addr} {fd : FuncData} (F : Fun K "without" "without" sWithout f fd) : FnOk P w K mg base CX0 1 f fd ["chosen", "others"] spWithout := by
  refine F.ok scWithout (fun vs H Q E h => ?_) (fun cdv A outer s H vs Q E hr h => ?_)
  · obtain ⟨a, b, rfl, _⟩ := h
    rfl
  · obtain ⟨a, b, rfl, k⟩ := h
    refine ⟨_, pss_one (ps_ret (pe_op op_subn (pv 0) (pe_op op_andn (pv 0) (pv 1)))), ?_⟩
    exact ⟨_, rfl, _, rfl, _, rfl, _, _, rfl, rfl, _, _, rfl, rfl, Nat.and_le_left, k⟩
def spRowOfParts : Sp := fun vs H Q _ => ∃ a n : Nat, vs = [.int a, .int n] ∧ n ≤ 32 ∧ ∀ (H' : Hp) (p : Addr), H p = none → Same H H' → H' p = some (.lst (nums n fun b => if a ||| b = a then 1 else 0)) → Q (.ref p) H'
theorem scRowOfParts : FnScope ["first", "size", "second"] ["first", "size"] (defScope sRowOfParts) := ⟨rfl, rfl, rfl, by decide +kernel, rfl, by decide +kernel, by decide +kernel⟩
theorem ok_rowOfParts {f : Addr} {fd : FuncData} (F : Fun K "row_of_parts" "row_of_parts" sRowOfParts f fd) (G : Gn mg) : FnOk P w K mg base CX0 1 f fd ["first", "size"] spRowOfParts := by
  refine F.ok scRowOfParts (fun vs H Q E h => ?_) (fun cdv A outer s H vs Q E hr h => ?_)
  · obtain ⟨a, n, rfl, _⟩ := h
    rfl
  · obtain ⟨a, n, rfl, hn, k⟩ := h
    refine ⟨_, pss_one (ps_ret (pe_lc (own := [("second", 2)]) rfl scRowOfParts.nd (pi_range1 rfl G.range (pa_cons (pv 1) pa_nil)) (blkOk_by rfl)
      (fun _ _ _ _ _ => pg_name (i := 2) scRowOfParts.nd rfl (Or.inl rfl)) (fun _ _ _ _ _ => pts_nil)
      (fun _ _ _ _ _ => pe_ifExp (pt_cmpR op_eqn (pe_op op_orn (pv 0) (pv 2)) (pv 0) (nomark _)) (pgi G.nol) (pgi G.not_)))), ?_⟩
    refine ⟨_, rfl, (n : Int), rfl, by omega, by omega, fun D hD => ?_⟩
    refine lcr (n := n) (fun i H' => Same H H' ∧ H' D = some (.lst (nums i fun b => if a ||| b = a then 1 else 0))) ⟨Same.new hD, upd_same⟩ ?_ ?_
    · rintro i H' hi ⟨s1, hd⟩
      refine ⟨rfl, _, rfl, _, rfl, _, _, rfl, rfl, _, rfl, _, _, rfl, rfl, _, rfl, ?_⟩
      have fin : ∀ v : Nat, v = (if a ||| i = a then 1 else 0) → ∃ acc, H' D = some (HO.lst acc) ∧ acc.length < sizeLine ∧ Same H (upd H' D (HO.lst (acc ++ [V.int (v : Int)]))) ∧ upd H' D (HO.lst (acc ++ [V.int (v : Int)])) D = some (HO.lst (nums (i + 1) fun b => if a ||| b = a then 1 else 0)) := fun v hv =>
        ⟨_, hd, by rw [nums_length]; exact Nat.lt_of_lt_of_le hi (Nat.le_trans hn (by decide)), Same.put s1 hD, by rw [upd_same, nums_snoc, hv]⟩
      exact ite2 (fun h => fin 1 (by rw [if_pos (of_decide_eq_true h)])) (fun h => fin 0 (by rw [if_neg]; intro h1; exact h (decide_eq_true h1)))
    · rintro H' ⟨s1, hd⟩
      exact k H' D hD s1 hd
def spRaise : Sp := fun vs H Q _ => ∃ (p : Addr) (as : List Addr) (n a b l : Nat) (v : Nat → Nat → Nat) (r : Addr), vs = [.ref p, .int a, .int b, .int l] ∧ TabA H p as n v ∧ as.Nodup ∧ a < n ∧ b < n ∧ as[a]? = some r ∧
  ∀ H' : Hp, But r H H' → TabA H' p as n (fun x y => if x = a ∧ y = b then max (v x y) l else v x y) → Q .non H'
theorem scRaise : FnScope ["table", "first", "second", "level"] ["table", "first", "second", "level"] (defScope sRaise) := ⟨rfl, rfl, rfl, by decide +kernel, rfl, by decide +kernel, by decide +kernel⟩
theorem ok_raise {f : Addr} {fd : FuncData} (F : Fun K "raise_to" "raise_to" sRaise f fd) (G : Gn mg) : FnOk P w K mg base CX0 1 f fd ["table", "first", "second", "level"] spRaise := by
  refine F.ok scRaise (fun vs H Q E h => ?_) (fun cdv A outer s H vs Q E hr h => ?_)
  · obtain ⟨p, as, n, a, b, l, v, r, rfl, _⟩ := h
    rfl
  · obtain ⟨p, as, n, a, b, l, v, r, rfl, t, nd, ha, hb, hr', k⟩ := h
    have hrr : H r = some (.lst (nums n (v a))) := t.row a r hr'
    have hm : (as.map V.ref)[a]? = some (V.ref r) := by rw [List.getElem?_map, hr']; rfl
    refine ⟨_, pss_one (ps_asg (pe_callB (call_max2n rfl) rfl G.max boot_max (pa_cons (pe_ix ix_list (pe_ix ix_list (pv 0) (pv 1) (fun _ _ => rfl)) (pv 2) (fun _ _ => rfl)) (pa_cons (pv 3) pa_nil)))
      (pg_sub (pe_ix ix_list (pv 0) (pv 1) (fun _ _ => rfl)) (pv 2) set_list)), ?_⟩
    refine ⟨_, rfl, _, rfl, p, _, _, _, rfl, rfl, SqL.of t.lst, atI_nat hm, _, rfl, r, _, _, _, rfl, rfl, SqL.of hrr, atI_nat (nums_get hb), _, rfl, _, _, rfl,
      _, rfl, _, rfl, p, _, _, _, rfl, rfl, SqL.of t.lst, atI_nat hm, _, rfl, r, _, _, b, rfl, rfl, hrr, ?_, ?_⟩
    · unfold ixN
      rw [if_pos (by omega), if_pos (by rw [nums_length]; omega)]
      rw [Int.toNat_natCast]
    · have hne : p ≠ r := ne_of t.lst hrr (fun e => nums_ne_refs (by omega) e.symm)
      refine k _ (fun c o e hc => by rw [upd_ne hc]; exact e) ⟨t.len, by rw [upd_ne hne]; exact t.lst, fun x q hx => ?_⟩
      by_cases e : x = a
      · subst e
        have eq : q = r := Option.some.inj (hx.symm.trans hr')
        subst eq
        rw [upd_same, nums_set hb]
        refine congrArg (fun z => some (HO.lst z)) (nums_congr fun y hy => ?_)
        by_cases ey : y = b
        · rw [if_pos ey, if_pos ⟨rfl, ey⟩, ey]
        · rw [if_neg ey, if_neg fun z => ey z.2]
      · have hq : q ≠ r := fun z => e (nd_ix nd hx (by rw [z]; exact hr'))
        rw [upd_ne hq, t.row x q hx]
        refine congrArg (fun z => some (HO.lst z)) (nums_congr fun y hy => ?_)
        rw [if_neg fun z => e z.1]
end
end Lk
end
section
set_option Elab.async false
set_option linter.all false
set_option maxRecDepth 100000
set_option maxHeartbeats 4000000
namespace Lk
open PySem PySem.Spec PyProof.Rows L2
abbrev sTabFirst : Stmt := top 9
def rz (v : Nat → Nat → Nat) (a b l : Nat) : Nat → Nat → Nat := fun x y => if x = a ∧ y = b then max (v x y) l else v x y
def rzT (v : Nat → Nat → Nat) (t : Krae.Told) : Nat → Nat → Nat := if t.kind = 2 then rz (rz v t.a t.b 1) t.b t.a 1 else rz v t.a t.b (if t.kind = 0 then 2 else 1)
def base0 (n : Nat) (l : List Krae.Told) : Nat → Nat → Nat := l.foldl rzT (rz (fun a b => if a ||| b = a then 1 else 0) (2 ^ n - 1) 0 2)
def Sets (n : Nat) (l : List Krae.Told) : Prop := ∀ t ∈ l, t.a < 2 ^ n ∧ t.b < 2 ^ n
theorem pow_le {n : Nat} (h : n ≤ 5) : 2 ^ n ≤ 32 := Nat.pow_le_pow_right (by decide) h
theorem pow_pos (n : Nat) : 0 < 2 ^ n := Nat.two_pow_pos n
section
variable {P : Program} {w : World} {K : PySem.W.Frag} {mg : Str → Option Value} {base : Heap}
def spTabFirst : Sp := fun vs H Q _ => ∃ (n : Nat) (p : Addr) (l : List Krae.Told), vs = [.int n, .ref p] ∧ n ≤ 5 ∧ ToldAt H p l ∧ Sets n l ∧ ∀ (H' : Hp) (q : Addr), Same H H' → Tab H' q (2 ^ n) (base0 n l) → Q (.ref q) H'
theorem scTabFirst : FnScope ["worlds", "told", "size", "table", "one", "first"] ["worlds", "told"] (defScope sTabFirst) := ⟨rfl, rfl, rfl, by decide +kernel, rfl, by decide +kernel, by decide +kernel⟩
theorem ok_tabFirst {f fR fP : Addr} {fd fdR fdP : FuncData} (F : Fun K "table_at_first" "table_at_first" sTabFirst f fd) (G : Gn mg)
    (OR : FnOk P w K mg base CX0 1 fR fdR ["table", "first", "second", "level"] spRaise) (DR : Df K mg "raise_to" fR fdR ["table", "first", "second", "level"])
    (OP : FnOk P w K mg base CX0 1 fP fdP ["first", "size"] spRowOfParts) (DP : Df K mg "row_of_parts" fP fdP ["first", "size"]) : FnOk P w K mg base CX0 2 f fd ["worlds", "told"] spTabFirst := by
  refine F.ok scTabFirst (fun vs H Q E h => ?_) (fun cdv A outer s H vs Q E hr h => ?_)
  · obtain ⟨n, p, l, rfl, _⟩ := h
    rfl
  · obtain ⟨n, p, l, rfl, hn, ⟨ts, ht⟩, hset, k⟩ := h
    have hN := pow_le hn
    have hP := pow_pos n
    refine ⟨_, pss_cons (ps_set (i := 2) scTabFirst.nd rfl (Or.inr rfl) (pe_op op_shl1 pe_int (pv 0)))
      (pss_cons (ps_setLc (i := 3) (own := [("first", 5)]) rfl scTabFirst.nd rfl rfl (sw_true rfl rfl rfl rfl) (pi_range1 rfl G.range (pa_cons (pv 2) pa_nil)) (blkOk_by rfl)
        (fun _ _ _ _ _ => pg_name (i := 5) scTabFirst.nd rfl (Or.inl rfl)) (fun _ _ _ _ _ => pts_nil)
        (fun _ _ _ _ _ => pe_call OP hr rfl DP.mg DP.kp DP.b .nil pass0 (pa_cons (pv 5) (pa_cons (pv 2) pa_nil))))
      (pss_cons (ps_expr (pe_call OR hr rfl DR.mg DR.kp DR.b .nil pass0 (pa_cons (pv 3) (pa_cons (pe_op op_subn (pv 2) pe_int) (pa_cons pe_int (pa_cons (pgi G.lik) pa_nil))))))
      (pss_cons (ps_for PassesOwn.never rfl (pi_list (pv 1)) (pg_name (i := 4) scTabFirst.nd rfl (Or.inl rfl))
        (pss_cons (ps_expr (pe_call OR hr rfl DR.mg DR.kp DR.b .nil pass0 (pa_cons (pv 3) (pa_cons (pe_ix ix_tup (pv 4) pe_int (fun _ _ => rfl)) (pa_cons (pe_ix ix_tup (pv 4) pe_int (fun _ _ => rfl))
            (pa_cons (pe_ifExp (pt_cmpR op_eqn (pe_ix ix_tup (pv 4) pe_int (fun _ _ => rfl)) (pgi G.kLik) (nomark _)) (pgi G.lik) (pgi G.nol)) pa_nil))))))
          (pss_one (ps_if (pt_cmpR op_eqn (pe_ix ix_tup (pv 4) pe_int (fun _ _ => rfl)) (pgi G.kAs) (nomark _))
            (pss_one (ps_expr (pe_call OR hr rfl DR.mg DR.kp DR.b .nil pass0 (pa_cons (pv 3) (pa_cons (pe_ix ix_tup (pv 4) pe_int (fun _ _ => rfl)) (pa_cons (pe_ix ix_tup (pv 4) pe_int (fun _ _ => rfl)) (pa_cons (pgi G.nol) pa_nil)))))))
            pss_nil))))
      (pss_one (ps_ret (pv 3)))))), ?_⟩
    refine ⟨_, rfl, n, rfl, rfl, by omega, ?_⟩
    refine ⟨_, rfl, ((2 ^ n : Nat) : Int), rfl, by omega, by omega, fun D hD => ?_⟩
    refine lcr (n := 2 ^ n) (Part H D (2 ^ n) fun a b => if a ||| b = a then 1 else 0) (Part.start hD) ?_ ?_
    · intro i H' hi PP
      refine ⟨rfl, _, rfl, _, rfl, i, 2 ^ n, rfl, hN, fun H2 q hq s2 hrow => ?_⟩
      obtain ⟨acc, h1, h2, h3⟩ := PP.step hP hD hq s2 hrow
      exact ⟨acc, h1, by rw [h2]; exact Nat.lt_of_lt_of_le hi (Nat.le_trans hN (by decide)), h3⟩
    · intro H' PP
      obtain ⟨as, s1, t1, nd, fr⟩ := PP.tab
      obtain ⟨r0, hr0⟩ : ∃ r, as[2 ^ n - 1]? = some r := ⟨_, List.getElem?_eq_getElem (by rw [t1.len]; omega)⟩
      refine ⟨_, rfl, _, rfl, 2 ^ n, 1, rfl, rfl, hP, D, as, 2 ^ n, 2 ^ n - 1, 0, 2, _, r0, rfl, t1, nd, by omega, hP, hr0, fun H2 b2 t2 => ?_⟩
      have s2 : Same H H2 := But.same s1 (fr r0 (List.mem_of_getElem? hr0)) b2
      have ht2 := ht.same s2
      refine ⟨_, rfl, p, rfl, ⟨_, SqL.of ht2.lst⟩, for_list (K := K) (a := p) (xs := ts.map V.ref) (fun i σ H3 => ∃ v4 : Option V, σ = [some (.int n), some (.ref p), some (.int ((2 ^ n : Nat) : Int)), some (.ref D), v4, none] ∧ Same H H3 ∧
        TabA H3 D as (2 ^ n) ((l.take i).foldl rzT (rz (fun a b => if a ||| b = a then 1 else 0) (2 ^ n - 1) 0 2))) ⟨none, rfl, s2, t2⟩ (fun i σ H3 _ ⟨_, _, s3, _⟩ => SqL.of (ht.same s3).lst) ?_ ?_⟩
      · rintro i y σ H3 hi ⟨v4, rfl, s3, t3⟩
        have ht3 := ht.same s3
        obtain ⟨ta, o, rfl, ho, htu⟩ := ht3.get hi
        have hs := hset o (List.mem_of_getElem? ho)
        obtain ⟨r1, hr1⟩ : ∃ r, as[o.a]? = some r := ⟨_, List.getElem?_eq_getElem (by rw [t1.len]; exact hs.1)⟩
        obtain ⟨r2, hr2⟩ : ∃ r, as[o.b]? = some r := ⟨_, List.getElem?_eq_getElem (by rw [t1.len]; exact hs.2)⟩
        refine ⟨_, rfl, _, rfl, ta, _, _, _, rfl, rfl, SqT.of htu, rfl, _, rfl, ta, _, _, _, rfl, rfl, SqT.of htu, rfl, _, rfl, ta, _, _, _, rfl, rfl, SqT.of htu, rfl, o.kind, 0, rfl, rfl, _, rfl, ?_⟩
        refine ifN (x := 2) (y := 1) ?_
        refine ⟨D, as, 2 ^ n, o.a, o.b, _, _, r1, rfl, t3, nd, hs.1, hs.2, hr1, fun H4 b4 t4 => ?_⟩
        have s4 : Same H H4 := But.same s3 (fr r1 (List.mem_of_getElem? hr1)) b4
        have htu4 : H4 ta = some (HO.tup [V.int (o.kind : Int), V.int (o.a : Int), V.int (o.b : Int)]) := b4 _ _ htu (ne_of htu (t3.row _ _ hr1) (by intro z; cases z))
        refine ⟨_, rfl, ta, _, _, _, rfl, rfl, SqT.of htu4, rfl, o.kind, 2, rfl, rfl, _, rfl, ?_⟩
        rw [take_snoc ho, List.foldl_append]
        refine ite2 (fun h2 => ?_) (fun h2 => ?_)
        · have h2' : o.kind = 2 := of_decide_eq_true h2
          refine ⟨_, rfl, _, rfl, ta, _, _, _, rfl, rfl, SqT.of htu4, rfl, _, rfl, ta, _, _, _, rfl, rfl, SqT.of htu4, rfl, D, as, 2 ^ n, o.b, o.a, 1, _, r2, rfl, t4, nd, hs.2, hs.1, hr2, fun H5 b5 t5 => ?_⟩
          refine ⟨_, rfl, But.same s4 (fr r2 (List.mem_of_getElem? hr2)) b5, t5.congr fun x y _ _ => ?_⟩
          show _ = rzT _ o x y
          unfold rzT rz
          rw [h2']
          rfl
        · have h2' : ¬ o.kind = 2 := fun z => h2 (decide_eq_true z)
          refine ⟨_, rfl, s4, t4.congr fun x y _ _ => ?_⟩
          show _ = rzT _ o x y
          unfold rzT rz
          rw [if_neg h2']
      · rintro σ H3 ⟨v4, rfl, s3, t3⟩
        rw [List.length_map, ht.len, List.take_length] at t3
        exact ⟨_, rfl, k H3 D s3 ⟨as, t3⟩⟩
end
end Lk
end
section
set_option Elab.async false
set_option linter.all false
set_option maxRecDepth 100000
set_option maxHeartbeats 4000000
namespace Lk
open PySem PySem.Spec PyProof.Rows L2
abbrev s_highest_apart : Stmt := top 11
theorem sc_highest_apart : FnScope ["table", "size", "apart", "first", "second"] ["table"] (defScope s_highest_apart) := ⟨rfl, rfl, rfl, by decide +kernel, rfl, by decide +kernel, by decide +kernel⟩
abbrev s_row_with_common : Stmt := top 12
theorem sc_row_with_common : FnScope ["first", "apart", "second"] ["first", "apart"] (defScope s_row_with_common) := ⟨rfl, rfl, rfl, by decide +kernel, rfl, by decide +kernel, by decide +kernel⟩
abbrev s_same_with_any_put_to_both : Stmt := top 13
theorem sc_same_with_any_put_to_both : FnScope ["table", "apart", "first"] ["table"] (defScope s_same_with_any_put_to_both) := ⟨rfl, rfl, rfl, by decide +kernel, rfl, by decide +kernel, by decide +kernel⟩
theorem less_le (a b : Nat) : less a b ≤ a := Nat.sub_le _ _
structure Ap (n : Nat) (v : Nat → Nat → Nat) (i j : Nat) (w : Nat → Nat → Nat) : Prop where
  low : ∀ c d, c < n → d < n → (c < i ∨ (c = i ∧ d < j)) → v c d ≤ w (less c d) (less d c)
  least : ∀ B : Nat → Nat → Nat, (∀ c d, c < n → d < n → v c d ≤ B (less c d) (less d c)) → ∀ x y, x < n → y < n → w x y ≤ B x y
theorem Ap.step {n i j : Nat} {v w : Nat → Nat → Nat} (h : Ap n v i j w) (hi : i < n) (hj : j < n) : Ap n v i (j + 1) (rz w (less i j) (less j i) (v i j)) where
  low := fun c d hc hd h1 => by
    unfold rz
    by_cases e : c = i ∧ d = j
    · obtain ⟨rfl, rfl⟩ := e
      rw [if_pos ⟨rfl, rfl⟩]; omega
    · have q := h.low c d hc hd (by omega)
      split <;> omega
  least := fun B hB x y hx hy => by
    unfold rz
    have q := h.least B hB x y hx hy
    split
    · rename_i e
      have := hB i j hi hj
      rw [e.1, e.2] at q ⊢
      omega
    · exact q
theorem Ap.next {n i : Nat} {v w : Nat → Nat → Nat} (h : Ap n v i n w) : Ap n v (i + 1) 0 w := ⟨fun c d hc hd h1 => h.low c d hc hd (by omega), h.least⟩
theorem rep1 {x : V} : ∀ n : Nat, (List.replicate n [x]).flatten = List.replicate n x
  | 0 => rfl
  | n + 1 => by rw [List.replicate_succ, List.flatten_cons, rep1 n]; rfl
theorem rep_nums (n : Nat) : (List.replicate n [V.int 0]).flatten = nums n (fun _ => 0) := by
  rw [rep1]
  unfold nums
  rw [List.map_const', List.length_range]
  rfl
section
variable {P : Program} {w : World} {K : PySem.W.Frag} {mg : Str → Option Value} {base : Heap}
def spApart : Sp := fun vs H Q _ => ∃ (p : Addr) (n : Nat) (v : Nat → Nat → Nat), vs = [.ref p] ∧ 0 < n ∧ n ≤ 32 ∧ Tab H p n v ∧ ∀ (H' : Hp) (q : Addr) (u : Nat → Nat → Nat), Same H H' → Tab H' q n u → Ap n v n 0 u → Q (.ref q) H'
theorem ok_apart {f : Addr} {fd : FuncData} (F : Fun K "highest_apart" "highest_apart" s_highest_apart f fd) (G : Gn mg) {f_raise_to : Addr} {fd_raise_to : FuncData} (O_raise_to : FnOk P w K mg base CX0 1 f_raise_to fd_raise_to ["table", "first", "second", "level"] spRaise) (D_raise_to : Df K mg "raise_to" f_raise_to fd_raise_to ["table", "first", "second", "level"]) {f_without : Addr} {fd_without : FuncData} (O_without : FnOk P w K mg base CX0 1 f_without fd_without ["chosen", "others"] spWithout) (D_without : Df K mg "without" f_without fd_without ["chosen", "others"]) : FnOk P w K mg base CX0 2 f fd ["table"] spApart := by
  refine F.ok sc_highest_apart (fun vs H Q E h => ?_) (fun cdv A outer s H vs Q E hr h => ?_)
  · obtain ⟨p, n, v, rfl, _⟩ := h
    rfl
  · obtain ⟨p, n, v, rfl, hP, hN, ⟨bs, ht⟩, k⟩ := h
    refine ⟨_, (pss_cons (ps_set (i := 1) sc_highest_apart.nd rfl (Or.inr rfl) (pe_callB (lens (K := K)) (by rfl) G.len PySem.boot_len (pa_cons (pv 0) pa_nil)))
      (pss_cons (ps_setLc (i := 2) (own := [("first", 3)]) rfl sc_highest_apart.nd rfl rfl (sw_true rfl rfl rfl rfl) (pi_range1 rfl G.range (pa_cons (pv 1) pa_nil)) (blkOk_by rfl) (fun _ _ _ _ _ => (pg_name (i := 3) sc_highest_apart.nd rfl (Or.inl rfl))) (fun _ _ _ _ _ => pts_nil) (fun _ _ _ _ _ => (pe_op op_rep (pe_lst (pa_cons (pgi G.not_) pa_nil)) (pv 1))))
      (pss_cons (ps_for PassesOwn.never rfl (pi_range1 rfl G.range (pa_cons (pv 1) pa_nil)) (pg_name (i := 3) sc_highest_apart.nd rfl (Or.inl rfl))
        (pss_one (ps_for PassesOwn.never rfl (pi_range1 rfl G.range (pa_cons (pv 1) pa_nil)) (pg_name (i := 4) sc_highest_apart.nd rfl (Or.inl rfl))
        (pss_one (ps_expr (pe_call O_raise_to (hr.mono (by decide)) rfl D_raise_to.mg D_raise_to.kp D_raise_to.b .nil pass0 (pa_cons (pv 2) (pa_cons (pe_call O_without (hr.mono (by decide)) rfl D_without.mg D_without.kp D_without.b .nil pass0 (pa_cons (pv 3) (pa_cons (pv 4) pa_nil))) (pa_cons (pe_call O_without (hr.mono (by decide)) rfl D_without.mg D_without.kp D_without.b .nil pass0 (pa_cons (pv 4) (pa_cons (pv 3) pa_nil))) (pa_cons (pe_ix (ixl (K := K)) (pe_ix (ixl (K := K)) (pv 0) (pv 3) (fun _ _ => rfl)) (pv 4) (fun _ _ => rfl)) pa_nil))))))))))
      (pss_one (ps_ret (pv 2)))))), ?_⟩
    refine ⟨_, rfl, p, _, rfl, .inl (SqL.of ht.lst), ?_⟩
    rw [List.length_map, ht.len]
    refine ⟨_, rfl, (n : Int), rfl, by omega, by omega, fun D hD => ?_⟩
    refine lcr (n := n) (Part H D n fun _ _ => 0) (Part.start hD) ?_ ?_
    · intro i H' hi PP
      refine ⟨rfl, by show 1 ≤ sizeLine; decide, fun q1 hq1 => ⟨_, rfl, q1, (n : Int), _, rfl, rfl, upd_same, by omega, by omega, ?_, fun q hq => ?_⟩⟩
      · rw [Int.toNat_natCast]; show 1 * n ≤ sizeLine; rw [Nat.one_mul]; exact Nat.le_trans hN (by decide)
      · rw [Int.toNat_natCast, rep_nums]
        have hq' : H' q = none := (Same.new hq1).free hq
        have s2 : Same H' (upd (upd H' q1 (.lst [V.int 0])) q (.lst (nums n fun _ => 0))) := (Same.new hq1).trans (Same.new hq)
        obtain ⟨acc, h1, h2, h3⟩ := PP.step hP hD hq' s2 upd_same
        exact ⟨acc, h1, by rw [h2]; exact Nat.lt_of_lt_of_le hi (Nat.le_trans hN (by decide)), h3⟩
    · intro H' PP
      obtain ⟨as, s1, t1, nd, fr⟩ := PP.tab
      refine ⟨_, rfl, (n : Int), rfl, by omega, by omega, frn (n := n) (fun i σ H2 => ∃ v2 v4 : Option V, σ = [some (.ref p), some (.int (n : Int)), some (.ref D), v2, v4] ∧ Same H H2 ∧ ∃ u, TabA H2 D as n u ∧ Ap n v i 0 u)
        ⟨none, none, rfl, s1, _, t1, ⟨fun c d _ _ z => by omega, fun B hB x y _ _ => Nat.zero_le _⟩⟩ ?_ ?_⟩
      · rintro i σ H2 hi ⟨v2, v4, rfl, s2, u, t2, ap⟩
        refine ⟨_, rfl, (n : Int), rfl, by omega, by omega, frn (n := n) (fun j σ H3 => ∃ v4 : Option V, σ = [some (.ref p), some (.int (n : Int)), some (.ref D), some (.int (i : Int)), v4] ∧ Same H H3 ∧ ∃ u, TabA H3 D as n u ∧ Ap n v i j u)
          ⟨v4, rfl, s2, u, t2, ap⟩ ?_ ?_⟩
        · rintro j σ H3 hj ⟨v4, rfl, s3, u, t3, ap⟩
          have ht3 := ht.same s3
          obtain ⟨rr, _, hr1, hr2⟩ := ht3.get hi
          have hx : less i j < n := Nat.lt_of_le_of_lt (less_le i j) hi
          have hy : less j i < n := Nat.lt_of_le_of_lt (less_le j i) hj
          obtain ⟨r1, hr1', _⟩ := t3.get hx
          refine ⟨_, rfl, _, rfl, _, rfl, i, j, rfl, _, rfl, _, rfl, j, i, rfl, _, rfl, _, rfl, p, _, _, _, rfl, rfl, SqL.of ht3.lst, atI_nat hr1, _, rfl, rr, _, _, _, rfl, rfl, SqL.of hr2, atI_nat (nums_get hj), ?_⟩
          refine ⟨D, as, n, less i j, less j i, v i j, u, r1, rfl, t3, nd, hx, hy, hr1', fun H4 b4 t4 => ?_⟩
          exact ⟨_, rfl, But.same s3 (fr r1 (List.mem_of_getElem? hr1')) b4, _, t4, ap.step hi hj⟩
        · rintro σ H3 ⟨v4, rfl, s3, u, t3, ap⟩
          exact ⟨_, _, rfl, s3, u, t3, ap.next⟩
      · rintro σ H2 ⟨v2, v4, rfl, s2, u, t2, ap⟩
        exact ⟨_, rfl, k H2 D u s2 ⟨as, t2⟩ ap⟩
def spRowCommon : Sp := fun vs H Q _ => ∃ (a : Nat) (p : Addr) (n : Nat) (v : Nat → Nat → Nat), vs = [.int a, .ref p] ∧ a < n ∧ n ≤ 32 ∧ Tab H p n v ∧ ∀ (H' : Hp) (q : Addr), H q = none → Same H H' → H' q = some (.lst (nums n fun b => v (less a b) (less b a))) → Q (.ref q) H'
theorem ok_rowCommon {f : Addr} {fd : FuncData} (F : Fun K "row_with_common" "row_with_common" s_row_with_common f fd) (G : Gn mg) {f_without : Addr} {fd_without : FuncData} (O_without : FnOk P w K mg base CX0 1 f_without fd_without ["chosen", "others"] spWithout) (D_without : Df K mg "without" f_without fd_without ["chosen", "others"]) : FnOk P w K mg base CX0 2 f fd ["first", "apart"] spRowCommon := by
  refine F.ok sc_row_with_common (fun vs H Q E h => ?_) (fun cdv A outer s H vs Q E hr h => ?_)
  · obtain ⟨a, p, n, v, rfl, _⟩ := h
    rfl
  · obtain ⟨a, p, n, v, rfl, ha, hN, ⟨as, ht⟩, k⟩ := h
    refine ⟨_, (pss_one (ps_ret (pe_lc (own := [("second", 2)]) rfl sc_row_with_common.nd (pi_range1 rfl G.range (pa_cons (pe_callB (lens (K := K)) (by rfl) G.len PySem.boot_len (pa_cons (pv 1) pa_nil)) pa_nil)) (blkOk_by rfl) (fun _ _ _ _ _ => (pg_name (i := 2) sc_row_with_common.nd rfl (Or.inl rfl))) (fun _ _ _ _ _ => pts_nil) (fun _ _ _ _ _ => (pe_ix (ixl (K := K)) (pe_ix (ixl (K := K)) (pv 1) (pe_call O_without (hr.mono (by decide)) rfl D_without.mg D_without.kp D_without.b .nil pass0 (pa_cons (pv 0) (pa_cons (pv 2) pa_nil))) (fun _ _ => rfl)) (pe_call O_without (hr.mono (by decide)) rfl D_without.mg D_without.kp D_without.b .nil pass0 (pa_cons (pv 2) (pa_cons (pv 0) pa_nil))) (fun _ _ => rfl)))))), ?_⟩
    refine ⟨_, rfl, p, _, rfl, .inl (SqL.of ht.lst), ?_⟩
    rw [List.length_map, ht.len]
    refine ⟨(n : Int), rfl, by omega, by omega, fun D hD => ?_⟩
    refine lcr (n := n) (fun i H' => Same H H' ∧ H' D = some (.lst (nums i fun b => v (less a b) (less b a)))) ⟨Same.new hD, upd_same⟩ ?_ ?_
    · rintro i H' hi ⟨s1, hd⟩
      have t1 := ht.same s1
      have hx : less a i < n := Nat.lt_of_le_of_lt (less_le a i) ha
      have hy : less i a < n := Nat.lt_of_le_of_lt (less_le i a) hi
      obtain ⟨r, _, hr1, hr2⟩ := t1.get hx
      refine ⟨rfl, _, rfl, _, rfl, _, rfl, a, i, rfl, p, _, _, _, rfl, rfl, SqL.of t1.lst, atI_nat hr1, _, rfl, _, rfl, i, a, rfl, r, _, _, _, rfl, rfl, SqL.of hr2, atI_nat (nums_get hy), ?_⟩
      exact ⟨_, hd, by rw [nums_length]; exact Nat.lt_of_lt_of_le hi (Nat.le_trans hN (by decide)), Same.put s1 hD, by rw [upd_same, nums_snoc]⟩
    · rintro H' ⟨s1, hd⟩
      exact k H' D hD s1 hd
def spSameAny : Sp := fun vs H Q _ => ∃ (p : Addr) (n : Nat) (v : Nat → Nat → Nat), vs = [.ref p] ∧ 0 < n ∧ n ≤ 32 ∧ Tab H p n v ∧ ∀ (H' : Hp) (q : Addr) (u : Nat → Nat → Nat), Same H H' → Tab H' q n (fun a b => u (less a b) (less b a)) → Ap n v n 0 u → Q (.ref q) H'
theorem ok_sameAny {f : Addr} {fd : FuncData} (F : Fun K "same_with_any_put_to_both" "same_with_any_put_to_both" s_same_with_any_put_to_both f fd) (G : Gn mg) {f_highest_apart : Addr} {fd_highest_apart : FuncData} (O_highest_apart : FnOk P w K mg base CX0 2 f_highest_apart fd_highest_apart ["table"] spApart) (D_highest_apart : Df K mg "highest_apart" f_highest_apart fd_highest_apart ["table"]) {f_row_with_common : Addr} {fd_row_with_common : FuncData} (O_row_with_common : FnOk P w K mg base CX0 2 f_row_with_common fd_row_with_common ["first", "apart"] spRowCommon) (D_row_with_common : Df K mg "row_with_common" f_row_with_common fd_row_with_common ["first", "apart"]) : FnOk P w K mg base CX0 3 f fd ["table"] spSameAny := by
  refine F.ok sc_same_with_any_put_to_both (fun vs H Q E h => ?_) (fun cdv A outer s H vs Q E hr h => ?_)
  · obtain ⟨p, n, v, rfl, _⟩ := h
    rfl
  · obtain ⟨p, n, v, rfl, hP, hN, ht, k⟩ := h
    refine ⟨_, (pss_cons (ps_set (i := 1) sc_same_with_any_put_to_both.nd rfl (Or.inr rfl) (pe_call O_highest_apart (hr.mono (by decide)) rfl D_highest_apart.mg D_highest_apart.kp D_highest_apart.b .nil pass0 (pa_cons (pv 0) pa_nil)))
      (pss_one (ps_ret (pe_lc (own := [("first", 2)]) rfl sc_same_with_any_put_to_both.nd (pi_range1 rfl G.range (pa_cons (pe_callB (lens (K := K)) (by rfl) G.len PySem.boot_len (pa_cons (pv 1) pa_nil)) pa_nil)) (blkOk_by rfl) (fun _ _ _ _ _ => (pg_name (i := 2) sc_same_with_any_put_to_both.nd rfl (Or.inl rfl))) (fun _ _ _ _ _ => pts_nil) (fun _ _ _ _ _ => (pe_call O_row_with_common (hr.mono (by decide)) rfl D_row_with_common.mg D_row_with_common.kp D_row_with_common.b .nil pass0 (pa_cons (pv 2) (pa_cons (pv 1) pa_nil)))))))), ?_⟩
    refine ⟨_, rfl, p, n, v, rfl, hP, hN, ht, fun H1 q1 u s1 t1 ap => ?_⟩
    obtain ⟨as, t1'⟩ := t1
    refine ⟨_, rfl, q1, _, rfl, .inl (SqL.of t1'.lst), ?_⟩
    rw [List.length_map, t1'.len]
    refine ⟨(n : Int), rfl, by omega, by omega, fun D hD => ?_⟩
    refine lcr (n := n) (Part H1 D n fun a b => u (less a b) (less b a)) (Part.start hD) ?_ ?_
    · intro i H' hi PP
      refine ⟨rfl, _, rfl, _, rfl, i, q1, n, u, rfl, hi, hN, ⟨as, t1'.same PP.1⟩, fun H2 q hq s2 hrow => ?_⟩
      obtain ⟨acc, h1, h2, h3⟩ := PP.step hP hD hq s2 hrow
      exact ⟨acc, h1, by rw [h2]; exact Nat.lt_of_lt_of_le hi (Nat.le_trans hN (by decide)), h3⟩
    · intro H' PP
      obtain ⟨bs, s2, t2, _⟩ := PP.tab
      exact k H' D u (s1.trans s2) ⟨bs, t2⟩ ap
end
end Lk
end
section
set_option Elab.async false
set_option linter.all false
set_option maxRecDepth 100000
set_option maxHeartbeats 4000000
namespace Lk
open PySem PySem.Spec PyProof.Rows L2
abbrev s_row_through : Stmt := top 14
theorem sc_row_through : FnScope ["row", "level", "onward", "longer", "direct", "step"] ["row", "level", "onward"] (defScope s_row_through) := ⟨rfl, rfl, rfl, by decide +kernel, rfl, by decide +kernel, by decide +kernel⟩
abbrev s_from_one_to_the_next : Stmt := top 15
theorem sc_from_one_to_the_next : FnScope ["table", "rows", "middle", "first", "level"] ["table"] (defScope s_from_one_to_the_next) := ⟨rfl, rfl, rfl, by decide +kernel, rfl, by decide +kernel, by decide +kernel⟩
def thr (l : Nat) (f g : Nat → Nat) : Nat → Nat := fun b => if g b = 0 then f b else max (f b) (max l (g b))
section
variable {P : Program} {w : World} {K : PySem.W.Frag} {mg : Str → Option Value} {base : Heap}
def spThrough : Sp := fun vs H Q _ => ∃ (p q : Addr) (n l : Nat) (f g : Nat → Nat), vs = [.ref p, .int l, .ref q] ∧ n ≤ 32 ∧ H p = some (.lst (nums n f)) ∧ H q = some (.lst (nums n g)) ∧
  ∀ (H' : Hp) (r : Addr), H r = none → Same H H' → H' r = some (.lst (nums n (thr l f g))) → Q (.ref r) H'
theorem ok_through {f : Addr} {fd : FuncData} (F : Fun K "row_through" "row_through" s_row_through f fd) (G : Gn mg) : FnOk P w K mg base CX0 1 f fd ["row", "level", "onward"] spThrough := by
  refine F.ok sc_row_through (fun vs H Q E h => ?_) (fun cdv A outer s H vs Q E hr h => ?_)
  · obtain ⟨p, q, n, l, f, g, rfl, _⟩ := h
    rfl
  · obtain ⟨p, q, n, l, f, g, rfl, hN, hp, hq, k⟩ := h
    refine ⟨_, (pss_cons (ps_set (i := 3) sc_row_through.nd rfl (Or.inl rfl) (pe_lst pa_nil))
      (pss_cons (ps_for PassesOwn.never rfl (pi_zip rfl G.zip (pa_cons (pv 0) (pa_cons (pv 2) pa_nil))) (pgt (K := K) (n := 2) rfl (pgs_cons (pg_name (i := 4) sc_row_through.nd rfl (Or.inl rfl)) (pgs_cons (pg_name (i := 5) sc_row_through.nd rfl (Or.inl rfl)) pgs_nil)))
        (pss_one (ps_expr (pe_bm PySem.F.plainAttrs_list PySem.F.slot_list_append PySem.F.type_list_append mt_append (pv 3) (pa_cons (pe_ifExp (pt_cmpR op_eqn (pv 5) (pgi G.not_) (nomark _)) (pv 4) (pe_callB (call_max3 rfl) rfl G.max boot_max (pa_cons (pv 4) (pa_cons (pv 1) (pa_cons (pv 5) pa_nil))))) pa_nil)))))
      (pss_one (ps_ret (pv 3))))), ?_⟩
    refine ⟨Nat.zero_le _, fun r hr => ?_⟩
    have s1 : Same H (upd H r (.lst [])) := Same.new hr
    refine ⟨_, rfl, _, rfl, p, q, _, _, rfl, SqL.of (s1 _ _ hp), SqL.of (s1 _ _ hq), for_zip (K := K) (a := p) (b := q) (xs := nums n f) (ys := nums n g)
      (fun i σ H2 => ∃ v4 v5 : Option V, σ = [some (.ref p), some (.int (l : Int)), some (.ref q), some (.ref r), v4, v5] ∧ Same H H2 ∧ H2 r = some (.lst (nums i (thr l f g)))) (by rw [nums_length, nums_length]) ⟨none, none, rfl, s1, upd_same⟩
      (fun i σ H2 ⟨_, _, _, s2, _⟩ => ⟨SqL.of (s2 _ _ hp), SqL.of (s2 _ _ hq)⟩) ?_ ?_⟩
    · rintro i x y T σ H2 hx hy ⟨v4, v5, rfl, s2, hr2⟩ hT
      have hi : i < n := by
        have := (List.getElem?_eq_some_iff.mp hx).1
        rw [nums_length] at this; exact this
      rw [nums_get hi] at hx hy
      cases hx; cases hy
      have s3 : Same H (upd H2 T (.tup [V.int (f i : Int), V.int (g i : Int)])) := s2.trans (Same.new hT)
      have hr3 : (upd H2 T (.tup [V.int (f i : Int), V.int (g i : Int)])) r = some (.lst (nums i (thr l f g))) := Same.new hT _ _ hr2
      have hlen : (nums i (thr l f g)).length < sizeLine := by rw [nums_length]; exact Nat.lt_of_lt_of_le hi (Nat.le_trans hN (by decide))
      refine ⟨T, _, rfl, SqT.of upd_same, rfl, _, _, rfl, _, _, rfl, rfl, _, rfl, .inl ⟨rfl, _, SqL.of hr3⟩, _, rfl, g i, 0, rfl, rfl, _, rfl, ?_⟩
      refine ite2 (fun h => ?_) (fun h => ?_)
      · refine ⟨_, rfl, r, _, _, rfl, rfl, hr3, hlen, _, _, rfl, Same.put s3 hr, ?_⟩
        rw [upd_same, nums_snoc]
        unfold thr
        rw [if_pos (of_decide_eq_true h)]
      · refine ⟨_, rfl, _, rfl, _, rfl, f i, l, g i, rfl, r, _, _, rfl, rfl, hr3, hlen, _, _, rfl, Same.put s3 hr, ?_⟩
        rw [upd_same, nums_snoc]
        unfold thr
        rw [if_neg (fun z => h (decide_eq_true z))]
    · rintro σ H2 ⟨v4, v5, rfl, s2, hr2⟩
      rw [nums_length] at hr2
      exact ⟨_, rfl, k H2 r hr s2 hr2⟩
structure Fw (n : Nat) (v : Nat → Nat → Nat) (m j : Nat) (w : Nat → Nat → Nat) : Prop where
  up : ∀ a b, a < n → b < n → v a b ≤ w a b
  least : ∀ B : Nat → Nat → Nat, (∀ a b, a < n → b < n → v a b ≤ B a b) → (∀ a b c, a < n → b < n → c < n → 0 < B a b → 0 < B b c → max (B a b) (B b c) ≤ B a c) → ∀ a b, a < n → b < n → w a b ≤ B a b
  on : (∀ a b, a < n → b < n → w a b = v a b) → ∀ c a b, c < n → a < n → b < n → (c < m ∨ (c = m ∧ a < j)) → 0 < v a c → 0 < v c b → max (v a c) (v c b) ≤ v a b
def put (w : Nat → Nat → Nat) (j : Nat) (f : Nat → Nat) : Nat → Nat → Nat := fun a b => if a = j then f b else w a b
theorem Fw.step {n m j : Nat} {v w : Nat → Nat → Nat} (h : Fw n v m j w) (hm : m < n) (hj : j < n) (h0 : w j m ≠ 0) : Fw n v m (j + 1) (put w j (thr (w j m) (w j) (w m))) where
  up := fun a b ha hb => by
    have q := h.up a b ha hb
    unfold put thr
    by_cases e : a = j
    · subst e
      rw [if_pos rfl]
      split <;> omega
    · rw [if_neg e]; exact q
  least := fun B h1 h2 a b ha hb => by
    have q := h.least B h1 h2
    unfold put thr
    by_cases e : a = j
    · subst e
      rw [if_pos rfl]
      have q1 := q a b ha hb
      have q2 := q a m ha hm
      have q3 := q m b hm hb
      split
      · exact q1
      · have := h2 a m b ha hm hb (by omega) (by omega)
        omega
    · rw [if_neg e]; exact q a b ha hb
  on := fun hq c a b hc ha hb h1 h2 h3 => by
    have e0 : ∀ a b, a < n → b < n → w a b = v a b := fun a b ha hb => by
      have q := hq a b ha hb
      have q2 := h.up a b ha hb
      unfold put thr at q
      by_cases e : a = j
      · subst e
        rw [if_pos rfl] at q
        split at q
        · exact q
        · omega
      · rw [if_neg e] at q; exact q
    by_cases e : c = m ∧ a = j
    · obtain ⟨rfl, rfl⟩ := e
      have q := hq a b ha hb
      unfold put thr at q
      rw [if_pos rfl, e0 a b ha hb, e0 a c ha hc, e0 c b hc hb, if_neg (by omega)] at q
      omega
    · exact h.on e0 c a b hc ha hb (by omega) h2 h3
theorem Fw.skip {n m j : Nat} {v w : Nat → Nat → Nat} (h : Fw n v m j w) (hm : m < n) (hj : j < n) (h0 : w j m = 0) : Fw n v m (j + 1) w :=
  ⟨h.up, h.least, fun hq c a b hc ha hb h1 h2 h3 => by
    by_cases e : c = m ∧ a = j
    · obtain ⟨rfl, rfl⟩ := e
      have := h.up a c ha hc
      omega
    · exact h.on hq c a b hc ha hb (by omega) h2 h3⟩
theorem Fw.next {n m : Nat} {v w : Nat → Nat → Nat} (h : Fw n v m n w) : Fw n v (m + 1) 0 w := ⟨h.up, h.least, fun hq c a b hc ha hb h1 => h.on hq c a b hc ha hb (by omega)⟩
def spOn : Sp := fun vs H Q _ => ∃ (p : Addr) (n : Nat) (v : Nat → Nat → Nat), vs = [.ref p] ∧ 0 < n ∧ n ≤ 32 ∧ Tab H p n v ∧ ∀ (H' : Hp) (q : Addr) (u : Nat → Nat → Nat), Same H H' → Tab H' q n u → Fw n v n 0 u → Q (.ref q) H'
theorem ok_on {f : Addr} {fd : FuncData} (F : Fun K "from_one_to_the_next" "from_one_to_the_next" s_from_one_to_the_next f fd) (G : Gn mg) {f_row_through : Addr} {fd_row_through : FuncData} (O_row_through : FnOk P w K mg base CX0 1 f_row_through fd_row_through ["row", "level", "onward"] spThrough) (D_row_through : Df K mg "row_through" f_row_through fd_row_through ["row", "level", "onward"]) : FnOk P w K mg base CX0 2 f fd ["table"] spOn := by
  refine F.ok sc_from_one_to_the_next (fun vs H Q E h => ?_) (fun cdv A outer s H vs Q E hr h => ?_)
  · obtain ⟨p, n, v, rfl, _⟩ := h
    rfl
  · obtain ⟨p, n, v, rfl, hP, hN, ⟨as, ht⟩, k⟩ := h
    refine ⟨_, (pss_cons (ps_set (i := 1) sc_from_one_to_the_next.nd rfl (Or.inl rfl) (pe_callTy call_list_of rfl G.list boot_list (pa_cons (pv 0) pa_nil)))
      (pss_cons (ps_for PassesOwn.never rfl (pi_range1 rfl G.range (pa_cons (pe_callB (lens (K := K)) (by rfl) G.len PySem.boot_len (pa_cons (pv 1) pa_nil)) pa_nil)) (pg_name (i := 2) sc_from_one_to_the_next.nd rfl (Or.inl rfl))
        (pss_one (ps_for PassesOwn.never rfl (pi_range1 rfl G.range (pa_cons (pe_callB (lens (K := K)) (by rfl) G.len PySem.boot_len (pa_cons (pv 1) pa_nil)) pa_nil)) (pg_name (i := 3) sc_from_one_to_the_next.nd rfl (Or.inl rfl))
        (pss_cons (ps_set (i := 4) sc_from_one_to_the_next.nd rfl (Or.inl rfl) (pe_ix (ixl (K := K)) (pe_ix (ixl (K := K)) (pv 1) (pv 3) (fun _ _ => rfl)) (pv 2) (fun _ _ => rfl)))
      (pss_one (ps_if (pt_cmpR op_nen (pv 4) (pgi G.not_) (nomark _)) (pss_one (ps_asg (pe_call O_row_through (hr.mono (by decide)) rfl D_row_through.mg D_row_through.kp D_row_through.b .nil pass0 (pa_cons (pe_ix (ixl (K := K)) (pv 1) (pv 3) (fun _ _ => rfl)) (pa_cons (pv 4) (pa_cons (pe_ix (ixl (K := K)) (pv 1) (pv 2) (fun _ _ => rfl)) pa_nil)))) (pg_sub (pv 1) (pv 3) set_list))) pss_nil))))))
      (pss_one (ps_ret (pv 1))))), ?_⟩
    refine ⟨_, rfl, p, _, rfl, .inl (SqL.of ht.lst), fun q hq => ?_⟩
    have s1 : Same H (upd H q (.lst (as.map V.ref))) := Same.new hq
    have t1 : TabA (upd H q (.lst (as.map V.ref))) q as n v := ⟨ht.len, upd_same, fun a r e => s1 _ _ (ht.row a r e)⟩
    refine ⟨_, rfl, q, _, rfl, .inl (SqL.of upd_same), ?_⟩
    rw [List.length_map, ht.len]
    refine ⟨(n : Int), rfl, by omega, by omega, frn (n := n) (fun m σ H2 => ∃ v2 v3 v4 : Option V, σ = [some (.ref p), some (.ref q), v2, v3, v4] ∧ Same H H2 ∧ ∃ bs u, TabA H2 q bs n u ∧ Fw n v m 0 u)
      ⟨none, none, none, rfl, s1, as, v, t1, fun _ _ _ _ => Nat.le_refl _, fun B h1 _ => h1, fun _ c a b _ _ _ z => by omega⟩ ?_ ?_⟩
    · rintro m σ H2 hm ⟨v2, v3, v4, rfl, s2, bs, u, t2, fw⟩
      refine ⟨_, rfl, q, _, rfl, .inl (SqL.of t2.lst), ?_⟩
      rw [List.length_map, t2.len]
      refine ⟨(n : Int), rfl, by omega, by omega, frn (n := n) (fun j σ H3 => ∃ v3 v4 : Option V, σ = [some (.ref p), some (.ref q), some (.int (m : Int)), v3, v4] ∧ Same H H3 ∧ ∃ bs u, TabA H3 q bs n u ∧ Fw n v m j u)
        ⟨v3, v4, rfl, s2, bs, u, t2, fw⟩ ?_ ?_⟩
      · rintro j σ H3 hj ⟨v3, v4, rfl, s3, bs, u, t3, fw⟩
        obtain ⟨rj, hrj, hrj1, hrj2⟩ := t3.get hj
        obtain ⟨rm, hrm, hrm1, hrm2⟩ := t3.get hm
        refine ⟨_, rfl, _, rfl, q, _, _, _, rfl, rfl, SqL.of t3.lst, atI_nat hrj1, _, rfl, rj, _, _, _, rfl, rfl, SqL.of hrj2, atI_nat (nums_get hm), ?_⟩
        refine ⟨_, rfl, u j m, 0, rfl, rfl, _, rfl, ?_⟩
        refine ite2 (fun h => ?_) (fun h => ?_)
        · have h0 : u j m ≠ 0 := fun z => by rw [z] at h; cases h
          refine ⟨_, rfl, _, rfl, q, _, _, _, rfl, rfl, SqL.of t3.lst, atI_nat hrj1, _, rfl, _, rfl, _, rfl, q, _, _, _, rfl, rfl, SqL.of t3.lst, atI_nat hrm1, rj, rm, n, u j m, u j, u m, rfl, hN, hrj2, hrm2, fun H4 r hr4 s4 hrow => ?_⟩
          refine ⟨_, rfl, _, rfl, q, _, _, j, rfl, rfl, s4 _ _ t3.lst, ?_, ?_⟩
          · unfold ixN
            rw [if_pos (by omega), if_pos (by rw [List.length_map, t3.len]; omega), Int.toNat_natCast]
          · have hqr : r ≠ q := (ne_of_none t3.lst hr4).symm
            refine ⟨_, _, rfl, Same.put (s3.trans s4) hq, bs.set j r, _, ⟨by rw [List.length_set]; exact t3.len, ?_, fun a x hx => ?_⟩, fw.step hm hj h0⟩
            · rw [upd_same, List.map_set]
            · by_cases e : a = j
              · subst e
                rw [List.getElem?_set_self (by rw [t3.len]; exact hj)] at hx
                cases hx
                rw [upd_ne hqr, hrow]
                unfold put
                simp only [if_true]
              · rw [List.getElem?_set_ne (fun z => e z.symm)] at hx
                have hxr := t3.row a x hx
                have nq : x ≠ q := ne_of hxr t3.lst (nums_ne_refs hP)
                rw [upd_ne nq, s4 _ _ hxr]
                unfold put
                simp only [if_neg e]
        · have h0 : u j m = 0 := by
            by_cases z : u j m = 0
            · exact z
            · exact absurd (by rw [decide_eq_false z]; rfl) h
          exact ⟨_, _, rfl, s3, bs, u, t3, fw.skip hm hj h0⟩
      · rintro σ H3 ⟨v3, v4, rfl, s3, bs, u, t3, fw⟩
        exact ⟨_, _, _, rfl, s3, bs, u, t3, fw.next⟩
    · rintro σ H2 ⟨v2, v3, v4, rfl, s2, bs, u, t2, fw⟩
      exact ⟨_, rfl, k H2 q u s2 ⟨bs, t2⟩ fw⟩
end
end Lk
end
section
set_option Elab.async false
set_option linter.all false
set_option maxRecDepth 100000
set_option maxHeartbeats 4000000
namespace Lk
open PySem PySem.Spec PyProof.Rows L2
abbrev s_table_by_rules : Stmt := top 16
theorem sc_table_by_rules : FnScope ["worlds", "told", "table", "grown"] ["worlds", "told"] (defScope s_table_by_rules) := ⟨rfl, rfl, rfl, by decide +kernel, rfl, by decide +kernel, by decide +kernel⟩
abbrev s_is_broken : Stmt := top 17
theorem sc_is_broken : FnScope ["table", "chosen"] ["table"] (defScope s_is_broken) := ⟨rfl, rfl, rfl, by decide +kernel, rfl, by decide +kernel, by decide +kernel⟩
def rowD (n : Nat) (f : Nat → Nat) : PyData := .list ((List.range n).map fun b => PyData.int (f b : Nat))
def tabD (n : Nat) (v : Nat → Nat → Nat) : PyData := .list ((List.range n).map fun a => rowD n (v a))
theorem dpAll_of {K : PySem.W.Frag} {H : Hp} : ∀ (xs : List V) (ds : List PyData), xs.length = ds.length → (∀ (i : Nat) x d, xs[i]? = some x → ds[i]? = some d → Dp K H x d) → DpAll K H xs ds
  | [], [], _, _ => .nil
  | x :: xs, d :: ds, hl, h => .cons (h 0 x d rfl rfl) (dpAll_of xs ds (by simpa using hl) fun i y e h1 h2 => h (i + 1) y e (by simpa using h1) (by simpa using h2))
  | [], _ :: _, hl, _ => by simp at hl
  | _ :: _, [], hl, _ => by simp at hl
theorem rowD_dp {K : PySem.W.Frag} {H : Hp} {r : Addr} {n : Nat} {f : Nat → Nat} (h : H r = some (.lst (nums n f))) : Dp K H (.ref r) (rowD n f) := by
  refine .lst (SqL.of h) (dpAll_of _ _ (by rw [nums_length]; simp) fun i x d h1 h2 => ?_)
  have hi : i < n := by
    have := (List.getElem?_eq_some_iff.mp h1).1
    rw [nums_length] at this; exact this
  rw [nums_get hi] at h1
  rw [List.getElem?_map, List.getElem?_range hi] at h2
  cases h1; cases h2
  exact .int _
theorem tabD_dp {K : PySem.W.Frag} {H : Hp} {p : Addr} {as : List Addr} {n : Nat} {v : Nat → Nat → Nat} (t : TabA H p as n v) : Dp K H (.ref p) (tabD n v) := by
  refine .lst (SqL.of t.lst) (dpAll_of _ _ (by rw [List.length_map, t.len]; simp) fun i x d h1 h2 => ?_)
  have hi : i < n := by
    have := (List.getElem?_eq_some_iff.mp h1).1
    rw [List.length_map, t.len] at this; exact this
  obtain ⟨r, hr, hr1, hr2⟩ := t.get hi
  rw [hr1] at h1
  rw [List.getElem?_map, List.getElem?_range hi] at h2
  cases h1; cases h2
  exact rowD_dp hr2
theorem canLay_map {g : Nat → PyData} (h : ∀ a, PyData.canLay0 (g a) = true) : ∀ L : List Nat, PyData.canLayAll0 (L.map g) = true
  | [] => by simp [PyData.canLayAll0]
  | a :: L => by simp [PyData.canLayAll0, h a, canLay_map h L]
theorem depth_map {g : Nat → PyData} {k : Nat} (h : ∀ a, PyData.depth (g a) ≤ k) : ∀ L : List Nat, PyData.depthAll (L.map g) ≤ k
  | [] => by simp [PyData.depthAll]
  | a :: L => by
    have h1 := h a
    have h2 := depth_map h L
    rw [List.map_cons, PyData.depthAll]
    omega
theorem eqv_map {g h : Nat → PyData} : ∀ L : List Nat, PyData.eqvAll (L.map g) (L.map h) = L.all fun a => PyData.eqv (g a) (h a)
  | [] => by simp [PyData.eqvAll]
  | a :: L => by rw [List.map_cons, List.map_cons, PyData.eqvAll, eqv_map L, List.all_cons]
theorem tabD_shaped (n : Nat) (v : Nat → Nat → Nat) : SeqAt.shaped (tabD n v) = true := by
  unfold SeqAt.shaped
  have h1 : PyData.canLay0 (tabD n v) = true := by
    unfold tabD
    rw [PyData.canLay0]
    refine canLay_map (fun a => ?_) _
    unfold rowD
    rw [PyData.canLay0]
    exact canLay_map (fun b => by rw [PyData.canLay0]) _
  have h2 : PyData.depth (tabD n v) ≤ 2 := by
    unfold tabD
    rw [PyData.depth]
    refine Nat.succ_le_succ (depth_map (fun a => ?_) _)
    unfold rowD
    rw [PyData.depth]
    exact Nat.succ_le_succ (depth_map (fun b => by rw [PyData.depth]; exact Nat.le_refl _) _)
  rw [h1, Bool.true_and]
  exact decide_eq_true (by omega)
theorem tabD_eqv (n : Nat) (v w : Nat → Nat → Nat) : PyData.eqv (tabD n v) (tabD n w) = true ↔ ∀ a b, a < n → b < n → v a b = w a b := by
  unfold tabD
  rw [PyData.eqv, eqv_map, List.all_eq_true]
  constructor
  · intro h a b ha hb
    have h1 := h a (List.mem_range.mpr ha)
    unfold rowD at h1
    rw [PyData.eqv, eqv_map, List.all_eq_true] at h1
    have h2 := h1 b (List.mem_range.mpr hb)
    rw [PyData.eqv] at h2
    have h3 := eq_of_beq h2
    omega
  · intro h a ha
    unfold rowD
    rw [PyData.eqv, eqv_map, List.all_eq_true]
    intro b hb
    rw [PyData.eqv, h a b (List.mem_range.mp ha) (List.mem_range.mp hb)]
    exact beq_self_eq_true _
structure Closed (n : Nat) (B : Nat → Nat → Nat) : Prop where
  inv : ∀ a b, a < n → b < n → B a b = B (less a b) (less b a)
  on : ∀ a b c, a < n → b < n → c < n → 0 < B a b → 0 < B b c → max (B a b) (B b c) ≤ B a c
def Le (n : Nat) (v w : Nat → Nat → Nat) : Prop := ∀ a b, a < n → b < n → v a b ≤ w a b
structure Rules (n : Nat) (v r : Nat → Nat → Nat) : Prop where
  cl : Closed n r
  up : Le n v r
  least : ∀ B, Closed n B → Le n v B → Le n r B
theorem less32 : ∀ a, a < 32 → ∀ b, b < 32 → less (less a b) (less b a) = less a b := by decide +kernel
theorem grow {n : Nat} (hN : n ≤ 32) {v u w : Nat → Nat → Nat} (ap : Ap n v n 0 u) (fw : Fw n (fun a b => u (less a b) (less b a)) n 0 w) :
    Le n v w ∧ (∀ B, Closed n B → Le n v B → Le n w B) ∧ ((∀ a b, a < n → b < n → w a b = v a b) → Closed n v) := by
  have h1 : ∀ a b, a < n → b < n → v a b ≤ u (less a b) (less b a) := fun a b ha hb => ap.low a b ha hb (by omega)
  refine ⟨fun a b ha hb => Nat.le_trans (h1 a b ha hb) (fw.up a b ha hb), fun B cl hB => ?_, fun he => ?_⟩
  · have hu : ∀ x y, x < n → y < n → u x y ≤ B x y := ap.least B fun c d hc hd => by rw [← cl.inv c d hc hd]; exact hB c d hc hd
    refine fw.least B (fun a b ha hb => ?_) cl.on
    rw [cl.inv a b ha hb]
    exact hu _ _ (Nat.lt_of_le_of_lt (less_le a b) ha) (Nat.lt_of_le_of_lt (less_le b a) hb)
  · have e1 : ∀ a b, a < n → b < n → u (less a b) (less b a) = v a b := fun a b ha hb => by
      have q1 := h1 a b ha hb
      have q2 := fw.up a b ha hb
      have q3 := he a b ha hb
      omega
    refine ⟨fun a b ha hb => ?_, fun a b c ha hb hc p1 p2 => ?_⟩
    · have la : less a b < n := Nat.lt_of_le_of_lt (less_le a b) ha
      have lb : less b a < n := Nat.lt_of_le_of_lt (less_le b a) hb
      have q := e1 _ _ la lb
      rw [less32 a (by omega) b (by omega), less32 b (by omega) a (by omega), e1 a b ha hb] at q
      exact q
    · have q := fw.on (fun a b ha hb => by rw [e1 a b ha hb]; exact he a b ha hb) b a c hb ha hc (by omega)
      rw [e1 a b ha hb, e1 b c hb hc, e1 a c ha hc] at q
      exact q p1 p2
theorem closed2 (n : Nat) : Closed n fun _ _ => 2 := ⟨fun _ _ _ _ => rfl, fun _ _ _ _ _ _ _ _ => by decide⟩
def rest1 (f : Nat → Nat) : Nat → Nat
  | 0 => 0
  | n + 1 => rest1 f n + (2 - f n)
def rest2 (m : Nat) (v : Nat → Nat → Nat) : Nat → Nat
  | 0 => 0
  | n + 1 => rest2 m v n + rest1 (v n) m
theorem rest1_le {f g : Nat → Nat} : ∀ {n : Nat}, (∀ b, b < n → f b ≤ g b) → rest1 g n ≤ rest1 f n
  | 0, _ => Nat.le_refl _
  | n + 1, h => by
    have q := rest1_le (n := n) fun b hb => h b (by omega)
    have := h n (by omega)
    unfold rest1
    omega
theorem rest1_lt {f g : Nat → Nat} : ∀ {n : Nat}, (∀ b, b < n → f b ≤ g b) → (∀ b, b < n → g b ≤ 2) → (∃ b, b < n ∧ f b ≠ g b) → rest1 g n < rest1 f n
  | 0, _, _, h => by obtain ⟨b, hb, _⟩ := h; omega
  | n + 1, h1, h2, ⟨b, hb, hne⟩ => by
    have q := rest1_le (n := n) fun b hb => h1 b (by omega)
    have q1 := h1 n (by omega)
    have q2 := h2 n (by omega)
    unfold rest1
    by_cases e : b = n
    · subst e; omega
    · have := rest1_lt (n := n) (fun b hb => h1 b (by omega)) (fun b hb => h2 b (by omega)) ⟨b, by omega, hne⟩
      omega
theorem rest2_le {m : Nat} {v w : Nat → Nat → Nat} : ∀ {n : Nat}, (∀ a b, a < n → b < m → v a b ≤ w a b) → rest2 m w n ≤ rest2 m v n
  | 0, _ => Nat.le_refl _
  | n + 1, h => by
    have q := rest2_le (n := n) fun a b ha hb => h a b (by omega) hb
    have := rest1_le (n := m) fun b hb => h n b (by omega) hb
    unfold rest2
    omega
theorem rest2_lt {m : Nat} {v w : Nat → Nat → Nat} : ∀ {n : Nat}, (∀ a b, a < n → b < m → v a b ≤ w a b) → (∀ a b, a < n → b < m → w a b ≤ 2) → (∃ a b, a < n ∧ b < m ∧ v a b ≠ w a b) → rest2 m w n < rest2 m v n
  | 0, _, _, h => by obtain ⟨a, b, ha, _⟩ := h; omega
  | n + 1, h1, h2, ⟨a, b, ha, hb, hne⟩ => by
    have q := rest2_le (n := n) fun a b ha hb => h1 a b (by omega) hb
    have q1 := rest1_le (n := m) fun b hb => h1 n b (by omega) hb
    unfold rest2
    by_cases e : a = n
    · subst e
      have := rest1_lt (n := m) (fun b hb => h1 a b (by omega) hb) (fun b hb => h2 a b (by omega) hb) ⟨b, hb, hne⟩
      omega
    · have := rest2_lt (n := n) (fun a b ha hb => h1 a b (by omega) hb) (fun a b ha hb => h2 a b (by omega) hb) ⟨a, b, by omega, hb, hne⟩
      omega
theorem rz_le2 {v : Nat → Nat → Nat} {a b l : Nat} (h : ∀ x y, v x y ≤ 2) (hl : l ≤ 2) : ∀ x y, rz v a b l x y ≤ 2 := fun x y => by
  have := h x y
  unfold rz
  split <;> omega
theorem rzT_le2 {v : Nat → Nat → Nat} (h : ∀ x y, v x y ≤ 2) (t : Krae.Told) : ∀ x y, rzT v t x y ≤ 2 := by
  unfold rzT
  split
  · exact rz_le2 (rz_le2 h (by decide)) (by decide)
  · exact rz_le2 h (by split <;> decide)
theorem fold_le2 : ∀ (l : List Krae.Told) {v : Nat → Nat → Nat}, (∀ x y, v x y ≤ 2) → ∀ x y, l.foldl rzT v x y ≤ 2
  | [], _, h => h
  | t :: l, _, h => fold_le2 l (rzT_le2 h t)
theorem base0_le2 (n : Nat) (l : List Krae.Told) : ∀ x y, base0 n l x y ≤ 2 := fold_le2 l (rz_le2 (fun x y => by split <;> decide) (by decide))
section
variable {P : Program} {w : World} {K : PySem.W.Frag} {mg : Str → Option Value} {base : Heap}
def spRules : Sp := fun vs H Q _ => ∃ (n : Nat) (p : Addr) (l : List Krae.Told), vs = [.int n, .ref p] ∧ n ≤ 5 ∧ ToldAt H p l ∧ Sets n l ∧ ∀ (H' : Hp) (q : Addr) (r : Nat → Nat → Nat), Same H H' → Tab H' q (2 ^ n) r → Rules (2 ^ n) (base0 n l) r → Q (.ref q) H'
theorem ok_rules {f : Addr} {fd : FuncData} (F : Fun K "table_by_rules" "table_by_rules" s_table_by_rules f fd) (G : Gn mg) {f_table_at_first : Addr} {fd_table_at_first : FuncData} (O_table_at_first : FnOk P w K mg base CX0 2 f_table_at_first fd_table_at_first ["worlds", "told"] spTabFirst) (D_table_at_first : Df K mg "table_at_first" f_table_at_first fd_table_at_first ["worlds", "told"]) {f_same_with_any_put_to_both : Addr} {fd_same_with_any_put_to_both : FuncData} (O_same_with_any_put_to_both : FnOk P w K mg base CX0 3 f_same_with_any_put_to_both fd_same_with_any_put_to_both ["table"] spSameAny) (D_same_with_any_put_to_both : Df K mg "same_with_any_put_to_both" f_same_with_any_put_to_both fd_same_with_any_put_to_both ["table"]) {f_from_one_to_the_next : Addr} {fd_from_one_to_the_next : FuncData} (O_from_one_to_the_next : FnOk P w K mg base CX0 2 f_from_one_to_the_next fd_from_one_to_the_next ["table"] spOn) (D_from_one_to_the_next : Df K mg "from_one_to_the_next" f_from_one_to_the_next fd_from_one_to_the_next ["table"]) : FnOk P w K mg base CX0 4 f fd ["worlds", "told"] spRules := by
  refine F.ok sc_table_by_rules (fun vs H Q E h => ?_) (fun cdv A outer s H vs Q E hr h => ?_)
  · obtain ⟨n, p, l, rfl, _⟩ := h
    rfl
  · obtain ⟨n, p, l, rfl, hn, ht, hset, k⟩ := h
    have hN := pow_le hn
    have hP := pow_pos n
    refine ⟨_, (pss_cons (ps_set (i := 2) sc_table_by_rules.nd rfl (Or.inl rfl) (pe_call O_table_at_first (hr.mono (by decide)) rfl D_table_at_first.mg D_table_at_first.kp D_table_at_first.b .nil pass0 (pa_cons (pv 0) (pa_cons (pv 1) pa_nil))))
      (pss_cons (ps_set (i := 3) sc_table_by_rules.nd rfl (Or.inl rfl) (pe_call O_from_one_to_the_next (hr.mono (by decide)) rfl D_from_one_to_the_next.mg D_from_one_to_the_next.kp D_from_one_to_the_next.b .nil pass0 (pa_cons (pe_call O_same_with_any_put_to_both (hr.mono (by decide)) rfl D_same_with_any_put_to_both.mg D_same_with_any_put_to_both.kp D_same_with_any_put_to_both.b .nil pass0 (pa_cons (pv 2) pa_nil)) pa_nil)))
      (pss_cons (ps_while PassesOwn.never (pt_cmpR (neD (K := K) hr.units) (pv 3) (pv 2) (nomark _))
        (pss_cons (ps_set (i := 2) sc_table_by_rules.nd rfl (Or.inl rfl) (pv 3))
      (pss_one (ps_set (i := 3) sc_table_by_rules.nd rfl (Or.inl rfl) (pe_call O_from_one_to_the_next (hr.mono (by decide)) rfl D_from_one_to_the_next.mg D_from_one_to_the_next.kp D_from_one_to_the_next.b .nil pass0 (pa_cons (pe_call O_same_with_any_put_to_both (hr.mono (by decide)) rfl D_same_with_any_put_to_both.mg D_same_with_any_put_to_both.kp D_same_with_any_put_to_both.b .nil pass0 (pa_cons (pv 2) pa_nil)) pa_nil))))))
      (pss_one (ps_ret (pv 2)))))), ?_⟩
    refine ⟨_, rfl, _, rfl, n, p, l, rfl, hn, ht, hset, fun H1 q1 s1 t1 => ?_⟩
    refine ⟨_, rfl, q1, 2 ^ n, _, rfl, hP, hN, t1, fun H2 q2 u s2 t2 ap => ?_⟩
    refine ⟨q2, 2 ^ n, _, rfl, hP, hN, t2, fun H3 q3 w3 s3 t3 fw => ?_⟩
    have g1 := grow hN ap fw
    refine ⟨fun m σ H4 => ∃ (qt qg : Addr) (vt vg : Nat → Nat → Nat), σ = [some (.int (n : Int)), some (.ref p), some (.ref qt), some (.ref qg)] ∧ m = rest2 (2 ^ n) vt (2 ^ n) ∧ Same H H4 ∧ Tab H4 qt (2 ^ n) vt ∧ Tab H4 qg (2 ^ n) vg ∧
      Le (2 ^ n) (base0 n l) vt ∧ (∀ B, Closed (2 ^ n) B → Le (2 ^ n) (base0 n l) B → Le (2 ^ n) vt B) ∧
      Le (2 ^ n) vt vg ∧ (∀ B, Closed (2 ^ n) B → Le (2 ^ n) vt B → Le (2 ^ n) vg B) ∧ ((∀ a b, a < 2 ^ n → b < 2 ^ n → vg a b = vt a b) → Closed (2 ^ n) vt),
      ⟨_, q1, q3, _, w3, rfl, rfl, (s1.trans s2).trans s3, t1.same (s2.trans s3), t3, fun _ _ _ _ => Nat.le_refl _, fun B _ h => h, g1.1, g1.2.1, g1.2.2⟩, ?_⟩
    rintro m σ H4 ⟨qt, qg, vt, vg, rfl, rfl, s4, ⟨ast, t4⟩, ⟨asg, t5⟩, b1, b2, c1, c2, c3⟩
    refine ⟨_, rfl, _, rfl, _, _, tabD_dp t5, tabD_dp t4, tabD_shaped _ _, tabD_shaped _ _, _, rfl, ?_⟩
    refine ite2 (fun h => ?_) (fun h => ?_)
    · have hne : ∃ a b, a < 2 ^ n ∧ b < 2 ^ n ∧ vt a b ≠ vg a b := by
        refine Classical.byContradiction fun hno => ?_
        have e : PyData.eqv (tabD (2 ^ n) vg) (tabD (2 ^ n) vt) = true := (tabD_eqv _ _ _).mpr fun a b ha hb => Classical.byContradiction fun z => hno ⟨a, b, ha, hb, fun y => z y.symm⟩
        rw [e] at h
        cases h
      have hg2 : Le (2 ^ n) vg fun _ _ => 2 := c2 _ (closed2 _) (b2 _ (closed2 _) fun a b _ _ => base0_le2 n l a b)
      have hlt : rest2 (2 ^ n) vg (2 ^ n) < rest2 (2 ^ n) vt (2 ^ n) := rest2_lt c1 hg2 hne
      refine ⟨fun σ' H' => ∃ (qt' qg' : Addr) (vt' vg' : Nat → Nat → Nat), σ' = [some (.int (n : Int)), some (.ref p), some (.ref qt'), some (.ref qg')] ∧ rest2 (2 ^ n) vg (2 ^ n) = rest2 (2 ^ n) vt' (2 ^ n) ∧ Same H H' ∧ Tab H' qt' (2 ^ n) vt' ∧ Tab H' qg' (2 ^ n) vg' ∧
          Le (2 ^ n) (base0 n l) vt' ∧ (∀ B, Closed (2 ^ n) B → Le (2 ^ n) (base0 n l) B → Le (2 ^ n) vt' B) ∧
          Le (2 ^ n) vt' vg' ∧ (∀ B, Closed (2 ^ n) B → Le (2 ^ n) vt' B → Le (2 ^ n) vg' B) ∧ ((∀ a b, a < 2 ^ n → b < 2 ^ n → vg' a b = vt' a b) → Closed (2 ^ n) vt'),
        fun σ' H' hh => ⟨_, hlt, hh⟩, ?_⟩
      refine ⟨_, rfl, _, rfl, qg, 2 ^ n, vg, rfl, hP, hN, ⟨asg, t5⟩, fun H6 q6 u6 s6 t6 ap6 => ?_⟩
      refine ⟨q6, 2 ^ n, _, rfl, hP, hN, t6, fun H7 q7 w7 s7 t7 fw7 => ?_⟩
      have g7 := grow hN ap6 fw7
      exact ⟨qg, q7, vg, w7, rfl, rfl, (s4.trans s6).trans s7, Tab.same (s6.trans s7) ⟨asg, t5⟩, t7, fun a b ha hb => Nat.le_trans (b1 a b ha hb) (c1 a b ha hb), fun B cl hB => c2 B cl (b2 B cl hB), g7.1, g7.2.1, g7.2.2⟩
    · have e : PyData.eqv (tabD (2 ^ n) vg) (tabD (2 ^ n) vt) = true := by
        cases z : PyData.eqv (tabD (2 ^ n) vg) (tabD (2 ^ n) vt) with
        | true => rfl
        | false => rw [z] at h; exact absurd rfl h
      have cl := c3 ((tabD_eqv _ _ _).mp e)
      exact ⟨_, rfl, k H4 qt vt s4 ⟨ast, t4⟩ ⟨cl, b1, b2⟩⟩
def spBroken : Sp := fun vs H Q _ => ∃ (p : Addr) (n : Nat) (v : Nat → Nat → Nat), vs = [.ref p] ∧ n ≤ 32 ∧ Tab H p n v ∧ ∀ (H' : Hp), Same H H' → Q (.bl ((List.range n).any fun a => v a a == 2)) H'
theorem ok_broken {f : Addr} {fd : FuncData} (F : Fun K "is_broken" "is_broken" s_is_broken f fd) (G : Gn mg) : FnOk P w K mg base CX0 1 f fd ["table"] spBroken := by
  refine F.ok sc_is_broken (fun vs H Q E h => ?_) (fun cdv A outer s H vs Q E hr h => ?_)
  · obtain ⟨p, n, v, rfl, _⟩ := h
    rfl
  · obtain ⟨p, n, v, rfl, hN, ⟨as, ht⟩, k⟩ := h
    refine ⟨_, (pss_one (ps_ret (pe_cmpR (ins_ (K := K)) (pgi G.lik) (pe_lc (own := [("chosen", 1)]) rfl sc_is_broken.nd (pi_range1 rfl G.range (pa_cons (pe_callB (lens (K := K)) (by rfl) G.len PySem.boot_len (pa_cons (pv 0) pa_nil)) pa_nil)) (blkOk_by rfl) (fun _ _ _ _ _ => (pg_name (i := 1) sc_is_broken.nd rfl (Or.inl rfl))) (fun _ _ _ _ _ => pts_nil) (fun _ _ _ _ _ => (pe_ix (ixl (K := K)) (pe_ix (ixl (K := K)) (pv 0) (pv 1) (fun _ _ => rfl)) (pv 1) (fun _ _ => rfl)))) rfl))), ?_⟩
    refine ⟨_, rfl, p, _, rfl, .inl (SqL.of ht.lst), ?_⟩
    rw [List.length_map, ht.len]
    refine ⟨(n : Int), rfl, by omega, by omega, fun D hD => ?_⟩
    refine lcr (n := n) (fun i H' => Same H H' ∧ H' D = some (.lst (nums i fun b => v b b))) ⟨Same.new hD, upd_same⟩ ?_ ?_
    · rintro i H' hi ⟨s1, hd⟩
      have t1 := ht.same s1
      obtain ⟨r, _, hr1, hr2⟩ := t1.get hi
      refine ⟨rfl, _, rfl, _, rfl, p, _, _, _, rfl, rfl, SqL.of t1.lst, atI_nat hr1, _, rfl, r, _, _, _, rfl, rfl, SqL.of hr2, atI_nat (nums_get hi), ?_⟩
      exact ⟨_, hd, by rw [nums_length]; exact Nat.lt_of_lt_of_le hi (Nat.le_trans hN (by decide)), Same.put s1 hD, by rw [upd_same, nums_snoc]⟩
    · rintro H' ⟨s1, hd⟩
      refine ⟨D, _, rfl, .inl (SqL.of hd), rfl, ?_, ?_⟩
      · rw [List.all_eq_true]
        intro x hx
        unfold nums at hx
        obtain ⟨b, _, rfl⟩ := List.mem_map.mp hx
        rfl
      · have e : inV (V.int 2) (nums n fun b => v b b) = ((List.range n).any fun a => v a a == 2) := by
          unfold inV nums
          rw [List.any_map]
          refine congrArg (fun z => List.any (List.range n) z) ?_
          funext a
          show ((v a a : Int) == 2) = (v a a == 2)
          rw [Bool.eq_iff_iff, beq_iff_eq, beq_iff_eq]
          omega
        show Q (.bl (if false then !inV (V.int 2) (nums n fun b => v b b) else inV (V.int 2) (nums n fun b => v b b))) H'
        rw [e]
        exact k H' s1
end
end Lk
end
section
set_option Elab.async false
set_option linter.all false
set_option maxRecDepth 100000
set_option maxHeartbeats 4000000
namespace Lk
open Krae (sets get own toldAt through onward step closure relOf Rel Told)
theorem less_eq (a b : Nat) : Krae.less a b = less a b := rfl
theorem sets_eq (n : Nat) : sets n = 2 ^ n := rfl
theorem bit2 : ∀ n, n ≤ 5 → ∀ a, a < 2 ^ n → ∀ b, b < 2 ^ n → (a &&& b) &&& (less a b + less b a) = 0 ∧ less a b + (a &&& b) = a ∧ less b a + (a &&& b) = b ∧ (a &&& b) < 2 ^ n := by decide +kernel
def bit3b (n u v w : Nat) : Bool := !(u &&& v == 0) || !(w &&& (u + v) == 0) || (decide (u + w < 2 ^ n) && decide (v + w < 2 ^ n) && (less (u + w) (v + w) == u && less (v + w) (u + w) == v))
theorem bit3c : ((List.range 6).all fun n => (List.range (2 ^ n)).all fun u => (List.range (2 ^ n)).all fun v => (List.range (2 ^ n)).all fun w => bit3b n u v w) = true := by decide +kernel
theorem bit3 (n : Nat) (hn : n ≤ 5) (u : Nat) (hu : u < 2 ^ n) (v : Nat) (hv : v < 2 ^ n) (h : u &&& v = 0) (w : Nat) (hw : w < 2 ^ n) (h' : w &&& (u + v) = 0) : u + w < 2 ^ n ∧ v + w < 2 ^ n ∧ less (u + w) (v + w) = u ∧ less (v + w) (u + w) = v := by
  have q := bit3c
  simp only [List.all_eq_true, List.mem_range] at q
  have q := q n (by omega) u hu v hv w hw
  unfold bit3b at q
  rw [h, h'] at q
  simp only [beq_self_eq_true, Bool.not_true, Bool.false_or, Bool.and_eq_true, decide_eq_true_eq, beq_iff_eq] at q
  exact ⟨q.1.1, q.1.2, q.2.1, q.2.2⟩
theorem bit_apart : ∀ a, a < 32 → ∀ b, b < 32 → less a b &&& less b a = 0 := by decide +kernel
theorem bit_or : ∀ a, a < 32 → ∀ b, b < 32 → (a ||| b = a ↔ less b a = 0) := by decide +kernel
theorem less_zero (a : Nat) : less a 0 = a := by unfold less; rw [Nat.and_zero]; rfl
theorem zero_less (a : Nat) : less 0 a = 0 := by unfold less; omega
theorem div_at {N a b : Nat} (hb : b < N) : (a * N + b) / N = a := by
  have h0 : 0 < N := by omega
  rw [Nat.mul_comm, Nat.mul_add_div h0, Nat.div_eq_of_lt hb, Nat.add_zero]
theorem mod_at {N a b : Nat} (hb : b < N) : (a * N + b) % N = b := by
  rw [Nat.mul_comm, Nat.mul_add_mod, Nat.mod_eq_of_lt hb]
theorem at_lt {N a b : Nat} (ha : a < N) (hb : b < N) : a * N + b < N * N := by
  have h1 : (a + 1) * N ≤ N * N := Nat.mul_le_mul_right N (by omega)
  rw [Nat.succ_mul] at h1
  omega
theorem get_made {n : Nat} {f : Nat → Nat} {a b : Nat} (ha : a < sets n) (hb : b < sets n) : get n ((List.range (sets n * sets n)).map f).toArray a b = f (a * sets n + b) := by
  unfold Krae.get
  rw [Array.getD_eq_getD_getElem?, List.getElem?_toArray, List.getElem?_map, List.getElem?_range (at_lt ha hb)]
  rfl
theorem fold_ge {α : Type} {g : α → Nat} : ∀ (L : List α) (z : Nat), z ≤ L.foldl (fun z c => max z (g c)) z
  | [], _ => Nat.le_refl _
  | c :: L, z => Nat.le_trans (Nat.le_max_left z (g c)) (fold_ge L _)
theorem fold_mem {α : Type} {g : α → Nat} : ∀ (L : List α) (z : Nat) {c : α}, c ∈ L → g c ≤ L.foldl (fun z c => max z (g c)) z
  | c :: L, z, _, .head _ => Nat.le_trans (Nat.le_max_right z (g c)) (fold_ge L _)
  | _ :: L, z, _, .tail _ h => fold_mem L _ h
theorem fold_le {α : Type} {g : α → Nat} {B : Nat} : ∀ (L : List α) (z : Nat), z ≤ B → (∀ c ∈ L, g c ≤ B) → L.foldl (fun z c => max z (g c)) z ≤ B
  | [], _, hz, _ => hz
  | c :: L, z, hz, h => fold_le L _ (Nat.max_le.mpr ⟨hz, h c (.head _)⟩) fun d hd => h d (.tail _ hd)
theorem foldif_ge {α : Type} {p : α → Prop} [DecidablePred p] {g : α → Nat} : ∀ (L : List α) (z : Nat), z ≤ L.foldl (fun z c => if p c then max z (g c) else z) z
  | [], _ => Nat.le_refl _
  | c :: L, z => by
    refine Nat.le_trans ?_ (foldif_ge L _)
    dsimp only
    split
    · exact Nat.le_max_left _ _
    · exact Nat.le_refl _
theorem foldif_mem {α : Type} {p : α → Prop} [DecidablePred p] {g : α → Nat} : ∀ (L : List α) (z : Nat) {c : α}, c ∈ L → p c → g c ≤ L.foldl (fun z c => if p c then max z (g c) else z) z
  | c :: L, z, _, .head _, hp => by
    refine Nat.le_trans ?_ (foldif_ge L _)
    dsimp only
    rw [if_pos hp]
    exact Nat.le_max_right _ _
  | _ :: L, z, _, .tail _ h, hp => foldif_mem L _ h hp
theorem foldif_le {α : Type} {p : α → Prop} [DecidablePred p] {g : α → Nat} {B : Nat} : ∀ (L : List α) (z : Nat), z ≤ B → (∀ c ∈ L, p c → g c ≤ B) → L.foldl (fun z c => if p c then max z (g c) else z) z ≤ B
  | [], _, hz, _ => hz
  | c :: L, z, hz, h => by
    refine foldif_le L _ ?_ fun d hd => h d (.tail _ hd)
    by_cases e : p c
    · dsimp only; rw [if_pos e]; exact Nat.max_le.mpr ⟨hz, h c (.head _) e⟩
    · dsimp only; rw [if_neg e]; exact hz
theorem onward_at {n : Nat} {r : Rel} {a b : Nat} (ha : a < sets n) (hb : b < sets n) : get n (onward n r) a b = (List.range (sets n)).foldl (fun z c => max z (through (get n r a c) (get n r c b))) (get n r a b) := by
  unfold onward
  rw [get_made ha hb]
  simp only [div_at hb, mod_at hb]
  rfl
theorem step_at {n : Nat} {r : Rel} {a b : Nat} (ha : a < sets n) (hb : b < sets n) : get n (step n r) a b = (List.range (sets n)).foldl (fun z w => if w &&& (less a b + less b a) = 0 then max z (get n (onward n r) (less a b + w) (less b a + w)) else z) 0 := by
  unfold step
  rw [get_made ha hb]
  simp only [div_at hb, mod_at hb]
  rfl
theorem through_le {n : Nat} {B : Nat → Nat → Nat} (cl : Closed n B) {a b c x y : Nat} (ha : a < n) (hb : b < n) (hc : c < n) (hx : x ≤ B a b) (hy : y ≤ B b c) : through x y ≤ B a c := by
  unfold through
  split
  · exact Nat.zero_le _
  · rename_i h
    have := cl.on a b c ha hb hc (by omega) (by omega)
    omega
theorem onward_le {n : Nat} {r : Rel} {B : Nat → Nat → Nat} (cl : Closed (sets n) B) (h : Le (sets n) (get n r) B) : Le (sets n) (get n (onward n r)) B := fun a b ha hb => by
  rw [onward_at ha hb]
  refine fold_le _ _ (h a b ha hb) fun c hc => ?_
  have hc' := List.mem_range.mp hc
  exact through_le cl ha hc' hb (h a c ha hc') (h c b hc' hb)
theorem step_le {n : Nat} (hn : n ≤ 5) {r : Rel} {B : Nat → Nat → Nat} (cl : Closed (sets n) B) (h : Le (sets n) (get n r) B) : Le (sets n) (get n (step n r)) B := fun a b ha hb => by
  rw [step_at ha hb]
  have h32 : sets n ≤ 32 := pow_le hn
  have la : less a b < sets n := Nat.lt_of_le_of_lt (less_le a b) ha
  have lb : less b a < sets n := Nat.lt_of_le_of_lt (less_le b a) hb
  refine foldif_le _ _ (Nat.zero_le _) fun w hw hd => ?_
  obtain ⟨q1, q2, q3, q4⟩ := bit3 n hn _ la _ lb (bit_apart a (by omega) b (by omega)) w (List.mem_range.mp hw) hd
  have q := onward_le cl h _ _ q1 q2
  rw [cl.inv _ _ q1 q2, q3, q4, ← cl.inv a b ha hb] at q
  exact q
theorem onward_up {n : Nat} {r : Rel} : Le (sets n) (get n r) (get n (onward n r)) := fun a b ha hb => by
  rw [onward_at ha hb]
  exact fold_ge _ _
theorem step_up {n : Nat} (hn : n ≤ 5) {r : Rel} : Le (sets n) (get n (onward n r)) (get n (step n r)) := fun a b ha hb => by
  rw [step_at ha hb]
  obtain ⟨q1, q2, q3, q4⟩ := bit2 n hn a ha b hb
  have q := foldif_mem (p := fun w => w &&& (less a b + less b a) = 0) (g := fun w => get n (onward n r) (less a b + w) (less b a + w)) (List.range (sets n)) 0 (List.mem_range.mpr q4) q1
  rw [q2, q3] at q
  exact q
theorem step_inv {n : Nat} (hn : n ≤ 5) {r : Rel} {a b : Nat} (ha : a < sets n) (hb : b < sets n) : get n (step n r) a b = get n (step n r) (less a b) (less b a) := by
  have h32 : sets n ≤ 32 := pow_le hn
  have la : less a b < sets n := Nat.lt_of_le_of_lt (less_le a b) ha
  have lb : less b a < sets n := Nat.lt_of_le_of_lt (less_le b a) hb
  rw [step_at ha hb, step_at la lb, less32 a (by omega) b (by omega), less32 b (by omega) a (by omega)]
structure Good (n : Nat) (r : Rel) : Prop where
  size : r.size = sets n * sets n
  le2 : Le (sets n) (get n r) fun _ _ => 2
theorem good_step {n : Nat} (hn : n ≤ 5) {r : Rel} (h : Good n r) : Good n (step n r) := ⟨by unfold step; simp, step_le hn (closed2 _) h.le2⟩
theorem differ {n : Nat} {r s : Rel} (hr : r.size = sets n * sets n) (hs : s.size = sets n * sets n) (h : s ≠ r) : ∃ a b, a < sets n ∧ b < sets n ∧ get n r a b ≠ get n s a b := by
  refine Classical.byContradiction fun hno => h ?_
  refine Array.ext (by rw [hr, hs]) fun i h1 h2 => ?_
  have h0 : 0 < sets n := pow_pos n
  have hi : i < sets n * sets n := by omega
  have ha : i / sets n < sets n := Nat.div_lt_of_lt_mul hi
  have hb : i % sets n < sets n := Nat.mod_lt _ h0
  have e : i / sets n * sets n + i % sets n = i := by rw [Nat.mul_comm]; exact Nat.div_add_mod i (sets n)
  have q : get n r (i / sets n) (i % sets n) = get n s (i / sets n) (i % sets n) := Classical.byContradiction fun z => hno ⟨_, _, ha, hb, z⟩
  unfold Krae.get at q
  rw [e, Array.getD_eq_getD_getElem?, Array.getD_eq_getD_getElem?, Array.getElem?_eq_getElem h2, Array.getElem?_eq_getElem h1] at q
  exact q.symm
theorem closure_ok {n : Nat} (hn : n ≤ 5) : ∀ (k : Nat) (r : Rel), Good n r → rest2 (sets n) (get n r) (sets n) < k →
    Good n (closure n k r) ∧ step n (closure n k r) = closure n k r ∧ Le (sets n) (get n r) (get n (closure n k r)) ∧ ∀ B, Closed (sets n) B → Le (sets n) (get n r) B → Le (sets n) (get n (closure n k r)) B
  | 0, r, _, h => by omega
  | k + 1, r, g, h => by
    have gs := good_step hn g
    have up : Le (sets n) (get n r) (get n (step n r)) := fun a b ha hb => Nat.le_trans (onward_up a b ha hb) (step_up hn a b ha hb)
    unfold closure
    by_cases e : step n r == r
    · rw [if_pos e]
      exact ⟨g, eq_of_beq e, fun _ _ _ _ => Nat.le_refl _, fun B _ hB => hB⟩
    · rw [if_neg e]
      have hd := differ g.size gs.size (fun z => e (by rw [z]; exact beq_self_eq_true _))
      have hlt := rest2_lt (m := sets n) (n := sets n) up gs.le2 hd
      obtain ⟨q1, q2, q3, q4⟩ := closure_ok hn k (step n r) gs (by omega)
      exact ⟨q1, q2, fun a b ha hb => Nat.le_trans (up a b ha hb) (q3 a b ha hb), fun B cl hB => q4 B cl (step_le hn cl hB)⟩
theorem rest1_top (f : Nat → Nat) : ∀ n, rest1 f n ≤ 2 * n
  | 0 => Nat.le_refl _
  | n + 1 => by have := rest1_top f n; unfold rest1; omega
theorem rest2_top (m : Nat) (v : Nat → Nat → Nat) : ∀ n, rest2 m v n ≤ 2 * m * n
  | 0 => Nat.le_refl _
  | n + 1 => by
    have h1 := rest2_top m v n
    have h2 := rest1_top (v n) m
    unfold rest2
    rw [Nat.mul_succ]
    omega
def says (t : Told) (u v : Nat) : Nat := if less t.a t.b == u && less t.b t.a == v then (if t.kind = 0 then 2 else 1) else if t.kind = 2 && (less t.b t.a == u && less t.a t.b == v) then 1 else 0
theorem toldAt_eq (l : List Told) (u v : Nat) : toldAt l u v = l.foldl (fun z t => max z (says t u v)) 0 := rfl
theorem start_at {n : Nat} {l : List Told} {a b : Nat} (ha : a < sets n) (hb : b < sets n) : get n (Krae.start n l) a b = max (toldAt l (less a b) (less b a)) (if less b a = 0 then (if less a b = sets n - 1 then 2 else 1) else 0) := by
  unfold Krae.start
  rw [get_made ha hb]
  simp only [div_at hb, mod_at hb]
  rfl
theorem rz_up (v : Nat → Nat → Nat) (a b l x y : Nat) : v x y ≤ rz v a b l x y := by unfold rz; split <;> omega
theorem rzT_up (v : Nat → Nat → Nat) (t : Told) (x y : Nat) : v x y ≤ rzT v t x y := by
  unfold rzT
  split
  · exact Nat.le_trans (rz_up v t.a t.b 1 x y) (rz_up _ _ _ _ _ _)
  · exact rz_up _ _ _ _ _ _
theorem foldT_up : ∀ (l : List Told) (v : Nat → Nat → Nat) (x y : Nat), v x y ≤ l.foldl rzT v x y
  | [], _, _, _ => Nat.le_refl _
  | t :: l, v, x, y => Nat.le_trans (rzT_up v t x y) (foldT_up l _ x y)
theorem rz_here (v : Nat → Nat → Nat) (a b l : Nat) : l ≤ rz v a b l a b := by unfold rz; rw [if_pos ⟨rfl, rfl⟩]; omega
theorem rzT_a (v : Nat → Nat → Nat) (t : Told) : (if t.kind = 0 then 2 else 1) ≤ rzT v t t.a t.b := by
  unfold rzT
  by_cases e : t.kind = 2
  · rw [if_pos e, if_neg (by omega)]
    exact Nat.le_trans (rz_here v t.a t.b 1) (rz_up _ _ _ _ _ _)
  · rw [if_neg e]
    exact rz_here _ _ _ _
theorem rzT_b (v : Nat → Nat → Nat) (t : Told) (h : t.kind = 2) : 1 ≤ rzT v t t.b t.a := by
  unfold rzT
  rw [if_pos h]
  exact rz_here _ _ _ _
theorem foldT_a : ∀ (l : List Told) (v : Nat → Nat → Nat) {t : Told}, t ∈ l → (if t.kind = 0 then 2 else 1) ≤ l.foldl rzT v t.a t.b
  | t :: l, v, _, .head _ => Nat.le_trans (rzT_a v t) (foldT_up l _ _ _)
  | _ :: l, v, _, .tail _ h => foldT_a l _ h
theorem foldT_b : ∀ (l : List Told) (v : Nat → Nat → Nat) {t : Told}, t ∈ l → t.kind = 2 → 1 ≤ l.foldl rzT v t.b t.a
  | t :: l, v, _, .head _, hk => Nat.le_trans (rzT_b v t hk) (foldT_up l _ _ _)
  | _ :: l, v, _, .tail _ h, hk => foldT_b l _ h hk
theorem rz_le {N : Nat} {v B : Nat → Nat → Nat} {a b l : Nat} (h : Le N v B) (hl : l ≤ B a b) : Le N (rz v a b l) B := fun x y hx hy => by
  have := h x y hx hy
  unfold rz
  split
  · rename_i e
    rw [e.1, e.2] at this ⊢
    omega
  · exact this
theorem foldT_le {N : Nat} {B : Nat → Nat → Nat} : ∀ (l : List Told) {v : Nat → Nat → Nat}, Le N v B → (∀ t ∈ l, (if t.kind = 0 then 2 else 1) ≤ B t.a t.b ∧ (t.kind = 2 → 1 ≤ B t.b t.a)) → Le N (l.foldl rzT v) B
  | [], _, h, _ => h
  | t :: l, v, h, ht => by
    refine foldT_le l ?_ fun t' h' => ht t' (.tail _ h')
    obtain ⟨q1, q2⟩ := ht t (.head _)
    unfold rzT
    by_cases e : t.kind = 2
    · rw [if_pos e]
      rw [if_neg (by omega)] at q1
      exact rz_le (rz_le h q1) (q2 e)
    · rw [if_neg e]
      exact rz_le h q1
theorem start_le {n : Nat} (hn : n ≤ 5) {l : List Told} (hs : Sets n l) {B : Nat → Nat → Nat} (cl : Closed (sets n) B) (h : Le (sets n) (base0 n l) B) : Le (sets n) (get n (Krae.start n l)) B := fun a b ha hb => by
  have h32 : sets n ≤ 32 := pow_le hn
  have h0 : 0 < sets n := pow_pos n
  have la : less a b < sets n := Nat.lt_of_le_of_lt (less_le a b) ha
  rw [start_at ha hb, toldAt_eq]
  refine Nat.max_le.mpr ⟨fold_le _ _ (Nat.zero_le _) fun t ht => ?_, ?_⟩
  · obtain ⟨ta, tb⟩ := hs t ht
    have q1 := Nat.le_trans (foldT_a l (rz (fun a b => if a ||| b = a then 1 else 0) (2 ^ n - 1) 0 2) ht) (h t.a t.b ta tb)
    unfold says
    split
    · rename_i e
      rw [Bool.and_eq_true, beq_iff_eq, beq_iff_eq] at e
      rw [cl.inv a b ha hb, ← e.1, ← e.2, ← cl.inv t.a t.b ta tb]
      exact q1
    · split
      · rename_i e
        rw [Bool.and_eq_true, Bool.and_eq_true, beq_iff_eq, beq_iff_eq, decide_eq_true_eq] at e
        have q2 := Nat.le_trans (foldT_b l (rz (fun a b => if a ||| b = a then 1 else 0) (2 ^ n - 1) 0 2) ht e.1) (h t.b t.a tb ta)
        rw [cl.inv a b ha hb, ← e.2.1, ← e.2.2, ← cl.inv t.b t.a tb ta]
        exact q2
      · exact Nat.zero_le _
  · by_cases e : less b a = 0
    · rw [if_pos e, cl.inv a b ha hb, e]
      by_cases e2 : less a b = sets n - 1
      · rw [if_pos e2, e2]
        exact Nat.le_trans (Nat.le_trans (rz_here _ _ _ _) (foldT_up l _ _ _)) (h (sets n - 1) 0 (by omega) h0)
      · rw [if_neg e2]
        refine Nat.le_trans (Nat.le_trans ?_ (foldT_up l _ _ _)) (h (less a b) 0 la h0)
        refine Nat.le_trans ?_ (rz_up _ _ _ _ _ _)
        rw [if_pos (Nat.or_zero _)]
        exact Nat.le_refl _
    · rw [if_neg e]
      exact Nat.zero_le _
theorem base0_le {n : Nat} (hn : n ≤ 5) {l : List Told} (hs : Sets n l) {B : Nat → Nat → Nat} (h : Le (sets n) (get n (Krae.start n l)) B) : Le (sets n) (base0 n l) B := by
  have h32 : sets n ≤ 32 := pow_le hn
  have h0 : 0 < sets n := pow_pos n
  have low : ∀ a b, a < sets n → b < sets n → ∀ t ∈ l, says t (less a b) (less b a) ≤ B a b := fun a b ha hb t ht => by
    have q := h a b ha hb
    rw [start_at ha hb, toldAt_eq] at q
    exact Nat.le_trans (Nat.le_trans (fold_mem (g := fun t => says t (less a b) (less b a)) l 0 ht) (Nat.le_max_left _ _)) q
  refine foldT_le l (rz_le (fun a b ha hb => ?_) ?_) fun t ht => ?_
  · by_cases e : a ||| b = a
    · rw [if_pos e]
      have q := h a b ha hb
      rw [start_at ha hb, if_pos ((bit_or a (by omega) b (by omega)).mp e)] at q
      have q2 := Nat.le_trans (Nat.le_max_right _ _) q
      split at q2 <;> omega
    · rw [if_neg e]; exact Nat.zero_le _
  · have q := h (sets n - 1) 0 (by omega) h0
    rw [start_at (by omega) h0, less_zero, zero_less, if_pos rfl, if_pos rfl] at q
    exact Nat.le_trans (Nat.le_max_right _ _) q
  · obtain ⟨ta, tb⟩ := hs t ht
    refine ⟨?_, fun hk => ?_⟩
    · refine Nat.le_trans (Nat.le_of_eq ?_) (low t.a t.b ta tb t ht)
      unfold says
      rw [beq_self_eq_true, beq_self_eq_true, Bool.and_self]
      rfl
    · refine Nat.le_trans ?_ (low t.b t.a tb ta t ht)
      unfold says
      split
      · split <;> decide
      · rw [if_pos (by rw [Bool.and_eq_true, Bool.and_eq_true, beq_iff_eq, beq_iff_eq, decide_eq_true_eq]; exact ⟨hk, rfl, rfl⟩)]
        exact Nat.le_refl _
theorem says_le2 (t : Told) (u v : Nat) : says t u v ≤ 2 := by
  unfold says
  split
  · split <;> decide
  · split <;> decide
theorem start_good {n : Nat} {l : List Told} : Good n (Krae.start n l) := ⟨by unfold Krae.start; simp, fun a b ha hb => by
  rw [start_at ha hb, toldAt_eq]
  show _ ≤ 2
  refine Nat.max_le.mpr ⟨fold_le _ _ (Nat.zero_le _) fun t ht => says_le2 _ _ _, ?_⟩
  split
  · split <;> decide
  · decide⟩
theorem rel_rules {n : Nat} (hn : n ≤ 5) {l : List Told} (hs : Sets n l) : Rules (sets n) (base0 n l) (get n (relOf n l)) := by
  have top := rest2_top (sets n) (get n (Krae.start n l)) (sets n)
  obtain ⟨g, e, up, least⟩ := closure_ok hn (2 * sets n * sets n + 1) (Krae.start n l) start_good (by omega)
  have eu : Le (sets n) (get n (onward n (relOf n l))) (get n (relOf n l)) := fun a b ha hb => by
    have q := step_up hn (r := relOf n l) a b ha hb
    unfold relOf at q ⊢
    rw [e] at q
    exact q
  refine ⟨⟨fun a b ha hb => ?_, fun a b c ha hb hc p1 p2 => ?_⟩, base0_le hn hs up, fun B cl hB => least B cl (start_le hn hs cl hB)⟩
  · have q := step_inv hn (r := relOf n l) ha hb
    unfold relOf at q ⊢
    rw [e] at q
    exact q
  · refine Nat.le_trans ?_ (eu a c ha hc)
    rw [onward_at ha hc]
    refine Nat.le_trans ?_ (fold_mem (g := fun d => through (get n (relOf n l) a d) (get n (relOf n l) d c)) _ _ (List.mem_range.mpr hb))
    unfold through
    rw [if_neg (by omega)]
    exact Nat.le_refl _
theorem Rules.same {N : Nat} {v r q : Nat → Nat → Nat} (h1 : Rules N v r) (h2 : Rules N v q) : ∀ a b, a < N → b < N → r a b = q a b := fun a b ha hb => Nat.le_antisymm (h1.least q h2.cl h2.up a b ha hb) (h2.least r h1.cl h1.up a b ha hb)
theorem rules_eq {n : Nat} (hn : n ≤ 5) {l : List Told} (hs : Sets n l) {r : Nat → Nat → Nat} (h : Rules (2 ^ n) (base0 n l) r) {a b : Nat} (ha : a < 2 ^ n) (hb : b < 2 ^ n) : r a b = get n (relOf n l) a b := Rules.same h (rel_rules hn hs) a b ha hb
theorem own_eq {n : Nat} (hn : n ≤ 5) {l : List Told} (hs : Sets n l) {a b : Nat} (ha : a < 2 ^ n) (hb : b < 2 ^ n) : own n (relOf n l) a b = get n (relOf n l) a b := ((rel_rules hn hs).cl.inv a b ha hb).symm
end Lk
end
section
set_option Elab.async false
set_option linter.all false
set_option maxHeartbeats 4000000
namespace Lk
open Krae (Told House fitBy rows)
def maskOf (p : Nat → Bool) (m : Nat) : Nat := ((List.range m).filter p).foldl (fun s i => s + 2 ^ i) 0
theorem maskOf_succ (p : Nat → Bool) (m : Nat) : maskOf p (m + 1) = maskOf p m + (if p m then 2 ^ m else 0) := by
  unfold maskOf
  rw [List.range_succ, List.filter_append, List.foldl_append]
  by_cases e : p m
  · simp [e]
  · simp [e]
theorem maskOf_lt (p : Nat → Bool) : ∀ m, maskOf p m < 2 ^ m
  | 0 => by simp [maskOf]
  | m + 1 => by
    have h := maskOf_lt p m
    rw [maskOf_succ, Nat.pow_succ]
    split <;> omega
theorem maskOf_bit (p : Nat → Bool) : ∀ (m i : Nat), (maskOf p m).testBit i = (decide (i < m) && p i)
  | 0, i => by simp [maskOf]
  | m + 1, i => by
    have h := maskOf_lt p m
    have ih := maskOf_bit p m i
    rw [maskOf_succ]
    by_cases e : p m = true
    · rw [if_pos e, Nat.add_comm]
      by_cases hi : i = m
      · subst hi
        rw [Nat.testBit_two_pow_add_eq, Nat.testBit_lt_two_pow h]
        simp [e]
      · by_cases hlt : i < m
        · rw [Nat.testBit_two_pow_add_gt hlt, ih]
          have : decide (i < m + 1) = decide (i < m) := decide_eq_decide.mpr (by omega)
          rw [this]
        · have hb : 2 ^ m + maskOf p m < 2 ^ i := by
            have h1 : 2 ^ (m + 1) ≤ 2 ^ i := Nat.pow_le_pow_right (by decide) (by omega)
            rw [Nat.pow_succ] at h1
            omega
          rw [Nat.testBit_lt_two_pow hb, decide_eq_false (by omega), Bool.false_and]
    · rw [if_neg e, Nat.add_zero, ih]
      by_cases hi : i = m
      · subst hi
        simp at e
        simp [e]
      · have : decide (i < m + 1) = decide (i < m) := decide_eq_decide.mpr (by omega)
        rw [this]
theorem sub_iff {x s : Nat} : x &&& s = s ↔ ∀ i, s.testBit i = true → x.testBit i = true := by
  constructor
  · intro h i hi
    rw [← h, Nat.testBit_and, Bool.and_eq_true] at hi
    exact hi.1
  · intro h
    apply Nat.eq_of_testBit_eq
    intro i
    rw [Nat.testBit_and]
    cases e : s.testBit i with
    | false => simp
    | true => rw [h i e]; rfl
theorem bit_lt {s m i : Nat} (h : s < 2 ^ m) (hi : s.testBit i = true) : i < m := by
  rcases Nat.lt_or_ge i m with z | z
  · exact z
  · have : s < 2 ^ i := Nat.lt_of_lt_of_le h (Nat.pow_le_pow_right (by decide) z)
    rw [Nat.testBit_lt_two_pow this] at hi
    cases hi
theorem sub_bit {s i j : Nat} (h : s.testBit i = true) : (s - 2 ^ i).testBit j = (s.testBit j && decide (j ≠ i)) := by
  have e : s - 2 ^ i = s ^^^ 2 ^ i := by
    have h1 : s &&& 2 ^ i = 2 ^ i := by
      rw [sub_iff]
      intro j hj
      rw [Nat.testBit_two_pow] at hj
      have := of_decide_eq_true hj
      rw [← this]; exact h
    have key : (s ^^^ 2 ^ i) + 2 ^ i = s := by
      have hd : (s ^^^ 2 ^ i) &&& 2 ^ i = 0 := by
        apply Nat.eq_of_testBit_eq
        intro j
        rw [Nat.testBit_and, Nat.testBit_xor, Nat.testBit_two_pow, Nat.zero_testBit]
        by_cases z : i = j
        · subst z; simp [h]
        · simp [z]
      have ho : (s ^^^ 2 ^ i) ||| 2 ^ i = s := by
        apply Nat.eq_of_testBit_eq
        intro j
        rw [Nat.testBit_or, Nat.testBit_xor, Nat.testBit_two_pow]
        by_cases z : i = j
        · subst z; simp [h]
        · simp [z]
      have := PyProof.Rows.nat_or_add_and (s ^^^ 2 ^ i) (2 ^ i)
      rw [hd, ho] at this
      omega
    omega
  rw [e, Nat.testBit_xor, Nat.testBit_two_pow]
  by_cases z : i = j
  · subst z; simp [h]
  · have z' : j ≠ i := fun y => z y.symm
    simp [z, z']
def unfit (n : Nat) (l : List Told) (s : Nat) : Bool := (rows n).all fun x => (List.range l.length).any fun i => s.testBit i && !(l.getD i ⟨0, 0, 2⟩).holds x
theorem agrees_eq (h : House) (x : List Nat) : h.agrees x = maskOf (fun i => (h.told.getD i ⟨0, 0, 2⟩).holds x) h.told.length := rfl
theorem any_dups {p : Nat → Bool} (l : List Nat) : l.eraseDups.any p = l.any p := by
  rw [Bool.eq_iff_iff, List.any_eq_true, List.any_eq_true]
  constructor
  · rintro ⟨x, hx, hp⟩
    exact ⟨x, List.mem_eraseDups.mp hx, hp⟩
  · rintro ⟨x, hx, hp⟩
    exact ⟨x, List.mem_eraseDups.mpr hx, hp⟩
theorem unfit_eq (h : House) {s : Nat} (hs : s < 2 ^ h.told.length) : (!(((rows h.n).map fun x => h.agrees x).eraseDups.any fun x => x &&& s == s)) = unfit h.n h.told s := by
  rw [any_dups, List.any_map]
  unfold unfit
  have key : ∀ x, ((Function.comp (fun x => x &&& s == s) fun x => h.agrees x) x) = !((List.range h.told.length).any fun i => s.testBit i && !(h.told.getD i ⟨0, 0, 2⟩).holds x) := fun x => by
    show (h.agrees x &&& s == s) = _
    rw [Bool.eq_iff_iff, beq_iff_eq, sub_iff, agrees_eq, Bool.not_eq_true', List.any_eq_false]
    constructor
    · intro hh i hi z
      rw [Bool.and_eq_true] at z
      have q := hh i z.1
      rw [maskOf_bit, Bool.and_eq_true] at q
      rw [q.2] at z
      cases z.2
    · intro hh i hi
      have hlt := bit_lt hs hi
      rw [maskOf_bit, Bool.and_eq_true]
      refine ⟨decide_eq_true hlt, ?_⟩
      have q := hh i (List.mem_range.mpr hlt)
      rw [hi, Bool.true_and] at q
      simpa using q
  rw [Bool.eq_iff_iff, Bool.not_eq_true', List.any_eq_false, List.all_eq_true]
  constructor
  · intro hh x hx
    have q := hh x hx
    rw [key x] at q
    simpa using q
  · intro hh x hx z
    rw [key x, hh x hx] at z
    cases z
theorem unfit_mono {n : Nat} {l : List Told} {s t : Nat} (h : ∀ i, s.testBit i = true → t.testBit i = true) (hs : unfit n l s = true) : unfit n l t = true := by
  unfold unfit at *
  rw [List.all_eq_true] at *
  intro x hx
  have q := hs x hx
  rw [List.any_eq_true] at *
  obtain ⟨i, hi, z⟩ := q
  rw [Bool.and_eq_true] at z
  exact ⟨i, hi, by rw [Bool.and_eq_true]; exact ⟨h i z.1, z.2⟩⟩
theorem clashes_eq (h : House) : h.clashes = (List.range (2 ^ h.told.length)).filter fun s => unfit h.n h.told s && (List.range h.told.length).all fun i => !(s.testBit i) || !(unfit h.n h.told (s - 2 ^ i)) := by
  unfold House.clashes
  have e : ((List.range (2 ^ h.told.length)).filter fun s => !(((rows h.n).map fun x => h.agrees x).eraseDups.any fun x => x &&& s == s)) = (List.range (2 ^ h.told.length)).filter fun s => unfit h.n h.told s :=
    List.filter_congr fun s hs => unfit_eq h (List.mem_range.mp hs)
  simp only [e]
  rw [List.filter_filter]
  refine List.filter_congr fun s hs => ?_
  have hs' := List.mem_range.mp hs
  rw [Bool.eq_iff_iff, Bool.and_eq_true, Bool.and_eq_true, List.all_eq_true, List.all_eq_true, and_comm]
  refine and_congr_right fun hu => ?_
  constructor
  · intro hh i hi
    cases hb : s.testBit i with
    | false => rfl
    | true =>
      cases hw : unfit h.n h.told (s - 2 ^ i) with
      | false => rfl
      | true =>
        have q := hh (s - 2 ^ i) (List.mem_filter.mpr ⟨List.mem_range.mpr (Nat.lt_of_le_of_lt (Nat.sub_le _ _) hs'), hw⟩)
        have hle : 2 ^ i ≤ s := Nat.ge_two_pow_of_testBit hb
        have hp : 0 < 2 ^ i := Nat.two_pow_pos i
        have n1 : (s - 2 ^ i == s) = false := by rw [beq_eq_false_iff_ne]; omega
        have n2 : (s - 2 ^ i) &&& s = s - 2 ^ i := by
          rw [Nat.and_comm, sub_iff]
          intro j hj
          rw [sub_bit hb, Bool.and_eq_true] at hj
          exact hj.1
        rw [n1, n2] at q
        simp at q
  · intro hh t ht
    obtain ⟨ht1, ht2⟩ := List.mem_filter.mp ht
    have ht1' := List.mem_range.mp ht1
    cases e1 : (t == s) with
    | true => rfl
    | false =>
      cases e2 : (t &&& s == t) with
      | false => rfl
      | true =>
        have hsub : ∀ i, t.testBit i = true → s.testBit i = true := sub_iff.mp (by rw [Nat.and_comm]; exact eq_of_beq e2)
        have hne : t ≠ s := by rw [beq_eq_false_iff_ne] at e1; exact e1
        obtain ⟨i, hi1, hi2⟩ : ∃ i, s.testBit i = true ∧ t.testBit i = false := by
          refine Classical.byContradiction fun hno => hne ?_
          apply Nat.eq_of_testBit_eq
          intro i
          cases hb : s.testBit i with
          | true =>
            cases hc : t.testBit i with
            | true => rfl
            | false => exact absurd ⟨i, hb, hc⟩ hno
          | false =>
            cases hc : t.testBit i with
            | true => rw [hsub i hc] at hb; cases hb
            | false => rfl
        have q := hh i (List.mem_range.mpr (bit_lt hs' hi1))
        have hw : unfit h.n h.told (s - 2 ^ i) = true := unfit_mono (fun j hj => by
          rw [sub_bit hi1, hsub j hj, Bool.true_and]
          refine decide_eq_true fun z => ?_
          rw [z, hi2] at hj
          cases hj) ht2
        rw [hi1, hw] at q
        cases q
end Lk
end
section
set_option Elab.async false
set_option linter.all false
set_option maxHeartbeats 4000000
namespace Lk
def wr (l : List Krae.Told) (x : List Nat) : Nat := maskOf (fun i => !((l.getD i ⟨0, 0, 2⟩).holds x)) l.length
def Wrongs (n : Nat) (l : List Krae.Told) (ws : List Nat) : Prop := ∀ m, m ∈ ws ↔ ∃ x ∈ Krae.rows n, wr l x = m
theorem wr_bit (l : List Krae.Told) (x : List Nat) (i : Nat) : (wr l x).testBit i = (decide (i < l.length) && !((l.getD i ⟨0, 0, 2⟩).holds x)) := maskOf_bit _ _ _
theorem and_zero {a b : Nat} : a &&& b = 0 ↔ ∀ i, ¬ (a.testBit i = true ∧ b.testBit i = true) := by
  constructor
  · intro h i ⟨h1, h2⟩
    have := Nat.testBit_and a b i
    rw [h, h1, h2, Nat.zero_testBit] at this
    cases this
  · intro h
    apply Nat.eq_of_testBit_eq
    intro i
    rw [Nat.testBit_and, Nat.zero_testBit]
    cases e1 : a.testBit i with
    | false => rfl
    | true =>
      cases e2 : b.testBit i with
      | false => rfl
      | true => exact absurd ⟨e1, e2⟩ (h i)
theorem agree_some {n : Nat} {l : List Krae.Told} {ws : List Nat} (h : Wrongs n l ws) (s : Nat) : (ws.any fun d => decide (s &&& d = 0)) = !unfit n l s := by
  rw [Bool.eq_iff_iff, List.any_eq_true, Bool.not_eq_true']
  unfold unfit
  rw [List.all_eq_false]
  constructor
  · rintro ⟨d, hd, z⟩
    obtain ⟨x, hx, rfl⟩ := (h d).mp hd
    have z' := and_zero.mp (of_decide_eq_true z)
    refine ⟨x, hx, ?_⟩
    rw [Bool.not_eq_true, List.any_eq_false]
    intro i hi y
    rw [Bool.and_eq_true] at y
    refine z' i ⟨y.1, ?_⟩
    rw [wr_bit, Bool.and_eq_true]
    exact ⟨decide_eq_true (List.mem_range.mp hi), y.2⟩
  · rintro ⟨x, hx, z⟩
    rw [Bool.not_eq_true, List.any_eq_false] at z
    refine ⟨wr l x, (h _).mpr ⟨x, hx, rfl⟩, decide_eq_true (and_zero.mpr ?_)⟩
    rintro i ⟨h1, h2⟩
    rw [wr_bit, Bool.and_eq_true] at h2
    exact z i (List.mem_range.mpr (of_decide_eq_true h2.1)) (by rw [Bool.and_eq_true]; exact ⟨h1, h2.2⟩)
theorem all_at {l : List Krae.Told} {x : List Nat} : (l.all fun t => t.holds x) = true ↔ ∀ i, i < l.length → (l.getD i ⟨0, 0, 2⟩).holds x = true := by
  rw [List.all_eq_true]
  constructor
  · intro h i hi
    rw [List.getD_eq_getElem?_getD, List.getElem?_eq_getElem hi]
    exact h _ (List.getElem_mem hi)
  · intro h t ht
    obtain ⟨i, hi, rfl⟩ := List.getElem_of_mem ht
    have := h i hi
    rw [List.getD_eq_getElem?_getD, List.getElem?_eq_getElem hi] at this
    exact this
theorem wr_zero {l : List Krae.Told} {x : List Nat} : wr l x = 0 ↔ (l.all fun t => t.holds x) = true := by
  rw [all_at]
  constructor
  · intro h i hi
    have e := wr_bit l x i
    rw [h, Nat.zero_testBit, decide_eq_true hi, Bool.true_and] at e
    cases q : (l.getD i ⟨0, 0, 2⟩).holds x with
    | true => rfl
    | false => rw [q] at e; cases e
  · intro h
    apply Nat.eq_of_testBit_eq
    intro i
    rw [wr_bit, Nat.zero_testBit]
    by_cases hi : i < l.length
    · rw [h i hi, Bool.not_true, Bool.and_false]
    · rw [decide_eq_false hi, Bool.false_and]
theorem fits_some {n : Nat} {l : List Krae.Told} {ws : List Nat} (h : Wrongs n l ws) : decide (0 ∈ ws) = !(Krae.fitBy n l).isEmpty := by
  rw [Bool.eq_iff_iff, decide_eq_true_eq, Bool.not_eq_true', h 0]
  unfold Krae.fitBy
  constructor
  · rintro ⟨x, hx, z⟩
    cases e : ((Krae.rows n).filter fun x => l.all fun t => t.holds x) with
    | nil => exact absurd (wr_zero.mp z) (List.filter_eq_nil_iff.mp e x hx)
    | cons y L => rfl
  · intro e
    cases q : ((Krae.rows n).filter fun x => l.all fun t => t.holds x) with
    | nil => rw [q] at e; cases e
    | cons y L =>
      have hy : y ∈ (Krae.rows n).filter fun x => l.all fun t => t.holds x := by rw [q]; exact .head _
      obtain ⟨h1, h2⟩ := List.mem_filter.mp hy
      exact ⟨y, h1, wr_zero.mpr h2⟩
theorem erase_all {l : List Krae.Told} {x : List Nat} {i : Nat} : ((l.eraseIdx i).all fun t => t.holds x) = true ↔ ∀ j, j < l.length → j ≠ i → (l.getD j ⟨0, 0, 2⟩).holds x = true := by
  rw [List.all_eq_true]
  constructor
  · intro h j hj hne
    rw [List.getD_eq_getElem?_getD, List.getElem?_eq_getElem hj]
    refine h _ ?_
    refine List.mem_eraseIdx_iff_getElem.mpr ⟨j, hj, hne, rfl⟩
  · intro h t ht
    obtain ⟨j, hj, hne, rfl⟩ := List.mem_eraseIdx_iff_getElem.mp ht
    have := h j hj hne
    rw [List.getD_eq_getElem?_getD, List.getElem?_eq_getElem hj] at this
    exact this
theorem wr_one {l : List Krae.Told} {x : List Nat} {i : Nat} (hi : i < l.length) : wr l x = 2 ^ i ↔ ((l.eraseIdx i).all fun t => t.holds x) = true ∧ ¬ (l.all fun t => t.holds x) = true := by
  rw [erase_all, all_at]
  constructor
  · intro h
    have hb : ∀ j, (decide (j < l.length) && !((l.getD j ⟨0, 0, 2⟩).holds x)) = decide (i = j) := fun j => by rw [← wr_bit, h, Nat.testBit_two_pow]
    refine ⟨fun j hj hne => ?_, fun z => ?_⟩
    · have e := hb j
      rw [decide_eq_true hj, Bool.true_and, decide_eq_false (fun y => hne y.symm)] at e
      simpa using e
    · have e := hb i
      rw [z i hi, decide_eq_true rfl] at e
      simp at e
  · rintro ⟨h1, h2⟩
    apply Nat.eq_of_testBit_eq
    intro j
    rw [wr_bit, Nat.testBit_two_pow]
    by_cases hj : j < l.length
    · rw [decide_eq_true hj, Bool.true_and]
      by_cases hne : j = i
      · subst hne
        rw [decide_eq_true rfl]
        cases q : (l.getD j ⟨0, 0, 2⟩).holds x with
        | false => rfl
        | true =>
          refine absurd (fun k hk => ?_) h2
          by_cases e : k = j
          · rw [e]; exact q
          · exact h1 k hk e
      · rw [h1 j hj hne, decide_eq_false (fun y => hne y.symm)]
        rfl
    · rw [decide_eq_false hj, Bool.false_and, decide_eq_false (fun y => hj (by rw [← y]; exact hi))]
theorem filter_len {α : Type} {p q : α → Bool} (h : ∀ x, p x = true → q x = true) : ∀ L : List α, (L.filter q).length = (L.filter p).length ↔ ∀ x ∈ L, q x = true → p x = true
  | [] => by simp
  | y :: L => by
    have ih := filter_len h L
    have hle : (L.filter p).length ≤ (L.filter q).length := by
      clear ih
      induction L with
      | nil => simp
      | cons z L ihh =>
        rw [List.filter_cons, List.filter_cons]
        cases e : p z with
        | true => rw [h z e]; simpa using ihh
        | false =>
          cases e2 : q z with
          | true => simp; omega
          | false => simpa using ihh
    rw [List.filter_cons, List.filter_cons]
    cases e : p y with
    | true =>
      rw [h y e]
      simp only [if_true, List.length_cons, Nat.add_right_cancel_iff]
      rw [ih]
      constructor
      · intro hh x hx hq
        rcases List.mem_cons.mp hx with z | z
        · rw [z]; exact e
        · exact hh x z hq
      · intro hh x hx hq
        exact hh x (.tail _ hx) hq
    | false =>
      cases e2 : q y with
      | true =>
        simp only [if_true, Bool.false_eq_true, if_false, List.length_cons]
        constructor
        · intro z; omega
        · intro hh
          have := hh y (.head _) e2
          rw [e] at this
          cases this
      | false =>
        simp only [Bool.false_eq_true, if_false]
        rw [ih]
        constructor
        · intro hh x hx hq
          rcases List.mem_cons.mp hx with z | z
          · rw [z, e2] at hq; cases hq
          · exact hh x z hq
        · intro hh x hx hq
          exact hh x (.tail _ hx) hq
theorem spare_at {n : Nat} {l : List Krae.Told} {ws : List Nat} (h : Wrongs n l ws) {i : Nat} (hi : i < l.length) : (!decide (2 ^ i ∈ ws)) = ((Krae.fitBy n (l.eraseIdx i)).length == (Krae.fitBy n l).length) := by
  rw [Bool.eq_iff_iff, Bool.not_eq_true', decide_eq_false_iff_not, beq_iff_eq, h]
  unfold Krae.fitBy
  rw [filter_len fun x hx => by
    rw [erase_all]
    intro j hj _
    exact all_at.mp hx j hj]
  constructor
  · intro hh x hx hq
    cases e : (l.all fun t => t.holds x) with
    | true => rfl
    | false => exact absurd ⟨x, hx, (wr_one hi).mpr ⟨hq, by rw [e]; decide⟩⟩ hh
  · rintro hh ⟨x, hx, z⟩
    have z' := (wr_one hi).mp z
    exact z'.2 (hh x hx z'.1)
def leftOut (c m : Nat) : List Nat := ((List.range m).filter fun i => decide ((c / 2 ^ i) &&& 1 = 1)).map fun i => c - 2 ^ i
theorem bit_le {c i : Nat} (h : (c / 2 ^ i) &&& 1 = 1) : 2 ^ i ≤ c := by
  rcases Nat.lt_or_ge c (2 ^ i) with z | z
  · rw [Nat.div_eq_of_lt z] at h
    simp at h
  · exact z
def clashB (ws : List Nat) (m c : Nat) : Bool := !(ws.any fun d => decide (c &&& d = 0)) && (leftOut c m).all fun e => ws.any fun d => decide (e &&& d = 0)
theorem leftOut_len (c m : Nat) : (leftOut c m).length ≤ m := by
  unfold leftOut
  rw [List.length_map]
  have := List.length_filter_le (fun i => decide ((c / 2 ^ i) &&& 1 = 1)) (List.range m)
  rw [List.length_range] at this
  exact this
theorem clash_at {n : Nat} {l : List Krae.Told} {ws : List Nat} (h : Wrongs n l ws) (c : Nat) : clashB ws l.length c = (unfit n l c && (List.range l.length).all fun i => !(c.testBit i) || !(unfit n l (c - 2 ^ i))) := by
  unfold clashB
  rw [agree_some h, Bool.not_not]
  congr 1
  unfold leftOut
  rw [List.all_map, List.all_filter]
  rw [Bool.eq_iff_iff, List.all_eq_true, List.all_eq_true]
  have tb : ∀ i, decide ((c / 2 ^ i) &&& 1 = 1) = c.testBit i := fun i => by
    rw [Nat.testBit_eq_decide_div_mod_eq, Nat.and_one_is_mod]
  constructor
  · intro hh i hi
    have q := hh i hi
    rw [tb] at q
    show (!(c.testBit i) || !(unfit n l (c - 2 ^ i))) = true
    rw [← agree_some h]
    exact q
  · intro hh i hi
    have q := hh i hi
    rw [← agree_some h] at q
    rw [tb]
    exact q
theorem clashes_ws {n : Nat} {l : List Krae.Told} {ws : List Nat} (h : Wrongs n l ws) : (Krae.House.mk n l).clashes = (List.range (2 ^ l.length)).filter (clashB ws l.length) := by
  rw [clashes_eq]
  exact List.filter_congr fun c _ => (clash_at h c).symm
theorem spares_ws {n : Nat} {l : List Krae.Told} {ws : List Nat} (h : Wrongs n l ws) : ((List.range l.length).filter fun i => !decide (2 ^ i ∈ ws)) = (List.range l.length).filter fun i => (Krae.fitBy n (l.eraseIdx i)).length == (Krae.fitBy n l).length :=
  List.filter_congr fun i hi => spare_at h (List.mem_range.mp hi)
end Lk
end
section
set_option Elab.async false
set_option linter.all false
set_option maxRecDepth 100000
set_option maxHeartbeats 4000000
namespace Lk
open PySem PySem.Spec PyProof.Rows L2
abbrev s_is_shares : Stmt := top 21
theorem sc_is_shares : FnScope ["numbers", "worlds"] ["numbers", "worlds"] (defScope s_is_shares) := ⟨rfl, rfl, rfl, by decide +kernel, rfl, by decide +kernel, by decide +kernel⟩
abbrev s_share_of : Stmt := top 22
theorem sc_share_of : FnScope ["chosen", "shares", "together", "world", "share"] ["chosen", "shares"] (defScope s_share_of) := ⟨rfl, rfl, rfl, by decide +kernel, rfl, by decide +kernel, by decide +kernel⟩
abbrev s_lead : Stmt := top 23
theorem sc_lead : FnScope ["first", "second", "shares"] ["first", "second", "shares"] (defScope s_lead) := ⟨rfl, rfl, rfl, by decide +kernel, rfl, by decide +kernel, by decide +kernel⟩
abbrev s_agree : Stmt := top 24
theorem sc_agree : FnScope ["shares", "one", "more"] ["shares", "one"] (defScope s_agree) := ⟨rfl, rfl, rfl, by decide +kernel, rfl, by decide +kernel, by decide +kernel⟩
abbrev s_disagreed : Stmt := top 25
theorem sc_disagreed : FnScope ["shares", "told", "number", "one"] ["shares", "told"] (defScope s_disagreed) := ⟨rfl, rfl, rfl, by decide +kernel, rfl, by decide +kernel, by decide +kernel⟩
abbrev s_fit : Stmt := top 26
theorem sc_fit : FnScope ["shares", "told", "one"] ["shares", "told"] (defScope s_fit) := ⟨rfl, rfl, rfl, by decide +kernel, rfl, by decide +kernel, by decide +kernel⟩
def ns (x : List Nat) : List V := (x.map fun (n : Nat) => (n : Int)).map V.int
theorem ns_length (x : List Nat) : (ns x).length = x.length := by unfold ns; rw [List.length_map, List.length_map]
theorem ns_get {x : List Nat} {i : Nat} {y : V} (h : (ns x)[i]? = some y) : ∃ m, x[i]? = some m ∧ y = V.int (m : Int) := by
  unfold ns at h
  rw [List.getElem?_map, List.getElem?_map] at h
  cases e : x[i]? with
  | none => rw [e] at h; cases h
  | some m => rw [e] at h; exact ⟨m, rfl, (Option.some.inj h).symm⟩
theorem total_snoc (x : List Nat) (m : Nat) : Krae.total (x ++ [m]) = Krae.total x + m := by unfold Krae.total; rw [List.foldl_append]; rfl
theorem foldl_add : ∀ (x : List Nat) (z : Nat), x.foldl (fun a b => a + b) z = z + x.foldl (fun a b => a + b) 0
  | [], z => rfl
  | m :: x, z => by
    rw [List.foldl_cons, List.foldl_cons, foldl_add x (z + m), foldl_add x (0 + m)]
    omega
theorem total_cons (m : Nat) (x : List Nat) : Krae.total (m :: x) = m + Krae.total x := by
  unfold Krae.total
  rw [List.foldl_cons, foldl_add]
  omega
theorem sum_total : ∀ x : List Nat, (x.map fun (n : Nat) => (n : Int)).sum = ((Krae.total x : Nat) : Int)
  | [] => rfl
  | m :: x => by
    rw [List.map_cons, List.sum_cons, sum_total x, total_cons]
    omega
def ofUp (x : List Nat) (s i : Nat) : Nat := ((List.range i).map fun i => if Krae.has s i then x.getD i 0 else 0).foldl (fun a b => a + b) 0
theorem ofUp_succ {x : List Nat} {s i m : Nat} (h : x[i]? = some m) : ofUp x s (i + 1) = if s / 2 ^ i % 2 = 1 then ofUp x s i + m else ofUp x s i := by
  unfold ofUp
  rw [List.range_succ, List.map_append, List.foldl_append]
  have hm : x.getD i 0 = m := by rw [List.getD_eq_getElem?_getD, h]; rfl
  show _ + (if Krae.has s i then x.getD i 0 else 0) = _
  rw [hm]
  unfold Krae.has
  by_cases e : s / 2 ^ i % 2 = 1
  · rw [if_pos e, e]; rfl
  · rw [if_neg e, if_neg (by rw [beq_iff_eq]; exact e), Nat.add_zero]
section
variable {P : Program} {w : World} {K : PySem.W.Frag} {mg : Str → Option Value} {base : Heap}
def spIsShares : Sp := fun vs H Q _ => ∃ (p : Addr) (x : List Nat) (n : Nat), vs = [.ref p, .int n] ∧ H p = some (.lst (ns x)) ∧ Q (.bl (x.length == n && (decide (1 ≤ Krae.total x) && decide (Krae.total x ≤ 10)))) H
theorem ok_isShares {f : Addr} {fd : FuncData} (F : Fun K "is_shares" "is_shares" s_is_shares f fd) (G : Gn mg) : FnOk P w K mg base CX0 1 f fd ["numbers", "worlds"] spIsShares := by
  refine F.ok sc_is_shares (fun vs H Q E h => ?_) (fun cdv A outer s H vs Q E hr h => ?_)
  · obtain ⟨p, x, n, rfl, _⟩ := h
    rfl
  · obtain ⟨p, x, n, rfl, hp, k⟩ := h
    refine ⟨_, (pss_one (ps_ret (pe_and (pe_cmpR op_eqn (pe_callB (lens (K := K)) (by rfl) G.len PySem.boot_len (pa_cons (pv 0) pa_nil)) (pv 1) (nomark _)) (pe_one (pe_chain op_le op_le pe_int (pe_callB (sums (K := K) rfl) (by rfl) G.sum boot_sum (pa_cons (pv 0) pa_nil)) (pgi G.mostT)))))), ?_⟩
    refine ⟨_, rfl, p, _, rfl, .inl (SqL.of hp), _, rfl, x.length, n, by rw [ns_length], rfl, _, rfl, ?_⟩
    refine ite2 (fun h => ?_) (fun h => ?_)
    · refine ⟨_, rfl, p, _, rfl, SqL.of hp, ?_⟩
      rw [sum_total]
      refine ⟨_, _, rfl, rfl, _, rfl, ?_⟩
      have e0 : (x.length == n) = true := by rw [beq_iff_eq]; exact of_decide_eq_true h
      rw [e0, Bool.true_and] at k
      refine ite2 (fun h1 => ?_) (fun h1 => ?_)
      · refine ⟨_, _, rfl, rfl, ?_⟩
        have e1 : decide (1 ≤ Krae.total x) = true := decide_eq_true (by have := of_decide_eq_true h1; omega)
        rw [e1, Bool.true_and] at k
        have e2 : decide (((Krae.total x : Nat) : Int) ≤ 10) = decide (Krae.total x ≤ 10) := decide_eq_decide.mpr (by omega)
        show Q (.bl (decide (((Krae.total x : Nat) : Int) ≤ 10))) H
        rw [e2]
        exact k
      · have e1 : decide (1 ≤ Krae.total x) = false := decide_eq_false (fun z => h1 (decide_eq_true (by omega)))
        rw [e1, Bool.false_and] at k
        exact k
    · have e0 : (x.length == n) = false := by rw [beq_eq_false_iff_ne]; exact fun z => h (decide_eq_true z)
      rw [e0, Bool.false_and] at k
      exact k
def spShare : Sp := fun vs H Q _ => ∃ (a : Nat) (p : Addr) (x : List Nat), vs = [.int a, .ref p] ∧ H p = some (.lst (ns x)) ∧ ∀ H', Same H H' → Q (.int ((Krae.of x a : Nat) : Int)) H'
theorem ok_share {f : Addr} {fd : FuncData} (F : Fun K "share_of" "share_of" s_share_of f fd) (G : Gn mg) : FnOk P w K mg base CX0 1 f fd ["chosen", "shares"] spShare := by
  refine F.ok sc_share_of (fun vs H Q E h => ?_) (fun cdv A outer s H vs Q E hr h => ?_)
  · obtain ⟨a, p, x, rfl, _⟩ := h
    rfl
  · obtain ⟨a, p, x, rfl, hp, k⟩ := h
    refine ⟨_, (pss_cons (ps_set (i := 2) sc_share_of.nd rfl (Or.inl rfl) pe_int)
      (pss_cons (ps_for PassesOwn.never rfl (pi_enum rfl G.enum (pa_cons (pv 1) pa_nil)) (pgt (K := K) (n := 2) rfl (pgs_cons (pg_name (i := 3) sc_share_of.nd rfl (Or.inl rfl)) (pgs_cons (pg_name (i := 4) sc_share_of.nd rfl (Or.inl rfl)) pgs_nil)))
        (pss_one (ps_if (pt_cmpR op_eqn (pe_op op_andn (pe_op op_shrn (pv 0) (pv 3)) pe_int) pe_int (nomark _)) (pss_one (ps_aug (i := 2) sc_share_of.nd rfl (Or.inl rfl) (pv 4) ip_addn)) pss_nil)))
      (pss_one (ps_ret (pv 2))))), ?_⟩
    refine ⟨_, rfl, p, _, rfl, SqL.of hp, for_enum (K := K) (a := p) (xs := ns x) (fun i σ H2 => ∃ v3 v4 : Option V, σ = [some (.int (a : Int)), some (.ref p), some (.int ((ofUp x a i : Nat) : Int)), v3, v4] ∧ Same H H2)
      ⟨none, none, rfl, Same.refl _⟩ (fun i σ H2 ⟨_, _, _, s2⟩ => SqL.of (s2 _ _ hp)) ?_ ?_⟩
    · rintro i y T σ H2 hy ⟨v3, v4, rfl, s2⟩ hT
      obtain ⟨m, hm, rfl⟩ := ns_get hy
      have s3 : Same H (upd H2 T (.tup [.int (i : Int), .int (m : Int)])) := s2.trans (Same.new hT)
      refine ⟨T, _, rfl, SqT.of upd_same, rfl, _, _, rfl, _, _, rfl, rfl, ?_⟩
      refine ⟨_, rfl, _, rfl, a, i, rfl, rfl, a / 2 ^ i, 1, rfl, rfl, (a / 2 ^ i &&& 1), 1, rfl, rfl, _, rfl, ?_⟩
      refine ite2 (fun h => ?_) (fun h => ?_)
      · refine ⟨_, rfl, _, rfl, ofUp x a i, m, rfl, rfl, some (.int (i : Int)), some (.int (m : Int)), ?_, s3⟩
        have e : ofUp x a (i + 1) = ofUp x a i + m := by
          rw [ofUp_succ hm, if_pos]
          have h1 := of_decide_eq_true h
          rw [Nat.and_one_is_mod] at h1
          exact h1
        rw [e]
        rfl
      · refine ⟨some (.int (i : Int)), some (.int (m : Int)), ?_, s3⟩
        have e : ofUp x a (i + 1) = ofUp x a i := by
          rw [ofUp_succ hm, if_neg]
          intro h1
          refine h (decide_eq_true ?_)
          rw [Nat.and_one_is_mod]
          exact h1
        rw [e]
        rfl
    · rintro σ H2 ⟨v3, v4, rfl, s2⟩
      rw [ns_length]
      exact ⟨_, rfl, k H2 s2⟩
def spLead : Sp := fun vs H Q _ => ∃ (a b : Nat) (p : Addr) (x : List Nat), vs = [.int a, .int b, .ref p] ∧ H p = some (.lst (ns x)) ∧ ∀ H', Same H H' → Q (.int (((Krae.of x a : Nat) : Int) - ((Krae.of x b : Nat) : Int))) H'
theorem ok_lead {f : Addr} {fd : FuncData} (F : Fun K "lead" "lead" s_lead f fd) {f_share_of : Addr} {fd_share_of : FuncData} (O_share_of : FnOk P w K mg base CX0 1 f_share_of fd_share_of ["chosen", "shares"] spShare) (D_share_of : Df K mg "share_of" f_share_of fd_share_of ["chosen", "shares"]) : FnOk P w K mg base CX0 2 f fd ["first", "second", "shares"] spLead := by
  refine F.ok sc_lead (fun vs H Q E h => ?_) (fun cdv A outer s H vs Q E hr h => ?_)
  · obtain ⟨a, b, p, x, rfl, _⟩ := h
    rfl
  · obtain ⟨a, b, p, x, rfl, hp, k⟩ := h
    refine ⟨_, (pss_one (ps_ret (pe_op op_sub (pe_call O_share_of (hr.mono (by decide)) rfl D_share_of.mg D_share_of.kp D_share_of.b .nil pass0 (pa_cons (pv 0) (pa_cons (pv 2) pa_nil))) (pe_call O_share_of (hr.mono (by decide)) rfl D_share_of.mg D_share_of.kp D_share_of.b .nil pass0 (pa_cons (pv 1) (pa_cons (pv 2) pa_nil)))))), ?_⟩
    refine ⟨_, rfl, _, rfl, a, p, x, rfl, hp, fun H1 s1 => ?_⟩
    refine ⟨_, rfl, _, rfl, b, p, x, rfl, s1 _ _ hp, fun H2 s2 => ?_⟩
    exact ⟨_, _, rfl, rfl, k H2 (s1.trans s2)⟩
def spAgree : Sp := fun vs H Q _ => ∃ (p t : Addr) (x : List Nat) (o : Krae.Told), vs = [.ref p, .ref t] ∧ H p = some (.lst (ns x)) ∧ H t = some (.tup [.int (o.kind : Nat), .int (o.a : Nat), .int (o.b : Nat)]) ∧ ∀ H', Same H H' → Q (.bl (o.holds x)) H'
theorem ok_agree {f : Addr} {fd : FuncData} (F : Fun K "agree" "agree" s_agree f fd) (G : Gn mg) {f_lead : Addr} {fd_lead : FuncData} (O_lead : FnOk P w K mg base CX0 2 f_lead fd_lead ["first", "second", "shares"] spLead) (D_lead : Df K mg "lead" f_lead fd_lead ["first", "second", "shares"]) : FnOk P w K mg base CX0 3 f fd ["shares", "one"] spAgree := by
  refine F.ok sc_agree (fun vs H Q E h => ?_) (fun cdv A outer s H vs Q E hr h => ?_)
  · obtain ⟨p, t, x, o, rfl, _⟩ := h
    rfl
  · obtain ⟨p, t, x, o, rfl, hp, ht, k⟩ := h
    refine ⟨_, (pss_cons (ps_set (i := 2) sc_agree.nd rfl (Or.inl rfl) (pe_call O_lead (hr.mono (by decide)) rfl D_lead.mg D_lead.kp D_lead.b .nil pass0 (pa_cons (pe_ix (ixt (K := K)) (pv 1) pe_int (fun _ _ => rfl)) (pa_cons (pe_ix (ixt (K := K)) (pv 1) pe_int (fun _ _ => rfl)) (pa_cons (pv 0) pa_nil)))))
      (pss_cons (ps_if (pt_cmpR op_eqn (pe_ix (ixt (K := K)) (pv 1) pe_int (fun _ _ => rfl)) (pgi G.kLik) (nomark _)) (pss_one (ps_ret (pe_cmpR op_gt (pv 2) pe_int (nomark _)))) pss_nil)
      (pss_cons (ps_if (pt_cmpR op_eqn (pe_ix (ixt (K := K)) (pv 1) pe_int (fun _ _ => rfl)) (pgi G.kNol) (nomark _)) (pss_one (ps_ret (pe_cmpR op_ge (pv 2) pe_int (nomark _)))) pss_nil)
      (pss_one (ps_ret (pe_cmpR op_eq (pv 2) pe_int (nomark _))))))), ?_⟩
    refine ⟨_, rfl, t, _, _, _, rfl, rfl, SqT.of ht, rfl, _, rfl, t, _, _, _, rfl, rfl, SqT.of ht, rfl, _, rfl, o.a, o.b, p, x, rfl, hp, fun H1 s1 => ?_⟩
    refine ⟨_, rfl, t, _, _, _, rfl, rfl, SqT.of (s1 _ _ ht), rfl, o.kind, 0, rfl, rfl, _, rfl, ?_⟩
    have fin := k H1 s1
    unfold Krae.Told.holds at fin
    refine ite2 (fun h => ?_) (fun h => ?_)
    · have h1 := of_decide_eq_true h
      rw [h1] at fin
      refine ⟨_, rfl, _, _, rfl, rfl, ?_⟩
      have e : decide ((0 : Int) < ((Krae.of x o.a : Nat) : Int) - ((Krae.of x o.b : Nat) : Int)) = decide (Krae.of x o.b < Krae.of x o.a) := decide_eq_decide.mpr (by omega)
      show Q (.bl (decide ((0 : Int) < ((Krae.of x o.a : Nat) : Int) - ((Krae.of x o.b : Nat) : Int)))) H1
      rw [e]
      exact fin
    · have h0 : ¬ o.kind = 0 := fun z => h (decide_eq_true z)
      refine ⟨_, rfl, t, _, _, _, rfl, rfl, SqT.of (s1 _ _ ht), rfl, o.kind, 1, rfl, rfl, _, rfl, ?_⟩
      refine ite2 (fun h => ?_) (fun h => ?_)
      · have h1 := of_decide_eq_true h
        rw [h1] at fin
        refine ⟨_, rfl, _, _, rfl, rfl, ?_⟩
        have e : decide ((0 : Int) ≤ ((Krae.of x o.a : Nat) : Int) - ((Krae.of x o.b : Nat) : Int)) = decide (Krae.of x o.b ≤ Krae.of x o.a) := decide_eq_decide.mpr (by omega)
        show Q (.bl (decide ((0 : Int) ≤ ((Krae.of x o.a : Nat) : Int) - ((Krae.of x o.b : Nat) : Int)))) H1
        rw [e]
        exact fin
      · have h1 : ¬ o.kind = 1 := fun z => h (decide_eq_true z)
        refine ⟨_, rfl, rfl, ?_⟩
        have e : decide (V.int (((Krae.of x o.a : Nat) : Int) - ((Krae.of x o.b : Nat) : Int)) = V.int 0) = (Krae.of x o.a == Krae.of x o.b) := by
          rw [Bool.eq_iff_iff, decide_eq_true_eq, beq_iff_eq]
          constructor
          · intro z
            injection z with z
            omega
          · intro z
            rw [z, Int.sub_self]
        show Q (.bl (decide (V.int (((Krae.of x o.a : Nat) : Int) - ((Krae.of x o.b : Nat) : Int)) = V.int 0))) H1
        rw [e]
        split at fin
        · rename_i z; exact absurd z h0
        · rename_i z; exact absurd z h1
        · exact fin
def spFit : Sp := fun vs H Q _ => ∃ (p q : Addr) (x : List Nat) (l : List Krae.Told), vs = [.ref p, .ref q] ∧ H p = some (.lst (ns x)) ∧ ToldAt H q l ∧ ∀ H', Same H H' → Q (.bl (l.all fun t => t.holds x)) H'
theorem ok_fit {f : Addr} {fd : FuncData} (F : Fun K "fit" "fit" s_fit f fd) (G : Gn mg) {f_agree : Addr} {fd_agree : FuncData} (O_agree : FnOk P w K mg base CX0 3 f_agree fd_agree ["shares", "one"] spAgree) (D_agree : Df K mg "agree" f_agree fd_agree ["shares", "one"]) : FnOk P w K mg base CX0 4 f fd ["shares", "told"] spFit := by
  refine F.ok sc_fit (fun vs H Q E h => ?_) (fun cdv A outer s H vs Q E hr h => ?_)
  · obtain ⟨p, q, x, l, rfl, _⟩ := h
    rfl
  · obtain ⟨p, q, x, l, rfl, hp, ⟨ts, ht⟩, k⟩ := h
    refine ⟨_, (pss_cons (ps_for PassesOwn.never rfl (pi_list (pv 1)) (pg_name (i := 2) sc_fit.nd rfl (Or.inl rfl))
        (pss_one (ps_if (pt_not (pt_val (pe_call O_agree (hr.mono (by decide)) rfl D_agree.mg D_agree.kp D_agree.b .nil pass0 (pa_cons (pv 0) (pa_cons (pv 2) pa_nil))))) (pss_one (ps_ret pe_bl)) pss_nil)))
      (pss_one (ps_ret pe_bl))), ?_⟩
    refine ⟨_, rfl, q, rfl, ⟨_, SqL.of ht.lst⟩, for_list (K := K) (a := q) (xs := ts.map V.ref) (fun i σ H2 => ∃ v2 : Option V, σ = [some (.ref p), some (.ref q), v2] ∧ Same H H2 ∧ ∀ t ∈ l.take i, t.holds x = true)
      ⟨none, rfl, Same.refl _, fun t h => by cases h⟩ (fun i σ H2 _ ⟨_, _, s2, _⟩ => SqL.of (s2 _ _ ht.lst)) ?_ ?_⟩
    · rintro i y σ H2 hi ⟨v2, rfl, s2, hall⟩
      have ht2 := ht.same s2
      obtain ⟨ta, o, rfl, ho, htu⟩ := ht2.get hi
      refine ⟨_, rfl, _, rfl, p, ta, x, o, rfl, s2 _ _ hp, htu, fun H3 s3 => ?_⟩
      refine ⟨_, rfl, ?_⟩
      cases hh : o.holds x with
      | true =>
        refine iteF ⟨_, rfl, s2.trans s3, fun t h => ?_⟩
        rw [take_snoc ho] at h
        rcases List.mem_append.mp h with h | h
        · exact hall t h
        · have e : t = o := by simpa using h
          rw [e]; exact hh
      | false =>
        refine iteT ?_
        have e : (l.all fun t => t.holds x) = false := by
          rw [List.all_eq_false]
          exact ⟨o, List.mem_of_getElem? ho, by rw [hh]; decide⟩
        have fin := k H3 (s2.trans s3)
        rw [e] at fin
        exact fin
    · rintro σ H2 ⟨v2, rfl, s2, hall⟩
      rw [List.length_map, ht.len, List.take_length] at hall
      have e : (l.all fun t => t.holds x) = true := List.all_eq_true.mpr hall
      have fin := k H2 s2
      rw [e] at fin
      exact fin
def spDisagreed : Sp := fun vs H Q _ => ∃ (p q : Addr) (x : List Nat) (l : List Krae.Told), vs = [.ref p, .ref q] ∧ l.length ≤ 6 ∧ H p = some (.lst (ns x)) ∧ ToldAt H q l ∧
  ∀ H' r, Same H H' → H r = none → H' r = some (.lst (ns ((List.range l.length).filter fun i => !((l.getD i ⟨0, 0, 2⟩).holds x)))) → Q (.ref r) H'
theorem ok_disagreed {f : Addr} {fd : FuncData} (F : Fun K "disagreed" "disagreed" s_disagreed f fd) (G : Gn mg) {f_agree : Addr} {fd_agree : FuncData} (O_agree : FnOk P w K mg base CX0 3 f_agree fd_agree ["shares", "one"] spAgree) (D_agree : Df K mg "agree" f_agree fd_agree ["shares", "one"]) : FnOk P w K mg base CX0 4 f fd ["shares", "told"] spDisagreed := by
  refine F.ok sc_disagreed (fun vs H Q E h => ?_) (fun cdv A outer s H vs Q E hr h => ?_)
  · obtain ⟨p, q, x, l, rfl, _⟩ := h
    rfl
  · obtain ⟨p, q, x, l, rfl, hl, hp, ⟨ts, ht⟩, k⟩ := h
    refine ⟨_, (pss_one (ps_ret (pe_lc (own := [("number", 2), ("one", 3)]) rfl sc_disagreed.nd (pi_enum rfl G.enum (pa_cons (pv 1) pa_nil)) (blkOk_by rfl) (fun _ _ _ _ _ => (pgt (K := K) (n := 2) rfl (pgs_cons (pg_name (i := 2) sc_disagreed.nd rfl (Or.inl rfl)) (pgs_cons (pg_name (i := 3) sc_disagreed.nd rfl (Or.inl rfl)) pgs_nil)))) (fun _ _ _ _ _ => pts_one (pt_not (pt_val (pe_call O_agree (hr.mono (by decide)) rfl D_agree.mg D_agree.kp D_agree.b .nil pass0 (pa_cons (pv 0) (pa_cons (pv 3) pa_nil)))))) (fun _ _ _ _ _ => (pv 2))))), ?_⟩
    refine ⟨_, rfl, q, _, rfl, SqL.of ht.lst, fun D hD => ?_⟩
    refine lc_enum (K := K) (a := q) (xs := ts.map V.ref) (fun i H2 => Same H H2 ∧ i ≤ l.length ∧ H2 D = some (.lst (ns ((List.range i).filter fun i => !((l.getD i ⟨0, 0, 2⟩).holds x))))) ⟨Same.new hD, Nat.zero_le _, upd_same⟩
      (fun i H2 ⟨s2, _⟩ => SqL.of (s2 _ _ ht.lst)) ?_ ?_
    · rintro i y T H2 hi ⟨s2, hil, hd⟩ hT
      have ht2 := ht.same s2
      obtain ⟨ta, o, rfl, ho, htu⟩ := ht2.get hi
      have hi2 : i < l.length := (List.getElem?_eq_some_iff.mp ho).1
      have hg : l.getD i ⟨0, 0, 2⟩ = o := by rw [List.getD_eq_getElem?_getD, ho]; rfl
      have s3 : Same H2 (upd H2 T (.tup [.int (i : Int), .ref ta])) := Same.new hT
      refine ⟨T, _, rfl, SqT.of upd_same, rfl, _, _, rfl, _, _, rfl, rfl, rfl, ?_⟩
      refine ⟨_, rfl, _, rfl, p, ta, x, o, rfl, s3 _ _ (s2 _ _ hp), s3 _ _ htu, fun H4 s4 => ?_⟩
      refine ⟨_, rfl, ?_⟩
      have hd4 := s4 _ _ (s3 _ _ hd)
      have s5 : Same H H4 := (s2.trans s3).trans s4
      cases hh : o.holds x with
      | true =>
        refine iteF ⟨s5, hi2, ?_⟩
        rw [List.range_succ, List.filter_append]
        simp only [List.filter_cons, List.filter_nil, hg, hh, Bool.not_true]
        simpa using hd4
      | false =>
        refine iteT ⟨_, rfl, _, hd4, ?_, Same.put s5 hD, hi2, ?_⟩
        · rw [ns_length]
          refine Nat.lt_of_le_of_lt (List.length_filter_le _ _) ?_
          rw [List.length_range]
          exact Nat.lt_of_le_of_lt (Nat.le_trans hil hl) (by decide)
        · rw [upd_same, List.range_succ, List.filter_append]
          simp only [List.filter_cons, List.filter_nil, hg, hh, Bool.not_false, if_true]
          unfold ns
          rw [List.map_append, List.map_append]
          rfl
    · rintro H2 ⟨s2, hil, hd⟩
      rw [List.length_map, ht.len] at hd
      exact k H2 D s2 hD hd
end
end Lk
end
section
set_option Elab.async false
set_option linter.all false
set_option maxRecDepth 100000
set_option maxHeartbeats 4000000
namespace Lk
open PySem PySem.Spec PyProof.Rows L2
section
variable {X : Cx} {K : PySem.W.Frag}
theorem anys (hc : X.calm = true) (h : X.K = K := by rfl) : CallR X (.builtin "any") (rAny K) := h ▸ cr_any hc
theorem alls (hc : X.calm = true) (h : X.K = K := by rfl) : CallR X (.builtin "all") (rAll K) := h ▸ cr_all hc
theorem nins_ (h : X.K = K := by rfl) : OpR X (compareOp .NotIn) (rIn K true) := h ▸ op_notIn_seq
theorem op_muln : OpR X (binaryOp .Mult) (fun x y H Q => ∃ a b : Nat, x = .int (a : Int) ∧ y = .int (b : Int) ∧ b < 1000000 ∧ Q (.int ((a * b : Nat) : Int)) H) := by
  intro pins s σ H x y v u Q I rx ry h
  obtain ⟨a, b, rfl, rfl, hb, q⟩ := h
  refine op_mul pins s σ H _ _ v u Q I rx ry ⟨_, _, rfl, rfl, .inr ⟨by omega, by omega⟩, ?_⟩
  show Q (.int ((a : Int) * (b : Int))) H
  rw [show (a : Int) * (b : Int) = ((a * b : Nat) : Int) from (Int.natCast_mul a b).symm]; exact q
theorem op_fdivn : OpR X (binaryOp .FloorDiv) (fun x y H Q => ∃ a b : Nat, x = .int (a : Int) ∧ y = .int (b : Int) ∧ 0 < b ∧ b < 1000000 ∧ Q (.int ((a / b : Nat) : Int)) H) := by
  intro pins s σ H x y v u Q I rx ry h
  obtain ⟨a, b, rfl, rfl, hb, hb2, q⟩ := h
  refine op_fdiv pins s σ H _ _ v u Q I rx ry ⟨_, _, rfl, rfl, ⟨by omega, by omega⟩, ?_⟩
  show Q (.int ((a : Int) / (b : Int))) H
  rw [show (a : Int) / (b : Int) = ((a / b : Nat) : Int) from (Int.natCast_ediv a b).symm]; exact q
theorem op_modn : OpR X (binaryOp .Mod) (fun x y H Q => ∃ a b : Nat, x = .int (a : Int) ∧ y = .int (b : Int) ∧ 0 < b ∧ Q (.int ((a % b : Nat) : Int)) H) := by
  intro pins s σ H x y v u Q I rx ry h
  obtain ⟨a, b, rfl, rfl, hb, q⟩ := h
  refine op_mod pins s σ H _ _ v u Q I rx ry ⟨_, _, rfl, rfl, (by show (0 : Int) < b; omega), ?_⟩
  show Q (.int ((a : Int) % (b : Int))) H
  rw [show (a : Int) % (b : Int) = ((a % b : Nat) : Int) from (Int.natCast_emod a b).symm]; exact q
def rSrtD : List V → Hp → VK → Prop := fun vs H Q => ∃ (a : Addr) (kvs : List (Key × V)) (ks : List Nat), vs = [V.ref a] ∧ H a = some (.dK kvs) ∧ kvs.map (·.1) = ks.map (fun (n : Nat) => (Sum.inl (n : Int) : Key)) ∧
  ∀ (ws : List Nat) (p : Addr), ws.Perm ks → H p = none → Q (.ref p) (upd H p (.lst (ns ws)))
theorem ints_of_keys {P : Program} {w : World} : ∀ (vs : List Value) (us : List (Key × Value)) (ks : List Nat), us.map (·.1) = ks.map (fun (n : Nat) => (Sum.inl (n : Int) : Key)) → vs.length = us.length →
    (∀ (j : Nat) (v : Value), vs[j]? = some v → ∃ k x, us[j]? = some (k, x) ∧ (mixKind P w).is k v = true) → IntsAre vs (ks.map fun (n : Nat) => (n : Int))
  | [], us, ks, h1, h2, _ => by
    have e : us = [] := List.length_eq_zero_iff.mp (by simpa using h2.symm)
    subst e
    have e2 : ks = [] := by simpa using h1.symm
    subst e2
    exact .nil
  | v :: vs, [], _, _, h2, _ => by simp at h2
  | v :: vs, u :: us, [], h1, _, _ => by simp at h1
  | v :: vs, u :: us, k :: ks, h1, h2, h3 => by
    rw [List.map_cons, List.map_cons] at h1
    injection h1 with e1 e2
    obtain ⟨k', x, e3, e4⟩ := h3 0 v rfl
    have e5 : u = (k', x) := by simpa using e3
    subst e5
    have e6 : k' = Sum.inl (k : Int) := e1
    subst e6
    rw [mixKind_is] at e4
    rcases keyIs_shape e4 with ⟨i, t, e7, rfl⟩ | ⟨x', t, e7, _⟩
    · have e8 : (k : Int) = i := by injection e7
      subst e8
      exact .cons _ t (ints_of_keys vs us ks e2 (by simpa using h2) fun j v' hj => h3 (j + 1) v' hj)
    · cases e7
theorem srtD (hc : X.calm = true) : CallR X (.builtin "sorted") rSrtD := by
  intro pins s σ H vs us Q I r h
  obtain ⟨a, kvs, ks, rfl, ha, hk, q⟩ := h
  rw [Vals.ref1 r]
  obtain ⟨z, hd, vs', rel, dd⟩ := dk_of I.hok ha
  obtain ⟨ep, hat⟩ := dd.dictAt
  refine PySem.Calls.call_function_entry kind_sorted plain_sorted entry_sorted (args_sorted1 _) ?_
  unfold Builtin.«sorted»
  refine wpAny_bind (m := checkCount "sorted" 1 1 _) (wpAny_pure ?_)
  refine wpAny_bind (PySem.W.kdu_collect (A := X.A.in1) (PySem.W.kdl_dict (knd := mixKind X.prog X.w) (kvs := vs') (ep := ep) hd) (I.ok.hd hc) hat (by rw [← rel.length]; exact z) fun h' tk acc hk' hacc => ?_)
  have hl : acc.toList.length = vs'.length := by rw [Array.length_toList]; exact hacc.1
  have hz : acc.toList.length ≤ sizeLine := by rw [hl, ← rel.length]; exact z
  refine wpAny_bind (wpAny_newList ?_ hz)
  have hI : IntsAre acc.toList (ks.map fun (n : Nat) => (n : Int)) := ints_of_keys acc.toList vs' ks (by rw [← rel.keys]; exact hk) hl fun j v e => hacc.2 j v (by rw [← Array.getElem?_toList]; exact e)
  have hoL : (h'.push (seqObj "list" acc.toList.toArray 0)).get? h'.objs.size = some (seqObj "list" acc.toList.toArray 0) := Heap.get?_push_size _ rfl
  have I' := I.kept (t' := tk) hk'
  refine wpAny_bind (wpAny_holding (wpAny_call_entry slot_list_sort ⟨_, hoL, rfl⟩ entry_list_sort (list_sort_treeAny hoL hI hz fun out ns' h1 h2 h3 => ⟨_, rfl, ?_⟩) (args_list_sort _)))
  refine wpAny_pure ⟨_, rfl, ?_⟩
  obtain ⟨ep', he'⟩ := sortedHeap_at (vs := acc.toList) (out := out) hoL
  have hnn : ∀ x ∈ ns', (0 : Int) ≤ x := fun x hx => by
    obtain ⟨m, _, rfl⟩ := List.mem_map.mp (h2.mem_iff.mp hx)
    omega
  have ens : (ns'.map Int.toNat).map (fun (n : Nat) => (n : Int)) = ns' := by
    rw [List.map_map]
    refine (List.map_congr_left fun x hx => ?_).trans (List.map_id _)
    exact Int.toNat_of_nonneg (hnn x hx)
  have eperm : (ns'.map Int.toNat).Perm ks := by
    have := h2.map Int.toNat
    rw [List.map_map] at this
    refine this.trans (List.Perm.of_eq ?_)
    refine (List.map_congr_left fun x hx => ?_).trans (List.map_id _)
    exact Int.toNat_natCast x
  have hval : ns (ns'.map Int.toNat) = ns'.map V.int := by unfold ns; rw [ens]
  have hlen : (ns'.map V.int).length ≤ sizeLine := by rw [List.length_map, h2.length_eq, ← hI.length]; exact hz
  have q' := q (ns'.map Int.toNat) h'.objs.size eperm (I'.hok.fresh (Nat.le_refl _))
  rw [hval] at q'
  refine ⟨.ref _, upd H h'.objs.size (.lst (ns'.map V.int)), I'.laid (a := h'.objs.size) (fun b u hu => ?_) (Nat.le_refl _) ⟨hlen, out.toList, ep', vals_of_ints h1, he'⟩, rfl, q'⟩
  have hb : b ≠ h'.objs.size := Nat.ne_of_lt (Heap.lt_size hu)
  rw [sortedHeap_old hb (by rw [size_push']; exact Nat.lt_succ_of_lt (Heap.lt_size hu))]
  exact Heap.get?_push_of_some _ hu
end
theorem nz (m : Nat) : (!decide (m = 0)) = decide (0 < m) := by
  rw [Bool.eq_iff_iff]
  simp
  omega
theorem inN (m : Nat) : ∀ ws : List Nat, inV (.int (m : Int)) (ns ws) = decide (m ∈ ws)
  | [] => rfl
  | x :: ws => by
    have ih := inN m ws
    have e : inV (.int (m : Int)) (ns (x :: ws)) = (((x : Int) == (m : Int)) || inV (.int (m : Int)) (ns ws)) := rfl
    rw [e, ih, Bool.eq_iff_iff]
    simp
    constructor
    · rintro (z | z)
      · exact .inl (by omega)
      · exact .inr z
    · rintro (z | z)
      · exact .inl (by omega)
      · exact .inr z
theorem flatN : ∀ ws : List Nat, (ns ws).all flatV = true
  | [] => rfl
  | x :: ws => flatN ws
end Lk
end
section
set_option Elab.async false
set_option linter.all false
set_option maxRecDepth 100000
set_option maxHeartbeats 4000000
namespace Lk
open PySem PySem.Spec PyProof.Rows L2
abbrev s_one_world_more : Stmt := top 27
theorem sc_one_world_more : FnScope ["rows", "together", "longer", "row", "share"] ["rows", "together"] (defScope s_one_world_more) := ⟨rfl, rfl, rfl, by decide +kernel, rfl, by decide +kernel, by decide +kernel⟩
abbrev s_shares_together : Stmt := top 28
theorem sc_shares_together : FnScope ["worlds", "together", "rows", "world", "row"] ["worlds", "together"] (defScope s_shares_together) := ⟨rfl, rfl, rfl, by decide +kernel, rfl, by decide +kernel, by decide +kernel⟩
def owm (t : Nat) (L : List (List Nat)) : List (List Nat) := L.flatMap fun row => (List.range (t - Krae.total row + 1)).map fun s => row ++ [s]
def iter (t : Nat) : Nat → List (List Nat) → List (List Nat)
  | 0, L => L
  | k + 1, L => iter t k (owm t L)
theorem iter_succ (t : Nat) : ∀ (k : Nat) (L : List (List Nat)), iter t (k + 1) L = owm t (iter t k L)
  | 0, _ => rfl
  | k + 1, L => by rw [iter, iter_succ t k, iter]
theorem owm_snoc {t : Nat} {L : List (List Nat)} {row : List Nat} : owm t (L ++ [row]) = owm t L ++ (List.range (t - Krae.total row + 1)).map fun s => row ++ [s] := by
  unfold owm
  rw [List.flatMap_append]
  simp
theorem owm_length {t : Nat} (ht : t ≤ 10) : ∀ L : List (List Nat), (owm t L).length ≤ L.length * 11
  | [] => by simp [owm]
  | r :: L => by
    have h := owm_length ht L
    have e : (owm t (r :: L)).length = (t - Krae.total r + 1) + (owm t L).length := by
      unfold owm
      rw [List.flatMap_cons, List.length_append, List.length_map, List.length_range]
    rw [e, List.length_cons]
    omega
theorem iter_length {t : Nat} (ht : t ≤ 10) : ∀ (k : Nat), (iter t k [[]]).length ≤ 11 ^ k
  | 0 => by simp [iter]
  | k + 1 => by
    have h := iter_length ht k
    have h2 := owm_length ht (iter t k [[]])
    rw [iter_succ, Nat.pow_succ]
    exact Nat.le_trans h2 (Nat.mul_le_mul_right 11 h)
theorem owm_sum {t : Nat} {L : List (List Nat)} (h : ∀ r ∈ L, Krae.total r ≤ t) : ∀ r ∈ owm t L, Krae.total r ≤ t := fun r hr => by
  unfold owm at hr
  obtain ⟨row, h1, h2⟩ := List.mem_flatMap.mp hr
  obtain ⟨s, h3, rfl⟩ := List.mem_map.mp h2
  have := List.mem_range.mp h3
  have := h row h1
  rw [total_snoc]
  omega
theorem iter_sum {t : Nat} : ∀ (k : Nat), ∀ r ∈ iter t k [[]], Krae.total r ≤ t
  | 0 => fun r hr => by
    have e : r = [] := by simpa [iter] using hr
    rw [e]; exact Nat.zero_le _
  | k + 1 => by
    rw [iter_succ]
    exact owm_sum (iter_sum k)
theorem rows1 : ∀ t : Nat, Krae.rowsOf 1 t = [[t]] := fun t => by
  unfold Krae.rowsOf
  rw [List.range_succ, List.flatMap_append]
  have h1 : ((List.range t).flatMap fun x => (Krae.rowsOf 0 (t - x)).map fun r => x :: r) = [] := by
    rw [List.flatMap_eq_nil_iff]
    intro x hx
    have := List.mem_range.mp hx
    obtain ⟨m, hm⟩ : ∃ m, t - x = m + 1 := ⟨t - x - 1, by omega⟩
    rw [hm]
    rfl
  rw [h1, List.nil_append]
  simp [Krae.rowsOf]
theorem fm_congr {α β : Type} : ∀ {L : List α} {f g : α → List β}, (∀ x ∈ L, f x = g x) → L.flatMap f = L.flatMap g
  | [], _, _, _ => rfl
  | x :: L, f, g, h => by rw [List.flatMap_cons, List.flatMap_cons, h x (.head _), fm_congr fun y hy => h y (.tail _ hy)]
theorem iter_rows (t : Nat) : ∀ (k : Nat) (L : List (List Nat)), (∀ r ∈ L, Krae.total r ≤ t) →
    (iter t k L).map (fun row => row ++ [t - Krae.total row]) = L.flatMap fun row => (Krae.rowsOf (k + 1) (t - Krae.total row)).map fun r => row ++ r
  | 0, L, _ => by
    simp only [iter, Nat.zero_add, rows1, List.map_cons, List.map_nil]
    exact List.map_eq_flatMap
  | k + 1, L, h => by
    rw [iter, iter_rows t k (owm t L) (owm_sum h)]
    unfold owm
    rw [List.flatMap_assoc]
    refine fm_congr fun row hrow => ?_
    have hr := h row hrow
    rw [List.flatMap_map]
    conv => rhs; rw [Krae.rowsOf]
    rw [List.map_flatMap]
    refine fm_congr fun s hs => ?_
    have := List.mem_range.mp hs
    rw [total_snoc, List.map_map, show t - (Krae.total row + s) = t - Krae.total row - s by omega]
    refine List.map_congr_left fun r _ => ?_
    simp
theorem together_rows {n t : Nat} (hn : 0 < n) : (iter t (n - 1) [[]]).map (fun row => row ++ [t - Krae.total row]) = Krae.rowsOf n t := by
  obtain ⟨m, rfl⟩ : ∃ m, n = m + 1 := ⟨n - 1, by omega⟩
  rw [iter_rows t _ [[]] (fun r hr => by
    have e : r = [] := by simpa using hr
    rw [e]; exact Nat.zero_le _)]
  simp [Krae.total]
structure ShA (H : Hp) (p : Addr) (as : List Addr) (L : List (List Nat)) : Prop where
  len : as.length = L.length
  lst : H p = some (.lst (as.map V.ref))
  row : ∀ (i : Nat) r x, as[i]? = some r → L[i]? = some x → H r = some (.lst (ns x))
def Sh (H : Hp) (p : Addr) (L : List (List Nat)) : Prop := ∃ as, ShA H p as L
theorem ShA.same {H H' : Hp} {p : Addr} {as : List Addr} {L : List (List Nat)} (s : Same H H') (t : ShA H p as L) : ShA H' p as L := ⟨t.len, s _ _ t.lst, fun i x o e1 e2 => s _ _ (t.row i x o e1 e2)⟩
theorem Sh.same {H H' : Hp} {p : Addr} {L : List (List Nat)} (s : Same H H') (t : Sh H p L) : Sh H' p L := let ⟨as, t⟩ := t; ⟨as, t.same s⟩
theorem ShA.get {H : Hp} {p : Addr} {as : List Addr} {L : List (List Nat)} (t : ShA H p as L) {i : Nat} {y : V} (h : (as.map V.ref)[i]? = some y) : ∃ r x, y = V.ref r ∧ as[i]? = some r ∧ L[i]? = some x ∧ H r = some (.lst (ns x)) := by
  rw [List.getElem?_map] at h
  cases q : as[i]? with
  | none => rw [q] at h; cases h
  | some a =>
    rw [q] at h
    have hi : i < L.length := by rw [← t.len]; exact (List.getElem?_eq_some_iff.mp q).1
    exact ⟨a, L[i], (Option.some.inj h).symm, rfl, List.getElem?_eq_getElem hi, t.row i a _ q (List.getElem?_eq_getElem hi)⟩
structure ShM (H : Hp) (D : Addr) (as : List Addr) (L : List (List Nat)) : Prop where
  sh : ShA H D as L
  nD : ∀ r ∈ as, r ≠ D
theorem ShM.same {H H' : Hp} {p : Addr} {as : List Addr} {L : List (List Nat)} (s : Same H H') (t : ShM H p as L) : ShM H' p as L := ⟨t.sh.same s, t.nD⟩
theorem ShM.nil {H : Hp} {D : Addr} (h : H D = some (.lst [])) : ShM H D [] [] := ⟨⟨rfl, h, fun i r x e => by simp at e⟩, fun r h => by cases h⟩
theorem ShM.snoc {H : Hp} {D r : Addr} {as : List Addr} {L : List (List Nat)} {x : List Nat} (t : ShM H D as L) (hr : H r = some (.lst (ns x))) (hne : r ≠ D) : ShM (upd H D (.lst (as.map V.ref ++ [V.ref r]))) D (as ++ [r]) (L ++ [x]) := by
  refine ⟨⟨by rw [List.length_append, List.length_append, t.sh.len]; rfl, by rw [upd_same, List.map_append]; rfl, fun i q y e1 e2 => ?_⟩, fun q hq => ?_⟩
  · rcases snoc_get e1 with h1 | ⟨h1, rfl⟩
    · have hq : q ≠ D := t.nD q (List.mem_of_getElem? h1)
      rcases snoc_get e2 with h2 | ⟨h2, _⟩
      · rw [upd_ne hq]; exact t.sh.row i q y h1 h2
      · have := (List.getElem?_eq_some_iff.mp h1).1
        rw [t.sh.len] at this; omega
    · rcases snoc_get e2 with h2 | ⟨h2, rfl⟩
      · have := (List.getElem?_eq_some_iff.mp h2).1
        rw [← t.sh.len] at this; omega
      · rw [upd_ne hne]; exact hr
  · rcases List.mem_append.mp hq with h | h
    · exact t.nD q h
    · have e : q = r := by simpa using h
      rw [e]; exact hne
theorem ns_snoc (x : List Nat) (m : Nat) : ns (x ++ [m]) = ns x ++ [V.int (m : Int)] := by
  unfold ns
  rw [List.map_append, List.map_append]
  rfl
section
variable {P : Program} {w : World} {K : PySem.W.Frag} {mg : Str → Option Value} {base : Heap}
def spMore : Sp := fun vs H Q _ => ∃ (p : Addr) (t : Nat) (L : List (List Nat)), vs = [.ref p, .int t] ∧ t ≤ 10 ∧ L.length ≤ 20000 ∧ (∀ r ∈ L, Krae.total r ≤ t ∧ r.length ≤ 10) ∧ Sh H p L ∧ ∀ H' q, Same H H' → Sh H' q (owm t L) → Q (.ref q) H'
theorem ok_more {f : Addr} {fd : FuncData} (F : Fun K "one_world_more" "one_world_more" s_one_world_more f fd) (G : Gn mg) : FnOk P w K mg base CX0 1 f fd ["rows", "together"] spMore := by
  refine F.ok sc_one_world_more (fun vs H Q E h => ?_) (fun cdv A outer s H vs Q E hr h => ?_)
  · obtain ⟨p, t, L, rfl, _⟩ := h
    rfl
  · obtain ⟨p, t, L, rfl, ht, hL, hsum, ⟨as, sh⟩, k⟩ := h
    refine ⟨_, (pss_cons (ps_set (i := 2) sc_one_world_more.nd rfl (Or.inl rfl) (pe_lst pa_nil))
      (pss_cons (ps_for PassesOwn.never rfl (pi_list (pv 0)) (pg_name (i := 3) sc_one_world_more.nd rfl (Or.inl rfl))
        (pss_one (ps_for PassesOwn.never rfl (pi_range1 rfl G.range (pa_cons (pe_op op_addn (pe_op op_subn (pv 1) (pe_callB (sums (K := K) rfl) (by rfl) G.sum boot_sum (pa_cons (pv 3) pa_nil))) pe_int) pa_nil)) (pg_name (i := 4) sc_one_world_more.nd rfl (Or.inl rfl))
        (pss_one (ps_expr (pe_bm PySem.F.plainAttrs_list PySem.F.slot_list_append PySem.F.type_list_append mt_append (pv 2) (pa_cons (pe_op op_cat (pv 3) (pe_lst (pa_cons (pv 4) pa_nil))) pa_nil)))))))
      (pss_one (ps_ret (pv 2))))), ?_⟩
    refine ⟨Nat.zero_le _, fun D hD => ?_⟩
    have s1 : Same H (upd H D (.lst [])) := Same.new hD
    refine ⟨_, rfl, p, rfl, ⟨_, SqL.of (s1 _ _ sh.lst)⟩, for_list (K := K) (a := p) (xs := as.map V.ref) (fun i σ H2 => ∃ v3 v4 : Option V, σ = [some (.ref p), some (.int (t : Int)), some (.ref D), v3, v4] ∧ Same H H2 ∧ ∃ bs, ShM H2 D bs (owm t (L.take i)))
      ⟨none, none, rfl, s1, [], ShM.nil upd_same⟩ (fun i σ H2 _ ⟨_, _, _, s2, _⟩ => SqL.of (s2 _ _ sh.lst)) ?_ ?_⟩
    · rintro i y σ H2 hi ⟨v3, v4, rfl, s2, bs, m2⟩
      obtain ⟨r, x, rfl, hr1, hx, hrow⟩ := (sh.same s2).get hi
      have hxm := hsum x (List.mem_of_getElem? hx)
      have hil : i < L.length := (List.getElem?_eq_some_iff.mp hx).1
      refine ⟨_, rfl, _, rfl, r, _, rfl, SqL.of hrow, t, Krae.total x, rfl, congrArg V.int (sum_total x), hxm.1, t - Krae.total x, 1, rfl, rfl, ((t - Krae.total x + 1 : Nat) : Int), rfl, by omega, by omega, ?_⟩
      refine frn (n := t - Krae.total x + 1) (fun j σ H3 => ∃ v4 : Option V, σ = [some (.ref p), some (.int (t : Int)), some (.ref D), some (.ref r), v4] ∧ Same H H3 ∧ ∃ bs, ShM H3 D bs (owm t (L.take i) ++ (List.range j).map fun s => x ++ [s]))
        ⟨v4, rfl, s2, bs, by rw [List.range_zero, List.map_nil, List.append_nil]; exact m2⟩ ?_ ?_
      · rintro j σ H3 hj ⟨v4, rfl, s3, bs, m3⟩
        have hlen : (owm t (L.take i) ++ (List.range j).map fun s => x ++ [s]).length < sizeLine := by
          have h1 := owm_length ht (L.take i)
          rw [List.length_take] at h1
          rw [List.length_append, List.length_map, List.length_range]
          have : sizeLine = 16777216 := by decide
          omega
        have hr3 : H3 r = some (.lst (ns x)) := s3 _ _ (sh.row i r x hr1 hx)
        refine ⟨_, rfl, .inl ⟨rfl, _, SqL.of m3.sh.lst⟩, _, rfl, _, rfl, by show 1 ≤ sizeLine; decide, fun q1 hq1 => ?_⟩
        have s4 : Same H3 (upd H3 q1 (.lst [V.int (j : Int)])) := Same.new hq1
        refine ⟨r, q1, _, _, rfl, rfl, s4 _ _ hr3, upd_same, ?_, fun q2 hq2 => ?_⟩
        · rw [ns_length]
          have h2 := hxm.2
          show x.length + 1 ≤ sizeLine
          have : sizeLine = 16777216 := by decide
          omega
        · have s5 : Same H3 (upd (upd H3 q1 (.lst [V.int (j : Int)])) q2 (.lst (ns x ++ [V.int (j : Int)]))) := s4.trans (Same.new hq2)
          have m5 := m3.same s5
          have hq2D : q2 ≠ D := (ne_of_none (s4 _ _ m3.sh.lst) hq2).symm
          refine ⟨D, _, _, rfl, rfl, m5.sh.lst, by rw [List.length_map, m5.sh.len]; exact hlen, _, rfl, Same.put (s3.trans s5) hD, bs ++ [q2], ?_⟩
          rw [List.range_succ, List.map_append, ← List.append_assoc]
          exact m5.snoc (by rw [upd_same, ns_snoc]) hq2D
      · rintro σ H3 ⟨v4, rfl, s3, bs, m3⟩
        refine ⟨_, _, rfl, s3, bs, ?_⟩
        rw [take_snoc hx, owm_snoc]
        exact m3
    · rintro σ H2 ⟨v3, v4, rfl, s2, bs, m2⟩
      rw [List.length_map, sh.len, List.take_length] at m2
      exact ⟨_, rfl, k H2 D s2 ⟨bs, m2.sh⟩⟩
theorem owm_len {t : Nat} {L : List (List Nat)} {m : Nat} (h : ∀ r ∈ L, r.length = m) : ∀ r ∈ owm t L, r.length = m + 1 := fun r hr => by
  unfold owm at hr
  obtain ⟨row, h1, h2⟩ := List.mem_flatMap.mp hr
  obtain ⟨s, h3, rfl⟩ := List.mem_map.mp h2
  rw [List.length_append, h row h1]
  rfl
theorem iter_len {t : Nat} : ∀ (k : Nat), ∀ r ∈ iter t k [[]], r.length = k
  | 0 => fun r hr => by
    have e : r = [] := by simpa [iter] using hr
    rw [e]; rfl
  | k + 1 => by
    rw [iter_succ]
    exact owm_len (iter_len k)
def spTogether : Sp := fun vs H Q _ => ∃ (n t : Nat), vs = [.int n, .int t] ∧ 0 < n ∧ n ≤ 5 ∧ t ≤ 10 ∧ ∀ H' q, Same H H' → Sh H' q (Krae.rowsOf n t) → Q (.ref q) H'
theorem ok_together {f : Addr} {fd : FuncData} (F : Fun K "shares_together" "shares_together" s_shares_together f fd) (G : Gn mg) {f_one_world_more : Addr} {fd_one_world_more : FuncData} (O_one_world_more : FnOk P w K mg base CX0 1 f_one_world_more fd_one_world_more ["rows", "together"] spMore) (D_one_world_more : Df K mg "one_world_more" f_one_world_more fd_one_world_more ["rows", "together"]) : FnOk P w K mg base CX0 2 f fd ["worlds", "together"] spTogether := by
  refine F.ok sc_shares_together (fun vs H Q E h => ?_) (fun cdv A outer s H vs Q E hr h => ?_)
  · obtain ⟨n, t, rfl, _⟩ := h
    rfl
  · obtain ⟨n, t, rfl, h0, hn, ht, k⟩ := h
    refine ⟨_, (pss_cons (ps_set (i := 2) sc_shares_together.nd rfl (Or.inl rfl) (pe_lst (pa_cons (pe_lst pa_nil) pa_nil)))
      (pss_cons (ps_for PassesOwn.never rfl (pi_range1 rfl G.range (pa_cons (pe_op op_subn (pv 0) pe_int) pa_nil)) (pg_name (i := 3) sc_shares_together.nd rfl (Or.inl rfl))
        (pss_one (ps_set (i := 2) sc_shares_together.nd rfl (Or.inl rfl) (pe_call O_one_world_more (hr.mono (by decide)) rfl D_one_world_more.mg D_one_world_more.kp D_one_world_more.b .nil pass0 (pa_cons (pv 2) (pa_cons (pv 1) pa_nil))))))
      (pss_one (ps_ret (pe_lc (own := [("row", 4)]) rfl sc_shares_together.nd (pi_list (pv 2)) (blkOk_by rfl) (fun _ _ _ _ _ => (pg_name (i := 4) sc_shares_together.nd rfl (Or.inl rfl))) (fun _ _ _ _ _ => pts_nil) (fun _ _ _ _ _ => (pe_op op_cat (pv 4) (pe_lst (pa_cons (pe_op op_subn (pv 1) (pe_callB (sums (K := K) rfl) (by rfl) G.sum boot_sum (pa_cons (pv 4) pa_nil))) pa_nil))))))))), ?_⟩
    refine ⟨Nat.zero_le _, fun e0 he0 => ⟨by show 1 ≤ sizeLine; decide, fun e1 he1 => ?_⟩⟩
    have s1 : Same H (upd (upd H e0 (.lst [])) e1 (.lst [V.ref e0])) := (Same.new he0).trans (Same.new he1)
    have hne : e0 ≠ e1 := ne_of_none upd_same he1
    have sh1 : ShA (upd (upd H e0 (.lst [])) e1 (.lst [V.ref e0])) e1 [e0] [[]] := ⟨rfl, upd_same, fun i r x h1 h2 => by
      match i, h1, h2 with
      | 0, h1, h2 =>
        cases h1; cases h2
        rw [upd_ne hne]; exact upd_same
      | i + 1, h1, _ => simp at h1⟩
    have pw : ∀ i, i ≤ 4 → 11 ^ i ≤ 14641 := fun i hi => Nat.pow_le_pow_right (by decide : 0 < 11) hi
    refine ⟨_, rfl, n, 1, rfl, rfl, h0, ((n - 1 : Nat) : Int), rfl, by omega, by omega, frn (n := n - 1) (fun i σ H2 => ∃ (q : Addr) (v3 : Option V), σ = [some (.int (n : Int)), some (.int (t : Int)), some (.ref q), v3, none] ∧ Same H H2 ∧ Sh H2 q (iter t i [[]]))
      ⟨e1, none, rfl, s1, [e0], sh1⟩ ?_ ?_⟩
    · rintro i σ H2 hi ⟨q, v3, rfl, s2, sh2⟩
      have hlen := iter_length ht i
      have := pw i (by omega)
      refine ⟨_, rfl, _, rfl, q, t, _, rfl, ht, by omega, fun r hr => ⟨iter_sum i r hr, by rw [iter_len i r hr]; omega⟩, sh2, fun H3 q3 s3 sh3 => ?_⟩
      refine ⟨q3, _, rfl, s2.trans s3, ?_⟩
      rw [iter_succ]
      exact sh3
    · rintro σ H2 ⟨q, v3, rfl, s2, as, sh2⟩
      have hlen := iter_length ht (n - 1)
      have := pw (n - 1) (by omega)
      refine ⟨_, rfl, q, rfl, ⟨_, SqL.of sh2.lst⟩, fun D hD => ?_⟩
      refine lc_list (K := K) (a := q) (xs := as.map V.ref) (fun i H3 => Same H2 H3 ∧ ∃ bs, ShM H3 D bs (((iter t (n - 1) [[]]).take i).map fun row => row ++ [t - Krae.total row])) ⟨Same.new hD, [], ShM.nil upd_same⟩
        (fun i H3 _ ⟨s3, _⟩ => SqL.of (s3 _ _ sh2.lst)) ?_ ?_
      · rintro i y H3 hi ⟨s3, bs, m3⟩
        obtain ⟨r, x, rfl, hr1, hx, hrow⟩ := (sh2.same s3).get hi
        have hxm := iter_sum (n - 1) x (List.mem_of_getElem? hx)
        have hxl := iter_len (n - 1) x (List.mem_of_getElem? hx)
        have hil : i < (iter t (n - 1) [[]]).length := (List.getElem?_eq_some_iff.mp hx).1
        refine ⟨rfl, _, rfl, _, rfl, _, rfl, r, _, rfl, SqL.of hrow, t, Krae.total x, rfl, congrArg V.int (sum_total x), hxm, by show 1 ≤ sizeLine; decide, fun q1 hq1 => ?_⟩
        have s4 : Same H3 (upd H3 q1 (.lst [V.int ((t - Krae.total x : Nat) : Int)])) := Same.new hq1
        refine ⟨r, q1, _, _, rfl, rfl, s4 _ _ hrow, upd_same, ?_, fun q2 hq2 => ?_⟩
        · rw [ns_length, hxl]
          show n - 1 + 1 ≤ sizeLine
          have : sizeLine = 16777216 := by decide
          omega
        · have s5 : Same H3 (upd (upd H3 q1 (.lst [V.int ((t - Krae.total x : Nat) : Int)])) q2 (.lst (ns x ++ [V.int ((t - Krae.total x : Nat) : Int)]))) := s4.trans (Same.new hq2)
          have m5 := m3.same s5
          have hq2D : q2 ≠ D := (ne_of_none (s4 _ _ m3.sh.lst) hq2).symm
          refine ⟨_, m5.sh.lst, ?_, Same.put (s3.trans s5) hD, bs ++ [q2], ?_⟩
          · rw [List.length_map, m5.sh.len, List.length_map, List.length_take]
            have : sizeLine = 16777216 := by decide
            omega
          · rw [take_snoc hx, List.map_append]
            exact m5.snoc (by rw [upd_same, ns_snoc]) hq2D
      · rintro H3 ⟨s3, bs, m3⟩
        rw [List.length_map, sh2.len, List.take_length, together_rows h0] at m3
        exact k H3 D (s2.trans s3) ⟨bs, m3.sh⟩
end
end Lk
end
section
set_option Elab.async false
set_option linter.all false
set_option maxRecDepth 100000
set_option maxHeartbeats 4000000
namespace Lk
open PySem PySem.Spec PyProof.Rows L2
abbrev s_shares_in_order : Stmt := top 29
theorem sc_shares_in_order : FnScope ["worlds", "ordered", "together"] ["worlds"] (defScope s_shares_in_order) := ⟨rfl, rfl, rfl, by decide +kernel, rfl, by decide +kernel, by decide +kernel⟩
abbrev s_fitting_shares : Stmt := top 31
theorem sc_fitting_shares : FnScope ["worlds", "told", "shares"] ["worlds", "told"] (defScope s_fitting_shares) := ⟨rfl, rfl, rfl, by decide +kernel, rfl, by decide +kernel, by decide +kernel⟩
abbrev s_told_by_all : Stmt := top 32
theorem sc_told_by_all : FnScope ["first", "second", "fitting", "level", "shares", "more"] ["first", "second", "fitting"] (defScope s_told_by_all) := ⟨rfl, rfl, rfl, by decide +kernel, rfl, by decide +kernel, by decide +kernel⟩
theorem rows_len {n : Nat} (h0 : 0 < n) (hn : n ≤ 5) {t : Nat} (ht : t ≤ 10) : (Krae.rowsOf n t).length ≤ 14641 := by
  rw [← together_rows h0, List.length_map]
  exact Nat.le_trans (iter_length ht (n - 1)) (Nat.pow_le_pow_right (by decide : 0 < 11) (by omega : n - 1 ≤ 4))
def rowsUp (n i : Nat) : List (List Nat) := ((List.range i).map fun t => t + 1).flatMap fun t => Krae.rowsOf n t
theorem rowsUp_succ (n i : Nat) : rowsUp n (i + 1) = rowsUp n i ++ Krae.rowsOf n (i + 1) := by
  unfold rowsUp
  rw [List.range_succ, List.map_append, List.flatMap_append]
  simp
theorem rowsUp_len {n : Nat} (h0 : 0 < n) (hn : n ≤ 5) : ∀ i, i ≤ 10 → (rowsUp n i).length ≤ 14641 * i
  | 0, _ => by simp [rowsUp]
  | i + 1, hi => by
    have h1 := rowsUp_len h0 hn i (by omega)
    have h2 := rows_len h0 hn (t := i + 1) hi
    rw [rowsUp_succ, List.length_append]
    omega
theorem rows_eq (n : Nat) : rowsUp n 10 = Krae.rows n := rfl
theorem rows_all {n : Nat} (h0 : 0 < n) (hn : n ≤ 5) : (Krae.rows n).length ≤ 146410 := rowsUp_len h0 hn 10 (Nat.le_refl _)
theorem fit_len {n : Nat} (h0 : 0 < n) (hn : n ≤ 5) (l : List Krae.Told) : (Krae.fitBy n l).length ≤ 146410 := Nat.le_trans (List.length_filter_le _ _) (rows_all h0 hn)
theorem Sh.append {H : Hp} {D : Addr} {as bs : List Addr} {L M : List (List Nat)} (t : ShM H D as L) {q : Addr} (u : ShA H q bs M) (hD : ∀ r ∈ bs, r ≠ D) : ShM (upd H D (.lst (as.map V.ref ++ bs.map V.ref))) D (as ++ bs) (L ++ M) := by
  refine ⟨⟨by rw [List.length_append, List.length_append, t.sh.len, u.len], by rw [upd_same, List.map_append], fun i r x e1 e2 => ?_⟩, fun r hr => ?_⟩
  · by_cases hi : i < as.length
    · rw [List.getElem?_append_left hi] at e1
      rw [List.getElem?_append_left (by rw [← t.sh.len]; exact hi)] at e2
      rw [upd_ne (t.nD r (List.mem_of_getElem? e1))]
      exact t.sh.row i r x e1 e2
    · rw [List.getElem?_append_right (by omega)] at e1
      rw [List.getElem?_append_right (by rw [← t.sh.len]; omega), ← t.sh.len] at e2
      rw [upd_ne (hD r (List.mem_of_getElem? e1))]
      exact u.row _ r x e1 e2
  · rcases List.mem_append.mp hr with h | h
    · exact t.nD r h
    · exact hD r h
theorem ns_ne_refs {x : List Nat} {as : List Addr} (h : x ≠ []) : HO.lst (ns x) ≠ HO.lst (as.map V.ref) := fun e => by
  injection e with e1
  obtain ⟨m, y, rfl⟩ : ∃ m y, x = m :: y := by cases x with
    | nil => exact absurd rfl h
    | cons m y => exact ⟨m, y, rfl⟩
  cases as with
  | nil => cases e1
  | cons a as => injection e1 with e2 _; cases e2
theorem rowsOf_len : ∀ (n t : Nat) (r : List Nat), r ∈ Krae.rowsOf n t → r.length = n
  | 0, 0, r, h => by
    have e : r = [] := by simpa [Krae.rowsOf] using h
    rw [e]; rfl
  | 0, _ + 1, r, h => by simp [Krae.rowsOf] at h
  | n + 1, t, r, h => by
    unfold Krae.rowsOf at h
    obtain ⟨x, _, h2⟩ := List.mem_flatMap.mp h
    obtain ⟨y, h3, rfl⟩ := List.mem_map.mp h2
    rw [List.length_cons, rowsOf_len n _ y h3]
theorem rowsOf_sum : ∀ (n t : Nat) (r : List Nat), r ∈ Krae.rowsOf n t → Krae.total r = t
  | 0, 0, r, h => by
    have e : r = [] := by simpa [Krae.rowsOf] using h
    rw [e]; rfl
  | 0, _ + 1, r, h => by simp [Krae.rowsOf] at h
  | n + 1, t, r, h => by
    unfold Krae.rowsOf at h
    obtain ⟨x, h1, h2⟩ := List.mem_flatMap.mp h
    obtain ⟨y, h3, rfl⟩ := List.mem_map.mp h2
    have := List.mem_range.mp h1
    rw [total_cons, rowsOf_sum n _ y h3]
    omega
theorem rows_shape {n : Nat} {r : List Nat} (h : r ∈ Krae.rows n) : r.length = n ∧ 1 ≤ Krae.total r ∧ Krae.total r ≤ 10 := by
  unfold Krae.rows at h
  obtain ⟨t, h1, h2⟩ := List.mem_flatMap.mp h
  obtain ⟨u, h3, rfl⟩ := List.mem_map.mp h1
  have hu : u < 10 := List.mem_range.mp h3
  have e := rowsOf_sum n _ r h2
  exact ⟨rowsOf_len n _ r h2, by omega, by omega⟩
section
variable {P : Program} {w : World} {K : PySem.W.Frag} {mg : Str → Option Value} {base : Heap}
def spInOrder : Sp := fun vs H Q _ => ∃ (n : Nat), vs = [.int n] ∧ 0 < n ∧ n ≤ 5 ∧ ∀ H' q, Same H H' → Sh H' q (Krae.rows n) → Q (.ref q) H'
theorem ok_inOrder {f : Addr} {fd : FuncData} (F : Fun K "shares_in_order" "shares_in_order" s_shares_in_order f fd) (G : Gn mg) {f_shares_together : Addr} {fd_shares_together : FuncData} (O_shares_together : FnOk P w K mg base CX0 2 f_shares_together fd_shares_together ["worlds", "together"] spTogether) (D_shares_together : Df K mg "shares_together" f_shares_together fd_shares_together ["worlds", "together"]) : FnOk P w K mg base CX0 3 f fd ["worlds"] spInOrder := by
  refine F.ok sc_shares_in_order (fun vs H Q E h => ?_) (fun cdv A outer s H vs Q E hr h => ?_)
  · obtain ⟨n, rfl, _⟩ := h
    rfl
  · obtain ⟨n, rfl, h0, hn, k⟩ := h
    refine ⟨_, (pss_cons (ps_set (i := 1) sc_shares_in_order.nd rfl (Or.inl rfl) (pe_lst pa_nil))
      (pss_cons (ps_for PassesOwn.never rfl (pi_range2 rfl G.range (pa_cons pe_int (pa_cons (pe_op op_addn (pgi G.mostT) pe_int) pa_nil))) (pg_name (i := 2) sc_shares_in_order.nd rfl (Or.inl rfl))
        (pss_one (ps_expr (pe_bm PySem.F.plainAttrs_list PySem.F.slot_list_extend PySem.F.type_list_extend mt_extend (pv 1) (pa_cons (pe_call O_shares_together (hr.mono (by decide)) rfl D_shares_together.mg D_shares_together.kp D_shares_together.b .nil pass0 (pa_cons (pv 0) (pa_cons (pv 2) pa_nil))) pa_nil)))))
      (pss_one (ps_ret (pv 1))))), ?_⟩
    refine ⟨Nat.zero_le _, fun D hD => ?_⟩
    refine ⟨10, 1, rfl, rfl, 1, 11, rfl, by decide, for_range (lo := 1) (n := 10) (fun i σ H2 => ∃ v2 : Option V, σ = [some (.int (n : Int)), some (.ref D), v2] ∧ Same H H2 ∧ ∃ bs, ShM H2 D bs (rowsUp n i))
      ⟨none, rfl, Same.new hD, [], ShM.nil upd_same⟩ ?_ ?_⟩
    · rintro i σ H2 hi ⟨v2, rfl, s2, bs, m2⟩
      have e1 : (1 : Int) + (i : Int) = ((i + 1 : Nat) : Int) := by omega
      rw [e1]
      refine ⟨_, rfl, .inl ⟨rfl, _, SqL.of m2.sh.lst⟩, _, rfl, _, rfl, n, i + 1, rfl, h0, hn, by omega, fun H3 q s3 ⟨cs, u3⟩ => ?_⟩
      have m3 := m2.same s3
      have hlen := rowsUp_len h0 hn i (by omega)
      have hlen2 := rows_len h0 hn (t := i + 1) (by omega)
      refine ⟨D, q, _, _, rfl, rfl, m3.sh.lst, u3.lst, ?_, _, rfl, Same.put (s2.trans s3) hD, bs ++ cs, ?_⟩
      · rw [List.length_map, List.length_map, m3.sh.len, u3.len]
        have : sizeLine = 16777216 := by decide
        omega
      · rw [rowsUp_succ]
        refine Sh.append m3 u3 fun r hr => ?_
        obtain ⟨j, hj⟩ := List.getElem?_of_mem hr
        have hjl : j < (Krae.rowsOf n (i + 1)).length := by rw [← u3.len]; exact (List.getElem?_eq_some_iff.mp hj).1
        have q1 := u3.row j r _ hj (List.getElem?_eq_getElem hjl)
        refine ne_of q1 m3.sh.lst (ns_ne_refs fun z => ?_)
        have := rowsOf_len n (i + 1) _ (List.getElem_mem hjl)
        rw [z] at this
        simp at this
        omega
    · rintro σ H2 ⟨v2, rfl, s2, bs, m2⟩
      exact ⟨_, rfl, k H2 D s2 ⟨bs, m2.sh⟩⟩
def spFitting : Sp := fun vs H Q _ => ∃ (n : Nat) (q : Addr) (l : List Krae.Told), vs = [.int n, .ref q] ∧ 0 < n ∧ n ≤ 5 ∧ ToldAt H q l ∧ ∀ H' p, Same H H' → H p = none → Sh H' p (Krae.fitBy n l) → Q (.ref p) H'
theorem ok_fitting {f : Addr} {fd : FuncData} (F : Fun K "fitting_shares" "fitting_shares" s_fitting_shares f fd) (G : Gn mg) {f_shares_in_order : Addr} {fd_shares_in_order : FuncData} (O_shares_in_order : FnOk P w K mg base CX0 3 f_shares_in_order fd_shares_in_order ["worlds"] spInOrder) (D_shares_in_order : Df K mg "shares_in_order" f_shares_in_order fd_shares_in_order ["worlds"]) {f_fit : Addr} {fd_fit : FuncData} (O_fit : FnOk P w K mg base CX0 4 f_fit fd_fit ["shares", "told"] spFit) (D_fit : Df K mg "fit" f_fit fd_fit ["shares", "told"]) : FnOk P w K mg base CX0 5 f fd ["worlds", "told"] spFitting := by
  refine F.ok sc_fitting_shares (fun vs H Q E h => ?_) (fun cdv A outer s H vs Q E hr h => ?_)
  · obtain ⟨n, q, l, rfl, _⟩ := h
    rfl
  · obtain ⟨n, q, l, rfl, h0, hn, ht, k⟩ := h
    refine ⟨_, (pss_one (ps_ret (pe_lc (own := [("shares", 2)]) rfl sc_fitting_shares.nd (pi_list (pe_call O_shares_in_order (hr.mono (by decide)) rfl D_shares_in_order.mg D_shares_in_order.kp D_shares_in_order.b .nil pass0 (pa_cons (pv 0) pa_nil))) (blkOk_by rfl) (fun _ _ _ _ _ => (pg_name (i := 2) sc_fitting_shares.nd rfl (Or.inl rfl))) (fun _ _ _ _ _ => pts_one (pt_val (pe_call O_fit (hr.mono (by decide)) rfl D_fit.mg D_fit.kp D_fit.b .nil pass0 (pa_cons (pv 2) (pa_cons (pv 1) pa_nil))))) (fun _ _ _ _ _ => (pv 2))))), ?_⟩
    refine ⟨_, rfl, n, rfl, h0, hn, fun H1 p s1 ⟨as, sh⟩ => ?_⟩
    refine ⟨p, rfl, ⟨_, SqL.of sh.lst⟩, fun D hD => ?_⟩
    have hlen := rows_all h0 hn
    refine lc_list (K := K) (a := p) (xs := as.map V.ref) (fun i H3 => Same H1 H3 ∧ ∃ bs, ShM H3 D bs (((Krae.rows n).take i).filter fun x => l.all fun t => t.holds x)) ⟨Same.new hD, [], ShM.nil upd_same⟩
      (fun i H3 _ ⟨s3, _⟩ => SqL.of (s3 _ _ sh.lst)) ?_ ?_
    · rintro i y H3 hi ⟨s3, bs, m3⟩
      obtain ⟨r, x, rfl, hr1, hx, hrow⟩ := (sh.same s3).get hi
      have hrD : r ≠ D := ne_of_none (sh.row i r x hr1 hx) hD
      refine ⟨rfl, _, rfl, _, rfl, r, q, x, l, rfl, hrow, ht.same (s1.trans s3), fun H4 s4 => ?_⟩
      have m4 := m3.same s4
      refine ⟨_, rfl, ?_⟩
      rw [take_snoc hx, List.filter_append]
      cases hh : (l.all fun t => t.holds x) with
      | true =>
        refine iteT ⟨_, rfl, _, m4.sh.lst, ?_, Same.put (s3.trans s4) hD, bs ++ [r], ?_⟩
        · rw [List.length_map, m4.sh.len]
          refine Nat.lt_of_le_of_lt (List.length_filter_le _ _) ?_
          rw [List.length_take]
          have : sizeLine = 16777216 := by decide
          omega
        · simp only [List.filter_cons, List.filter_nil, hh, if_true]
          exact m4.snoc (s4 _ _ hrow) hrD
      | false =>
        refine iteF ⟨s3.trans s4, bs, ?_⟩
        simp only [List.filter_cons, List.filter_nil, hh, Bool.false_eq_true, if_false, List.append_nil]
        exact m4
    · rintro H3 ⟨s3, bs, m3⟩
      rw [List.length_map, sh.len, List.take_length] at m3
      exact k H3 D (s1.trans s3) (s1.free hD) ⟨bs, m3.sh⟩
theorem byAll_neg {L : List (List Nat)} {a b : Nat} {x : List Nat} (hx : x ∈ L) (h : Krae.of x a < Krae.of x b) : Krae.byAll L a b = 0 := by
  unfold Krae.byAll
  rw [if_neg, if_neg]
  · rw [List.all_eq_true]
    intro z
    have := of_decide_eq_true (z x hx)
    omega
  · rw [List.all_eq_true]
    intro z
    have := of_decide_eq_true (z x hx)
    omega
theorem byAll_le {L : List (List Nat)} {a b : Nat} (h : ∀ x ∈ L, Krae.of x b ≤ Krae.of x a) : Krae.byAll L a b = if (L.all fun x => decide (Krae.of x b < Krae.of x a)) = true then 2 else 1 := by
  unfold Krae.byAll
  have e : (L.all fun x => decide (Krae.of x b ≤ Krae.of x a)) = true := List.all_eq_true.mpr fun x hx => decide_eq_true (h x hx)
  rw [e, if_pos rfl]
theorem snoc_le {L : List (List Nat)} {a b : Nat} {x : List Nat} (h : ∀ x ∈ L, Krae.of x b ≤ Krae.of x a) (hx : Krae.of x b ≤ Krae.of x a) : ∀ y ∈ L ++ [x], Krae.of y b ≤ Krae.of y a := fun y hy => by
  rcases List.mem_append.mp hy with z | z
  · exact h y z
  · have e : y = x := by simpa using z
    rw [e]; exact hx
theorem byAll_more {L : List (List Nat)} {a b : Nat} {x : List Nat} (h : ∀ x ∈ L, Krae.of x b ≤ Krae.of x a) (hx : Krae.of x b < Krae.of x a) : Krae.byAll (L ++ [x]) a b = Krae.byAll L a b := by
  rw [byAll_le (snoc_le h (Nat.le_of_lt hx)), byAll_le h, List.all_append]
  have e : ([x].all fun x => decide (Krae.of x b < Krae.of x a)) = true := by
    rw [List.all_cons, decide_eq_true hx]; rfl
  rw [e, Bool.and_true]
theorem byAll_same {L : List (List Nat)} {a b : Nat} {x : List Nat} (h : ∀ x ∈ L, Krae.of x b ≤ Krae.of x a) (hx : Krae.of x b = Krae.of x a) : Krae.byAll (L ++ [x]) a b = 1 := by
  rw [byAll_le (snoc_le h (Nat.le_of_eq hx)), List.all_append]
  have e : ([x].all fun x => decide (Krae.of x b < Krae.of x a)) = false := by
    rw [List.all_cons, decide_eq_false (by omega)]; rfl
  rw [e, Bool.and_false, if_neg (by decide)]
def spByAll : Sp := fun vs H Q _ => ∃ (a b : Nat) (p : Addr) (L : List (List Nat)), vs = [.int a, .int b, .ref p] ∧ Sh H p L ∧ ∀ H', Same H H' → Q (.int ((Krae.byAll L a b : Nat) : Int)) H'
theorem ok_byAll {f : Addr} {fd : FuncData} (F : Fun K "told_by_all" "told_by_all" s_told_by_all f fd) (G : Gn mg) {f_lead : Addr} {fd_lead : FuncData} (O_lead : FnOk P w K mg base CX0 2 f_lead fd_lead ["first", "second", "shares"] spLead) (D_lead : Df K mg "lead" f_lead fd_lead ["first", "second", "shares"]) : FnOk P w K mg base CX0 3 f fd ["first", "second", "fitting"] spByAll := by
  refine F.ok sc_told_by_all (fun vs H Q E h => ?_) (fun cdv A outer s H vs Q E hr h => ?_)
  · obtain ⟨a, b, p, L, rfl, _⟩ := h
    rfl
  · obtain ⟨a, b, p, L, rfl, ⟨as, sh⟩, k⟩ := h
    refine ⟨_, (pss_cons (ps_set (i := 3) sc_told_by_all.nd rfl (Or.inl rfl) (pgi G.lik))
      (pss_cons (ps_for PassesOwn.never rfl (pi_list (pv 2)) (pg_name (i := 4) sc_told_by_all.nd rfl (Or.inl rfl))
        (pss_cons (ps_set (i := 5) sc_told_by_all.nd rfl (Or.inl rfl) (pe_call O_lead (hr.mono (by decide)) rfl D_lead.mg D_lead.kp D_lead.b .nil pass0 (pa_cons (pv 0) (pa_cons (pv 1) (pa_cons (pv 4) pa_nil)))))
      (pss_cons (ps_if (pt_cmpR op_lt (pv 5) pe_int (nomark _)) (pss_one (ps_ret (pgi G.not_))) pss_nil)
      (pss_one (ps_if (pt_cmpR op_eq (pv 5) pe_int (nomark _)) (pss_one (ps_set (i := 3) sc_told_by_all.nd rfl (Or.inl rfl) (pgi G.nol))) pss_nil)))))
      (pss_one (ps_ret (pv 3))))), ?_⟩
    refine ⟨_, rfl, p, rfl, ⟨_, SqL.of sh.lst⟩, for_list (K := K) (a := p) (xs := as.map V.ref) (fun i σ H2 => ∃ v4 v5 : Option V, σ = [some (.int (a : Int)), some (.int (b : Int)), some (.ref p), some (.int ((Krae.byAll (L.take i) a b : Nat) : Int)), v4, v5] ∧ Same H H2 ∧ ∀ x ∈ L.take i, Krae.of x b ≤ Krae.of x a)
      ⟨none, none, rfl, Same.refl _, fun x h => by cases h⟩ (fun i σ H2 _ ⟨_, _, _, s2, _⟩ => SqL.of (s2 _ _ sh.lst)) ?_ ?_⟩
    · rintro i y σ H2 hi ⟨v4, v5, rfl, s2, hle⟩
      obtain ⟨r, x, rfl, hr1, hx, hrow⟩ := (sh.same s2).get hi
      have hxm := List.mem_of_getElem? hx
      refine ⟨_, rfl, _, rfl, _, rfl, a, b, r, x, rfl, hrow, fun H3 s3 => ?_⟩
      refine ⟨_, rfl, _, _, rfl, rfl, _, rfl, ?_⟩
      refine ite2 (fun h => ?_) (fun h => ?_)
      · have h' : Krae.of x a < Krae.of x b := by have := of_decide_eq_true h; omega
        have fin := k H3 (s2.trans s3)
        rw [byAll_neg hxm h'] at fin
        exact fin
      · have h' : Krae.of x b ≤ Krae.of x a := by
          rcases Nat.lt_or_ge (Krae.of x a) (Krae.of x b) with z | z
          · exact absurd (decide_eq_true (by omega)) h
          · exact z
        refine ⟨_, rfl, rfl, _, rfl, ?_⟩
        refine ite2 (fun h3 => ?_) (fun h3 => ?_)
        · have h4 : V.int (((Krae.of x a : Nat) : Int) - ((Krae.of x b : Nat) : Int)) = V.int 0 := of_decide_eq_true h3
          injection h4 with h5
          refine ⟨some (.ref r), some (.int (((Krae.of x a : Nat) : Int) - ((Krae.of x b : Nat) : Int))), ?_, s2.trans s3, ?_⟩
          · rw [take_snoc hx, byAll_same hle (by omega)]
            rfl
          · rw [take_snoc hx]
            exact snoc_le hle h'
        · have h4 : ¬ Krae.of x b = Krae.of x a := fun z => h3 (decide_eq_true (by rw [z, Int.sub_self]))
          refine ⟨some (.ref r), some (.int (((Krae.of x a : Nat) : Int) - ((Krae.of x b : Nat) : Int))), ?_, s2.trans s3, ?_⟩
          · rw [take_snoc hx, byAll_more hle (by omega)]
            rfl
          · rw [take_snoc hx]
            exact snoc_le hle h'
    · rintro σ H2 ⟨v4, v5, rfl, s2, hle⟩
      have fin := k H2 s2
      rw [List.length_map, sh.len, List.take_length]
      exact ⟨_, rfl, fin⟩
end
end Lk
end
section
set_option Elab.async false
set_option linter.all false
set_option maxRecDepth 100000
set_option maxHeartbeats 4000000
namespace Lk
open PySem PySem.Spec PyProof.Rows L2
abbrev s_m___init__ : Stmt := inClass (top 66) 0
theorem sc_m___init__ : FnScope ["self"] ["self"] (defScope s_m___init__) := ⟨rfl, rfl, rfl, by decide +kernel, rfl, by decide +kernel, by decide +kernel⟩
abbrev s_m_has_begun : Stmt := inClass (top 66) 1
theorem sc_m_has_begun : FnScope ["self"] ["self"] (defScope s_m_has_begun) := ⟨rfl, rfl, rfl, by decide +kernel, rfl, by decide +kernel, by decide +kernel⟩
abbrev s_m_is_set : Stmt := inClass (top 66) 2
theorem sc_m_is_set : FnScope ["self", "chosen"] ["self", "chosen"] (defScope s_m_is_set) := ⟨rfl, rfl, rfl, by decide +kernel, rfl, by decide +kernel, by decide +kernel⟩
abbrev s_m_begin : Stmt := inClass (top 66) 3
theorem sc_m_begin : FnScope ["self", "worlds"] ["self", "worlds"] (defScope s_m_begin) := ⟨rfl, rfl, rfl, by decide +kernel, rfl, by decide +kernel, by decide +kernel⟩
abbrev s_m_tell : Stmt := inClass (top 66) 4
theorem sc_m_tell : FnScope ["self", "kind", "first", "second"] ["self", "kind", "first", "second"] (defScope s_m_tell) := ⟨rfl, rfl, rfl, by decide +kernel, rfl, by decide +kernel, by decide +kernel⟩
abbrev s_m_untell : Stmt := inClass (top 66) 5
theorem sc_m_untell : FnScope ["self", "number"] ["self", "number"] (defScope s_m_untell) := ⟨rfl, rfl, rfl, by decide +kernel, rfl, by decide +kernel, by decide +kernel⟩
abbrev s_m_fitting : Stmt := inClass (top 66) 8
theorem sc_m_fitting : FnScope ["self"] ["self"] (defScope s_m_fitting) := ⟨rfl, rfl, rfl, by decide +kernel, rfl, by decide +kernel, by decide +kernel⟩
abbrev s_m_can : Stmt := inClass (top 66) 9
theorem sc_m_can : FnScope ["self"] ["self"] (defScope s_m_can) := ⟨rfl, rfl, rfl, by decide +kernel, rfl, by decide +kernel, by decide +kernel⟩
abbrev s_m_ways : Stmt := inClass (top 66) 10
theorem sc_m_ways : FnScope ["self"] ["self"] (defScope s_m_ways) := ⟨rfl, rfl, rfl, by decide +kernel, rfl, by decide +kernel, by decide +kernel⟩
abbrev s_m_plainest : Stmt := inClass (top 66) 11
theorem sc_m_plainest : FnScope ["self", "fitting"] ["self"] (defScope s_m_plainest) := ⟨rfl, rfl, rfl, by decide +kernel, rfl, by decide +kernel, by decide +kernel⟩
abbrev s_m_fits : Stmt := inClass (top 66) 12
theorem sc_m_fits : FnScope ["self", "shares"] ["self", "shares"] (defScope s_m_fits) := ⟨rfl, rfl, rfl, by decide +kernel, rfl, by decide +kernel, by decide +kernel⟩
abbrev s_m_wrong : Stmt := inClass (top 66) 13
theorem sc_m_wrong : FnScope ["self", "shares", "numbers"] ["self", "shares"] (defScope s_m_wrong) := ⟨rfl, rfl, rfl, by decide +kernel, rfl, by decide +kernel, by decide +kernel⟩
abbrev s_m_all_shares : Stmt := inClass (top 66) 14
theorem sc_m_all_shares : FnScope ["self", "first", "second", "fitting"] ["self", "first", "second"] (defScope s_m_all_shares) := ⟨rfl, rfl, rfl, by decide +kernel, rfl, by decide +kernel, by decide +kernel⟩
abbrev s_m_rules : Stmt := inClass (top 66) 20
theorem sc_m_rules : FnScope ["self", "first", "second"] ["self", "first", "second"] (defScope s_m_rules) := ⟨rfl, rfl, rfl, by decide +kernel, rfl, by decide +kernel, by decide +kernel⟩
abbrev s_m_broken : Stmt := inClass (top 66) 21
theorem sc_m_broken : FnScope ["self"] ["self"] (defScope s_m_broken) := ⟨rfl, rfl, rfl, by decide +kernel, rfl, by decide +kernel, by decide +kernel⟩
abbrev s_m_look : Stmt := inClass (top 66) 6
theorem sc_m_look : FnScope ["self", "number"] ["self", "number"] (defScope s_m_look) := ⟨rfl, rfl, rfl, by decide +kernel, rfl, by decide +kernel, by decide +kernel⟩
abbrev s_m_state : Stmt := inClass (top 66) 7
theorem sc_m_state : FnScope ["self"] ["self"] (defScope s_m_state) := ⟨rfl, rfl, rfl, by decide +kernel, rfl, by decide +kernel, by decide +kernel⟩
abbrev s_m_given : Stmt := inClass (top 66) 15
theorem sc_m_given : FnScope ["self", "first", "second", "within", "fitting"] ["self", "first", "second", "within"] (defScope s_m_given) := ⟨rfl, rfl, rfl, by decide +kernel, rfl, by decide +kernel, by decide +kernel⟩
abbrev s_m_chance : Stmt := inClass (top 66) 16
theorem sc_m_chance : FnScope ["self", "chosen", "fitting"] ["self", "chosen"] (defScope s_m_chance) := ⟨rfl, rfl, rfl, by decide +kernel, rfl, by decide +kernel, by decide +kernel⟩
abbrev s_m_spare : Stmt := inClass (top 66) 17
theorem sc_m_spare : FnScope ["self", "wrong", "numbers"] ["self"] (defScope s_m_spare) := ⟨rfl, rfl, rfl, by decide +kernel, rfl, by decide +kernel, by decide +kernel⟩
abbrev s_m_clashes : Stmt := inClass (top 66) 18
theorem sc_m_clashes : FnScope ["self", "wrong", "sets"] ["self"] (defScope s_m_clashes) := ⟨rfl, rfl, rfl, by decide +kernel, rfl, by decide +kernel, by decide +kernel⟩
abbrev s_m_table : Stmt := inClass (top 66) 19
theorem sc_m_table : FnScope ["self"] ["self"] (defScope s_m_table) := ⟨rfl, rfl, rfl, by decide +kernel, rfl, by decide +kernel, by decide +kernel⟩
abbrev s_m_whole : Stmt := inClass (top 66) 22
theorem sc_m_whole : FnScope ["self"] ["self"] (defScope s_m_whole) := ⟨rfl, rfl, rfl, by decide +kernel, rfl, by decide +kernel, by decide +kernel⟩
abbrev s_m_alike : Stmt := inClass (top 66) 23
theorem sc_m_alike : FnScope ["self", "pairs", "answer", "pair"] ["self"] (defScope s_m_alike) := ⟨rfl, rfl, rfl, by decide +kernel, rfl, by decide +kernel, by decide +kernel⟩
abbrev s_m_beyond : Stmt := inClass (top 66) 24
theorem sc_m_beyond : FnScope ["self", "fitting", "pairs"] ["self"] (defScope s_m_beyond) := ⟨rfl, rfl, rfl, by decide +kernel, rfl, by decide +kernel, by decide +kernel⟩
abbrev s_m_settled : Stmt := inClass (top 66) 25
theorem sc_m_settled : FnScope ["self", "number", "others"] ["self", "number"] (defScope s_m_settled) := ⟨rfl, rfl, rfl, by decide +kernel, rfl, by decide +kernel, by decide +kernel⟩
def sf (n : Nat) (q : Addr) : List (Str × V) := [("worlds", .int (n : Int)), ("told", .ref q)]
theorem sf_w (n : Nat) (q : Addr) : (sf n q).lookup ("worlds" : Str) = some (.int (n : Int)) := rfl
theorem sf_t (n : Nat) (q : Addr) : (sf n q).lookup ("told" : Str) = some (.ref q) := rfl
theorem sf_pw (n m : Nat) (q : Addr) : putF "worlds" (.int (m : Int)) (sf n q) = sf m q := rfl
theorem sf_pt (n : Nat) (q r : Addr) : putF "told" (.ref r) (sf n q) = sf n r := rfl
structure Sess (C : Addr) (H : Hp) (p q : Addr) (n : Nat) (l : List Krae.Told) : Prop where
  obj : ∃ dx, H p = some (.ins C dx (sf n q))
  told : ToldAt H q l
  n5 : n ≤ 5
  sets : Sets n l
  six : l.length ≤ 6
theorem Sess.same {C : Addr} {H H' : Hp} {p q : Addr} {n : Nat} {l : List Krae.Told} (s : Same H H') (h : Sess C H p q n l) : Sess C H' p q n l := ⟨let ⟨dx, e⟩ := h.obj; ⟨dx, s _ _ e⟩, h.told.same s, h.n5, h.sets, h.six⟩
def But2 (p q : Addr) (H H' : Hp) : Prop := ∀ b o, H b = some o → b ≠ p → b ≠ q → H' b = some o
structure Txt (K : PySem.W.Frag) (mg : Str → Option Value) (C : Addr) : Prop where
  cl : Cls K C
  nW : NoAttr K C "worlds"
  nT : NoAttr K C "told"
structure Gs (mg : Str → Option Value) : Prop extends Gn mg where
  MOST_WORLDS : ∃ t, mg "MOST_WORLDS" = some (Value.int 5 t)
  MOST_TOLD : ∃ t, mg "MOST_TOLD" = some (Value.int 6 t)
  NONE_SUCH : ∃ t, mg "NONE_SUCH" = some (Value.int (-2) t)
  NOT_RIGHT : ∃ t, mg "NOT_RIGHT" = some (Value.int (-22) t)
  TOO_MANY : ∃ t, mg "TOO_MANY" = some (Value.int (-28) t)
  NO_SHARES : ∃ t, mg "NO_SHARES" = some (Value.int (-33) t)
  SOME_SHARES : ∃ t, mg "SOME_SHARES" = some (Value.int (-33) t)
  MAY_HAVE_NONE : ∃ t, mg "MAY_HAVE_NONE" = some (Value.int (-62) t)
def Says (H : Hp) (Q : VK) (ans : List Int) : Prop := ∀ (H' : Hp) (r : Addr), Same H H' → H r = none → H' r = some (.lst (ans.map V.int)) → Q (.ref r) H'
section
variable {P : Program} {w : World} {K : PySem.W.Frag} {mg : Str → Option Value} {base : Heap} {C : Addr}
def spInit (C : Addr) : Sp := fun vs H Q _ => ∃ p dx : Addr, vs = [.ref p] ∧ H p = some (.ins C dx []) ∧ ∀ (H' : Hp) (q : Addr), H q = none → H' q = some (.lst []) → (∃ dx, H' p = some (.ins C dx (sf 0 q))) → (∀ b o, H b = some o → b ≠ p → H' b = some o) → Q .non H'
theorem ok_init {f : Addr} {fd : FuncData} (F : Fun K "__init__" "Session.__init__" s_m___init__ f fd) (T : Txt K mg C) : FnOk P w K mg base CX0 1 f fd ["self"] (spInit C) := by
  refine F.ok sc_m___init__ (fun vs H Q E h => ?_) (fun cdv A outer s H vs Q E hr h => ?_)
  · obtain ⟨p, dx, rfl, _⟩ := h
    rfl
  · obtain ⟨p, dx, rfl, hp, k⟩ := h
    refine ⟨_, (pss_cons (ps_fld (pv 0) pe_int rfl)
      (pss_one (ps_fld (pv 0) (pe_lst pa_nil) rfl))), ?_⟩
    refine ⟨_, rfl, p, C, dx, _, rfl, hp, T.cl, T.nW, (by show 0 < 1000; decide), Nat.zero_le _, fun q hq => ?_⟩
    have hqp : p ≠ q := ne_of_none upd_same hq
    refine ⟨_, rfl, p, C, dx, _, rfl, by rw [upd_ne hqp]; exact upd_same, T.cl, T.nT, (by show 1 < 1000; decide), ?_⟩
    have hq0 : H q = none := by rw [upd_ne hqp.symm] at hq; exact hq
    refine k _ q hq0 (by rw [upd_ne hqp.symm]; exact upd_same) ⟨dx, upd_same⟩ fun b o e hb => ?_
    rw [upd_ne hb, upd_ne (ne_of_none e hq0), upd_ne hb]
    exact e
def spBegun (C : Addr) : Sp := fun vs H Q _ => ∃ (p q dx : Addr) (n : Nat), vs = [.ref p] ∧ H p = some (.ins C dx (sf n q)) ∧ Q (.bl (decide (0 < n))) H
theorem ok_begun {f : Addr} {fd : FuncData} (F : Fun K "has_begun" "Session.has_begun" s_m_has_begun f fd) (T : Txt K mg C) : FnOk P w K mg base CX0 1 f fd ["self"] (spBegun C) := by
  refine F.ok sc_m_has_begun (fun vs H Q E h => ?_) (fun cdv A outer s H vs Q E hr h => ?_)
  · obtain ⟨p, q, dx, n, rfl, _⟩ := h
    rfl
  · obtain ⟨p, q, dx, n, rfl, hp, k⟩ := h
    refine ⟨_, (pss_one (ps_ret (pe_cmpR op_gt (pe_fld (pv 0) rfl) pe_int (nomark _)))), ?_⟩
    refine ⟨_, rfl, p, C, dx, _, _, rfl, hp, T.cl, T.nW, sf_w n q, _, _, rfl, rfl, ?_⟩
    have e : decide ((0 : Int) < (n : Int)) = decide (0 < n) := decide_eq_decide.mpr (by omega)
    show Q (.bl (decide ((0 : Int) < (n : Int)))) H
    rw [e]
    exact k
def spIsSet (C : Addr) : Sp := fun vs H Q _ => ∃ (p q dx : Addr) (n c : Nat), vs = [.ref p, .int c] ∧ n ≤ 5 ∧ H p = some (.ins C dx (sf n q)) ∧ Q (.bl (decide (c < 2 ^ n))) H
theorem ok_isSet {f : Addr} {fd : FuncData} (F : Fun K "is_set" "Session.is_set" s_m_is_set f fd) (T : Txt K mg C) : FnOk P w K mg base CX0 1 f fd ["self", "chosen"] (spIsSet C) := by
  refine F.ok sc_m_is_set (fun vs H Q E h => ?_) (fun cdv A outer s H vs Q E hr h => ?_)
  · obtain ⟨p, q, dx, n, c, rfl, _⟩ := h
    rfl
  · obtain ⟨p, q, dx, n, c, rfl, hn, hp, k⟩ := h
    refine ⟨_, (pss_one (ps_ret (pe_cmpR op_lt (pv 1) (pe_op op_shl1 pe_int (pe_fld (pv 0) rfl)) (nomark _)))), ?_⟩
    refine ⟨_, rfl, _, rfl, p, C, dx, _, _, rfl, hp, T.cl, T.nW, sf_w n q, n, rfl, rfl, by omega, _, _, rfl, rfl, ?_⟩
    have e : decide ((c : Int) < ((2 ^ n : Nat) : Int)) = decide (c < 2 ^ n) := decide_eq_decide.mpr (by omega)
    show Q (.bl (decide ((c : Int) < ((2 ^ n : Nat) : Int)))) H
    rw [e]
    exact k
def spBegin (C : Addr) : Sp := fun vs H Q _ => ∃ (p q : Addr) (n m : Nat) (l : List Krae.Told), vs = [.ref p, .int m] ∧ Sess C H p q n l ∧
  ((m = 0 ∨ 5 < m) → Says H Q [-22]) ∧
  (¬ (m = 0 ∨ 5 < m) → ∀ (H' : Hp) (r q' : Addr), Sess C H' p q' m [] → But2 p q H H' → H q' = none → H r = none → r ≠ q' → H' r = some (.lst [.int 0]) → Q (.ref r) H')
theorem ok_begin {f : Addr} {fd : FuncData} (F : Fun K "begin" "Session.begin" s_m_begin f fd) (T : Txt K mg C) (G : Gs mg) : FnOk P w K mg base CX0 1 f fd ["self", "worlds"] (spBegin C) := by
  refine F.ok sc_m_begin (fun vs H Q E h => ?_) (fun cdv A outer s H vs Q E hr h => ?_)
  · obtain ⟨p, q, n, m, l, rfl, _⟩ := h
    rfl
  · obtain ⟨p, q, n, m, l, rfl, S, k1, k2⟩ := h
    obtain ⟨dx, hp⟩ := S.obj
    refine ⟨_, (pss_cons (ps_if (pw_or (pt_cmpR op_lt (pv 1) pe_int (nomark _)) (pw_or1 (pt_cmpR op_gt (pv 1) (pgi G.MOST_WORLDS) (nomark _)))).pt (pss_one (ps_ret (pe_lst (pa_cons (pgi G.NOT_RIGHT) pa_nil)))) pss_nil)
      (pss_cons (ps_fld (pv 0) (pv 1) rfl)
      (pss_cons (ps_fld (pv 0) (pe_lst pa_nil) rfl)
      (pss_one (ps_ret (pe_lst (pa_cons pe_int pa_nil))))))), ?_⟩
    have no : (m = 0 ∨ 5 < m) → ∀ Q' : VK, (∀ v H', Q' v H' ↔ Q v H') → 1 ≤ sizeLine ∧ ∀ r, H r = none → Q' (.ref r) (upd H r (.lst [.int (-22)])) := fun h Q' hQ => ⟨by decide, fun r hr => (hQ _ _).mpr (k1 h _ r (Same.new hr) hr upd_same)⟩
    refine ⟨_, rfl, _, _, rfl, rfl, _, rfl, ?_⟩
    refine ite2 (fun h => iteT (no (.inl (by have := of_decide_eq_true h; omega)) Q fun _ _ => Iff.rfl)) (fun h => ?_)
    refine ⟨_, rfl, _, _, rfl, rfl, _, rfl, ?_⟩
    refine ite2 (fun h' => no (.inr (by have := of_decide_eq_true h'; omega)) Q fun _ _ => Iff.rfl) (fun h' => ?_)
    have hm : ¬ (m = 0 ∨ 5 < m) := by
      rintro (z | z)
      · exact h (decide_eq_true (by omega))
      · exact h' (decide_eq_true (by omega))
    refine ⟨_, rfl, _, rfl, p, C, dx, _, rfl, hp, T.cl, T.nW, (by show 2 < 1000; decide), Nat.zero_le _, fun q1 hq1 => ?_⟩
    have hqp : p ≠ q1 := ne_of_none upd_same hq1
    have hq0 : H q1 = none := by rw [upd_ne hqp.symm] at hq1; exact hq1
    refine ⟨_, rfl, p, C, dx, _, rfl, by rw [upd_ne hqp]; exact upd_same, T.cl, T.nT, (by show 2 < 1000; decide), by show 1 ≤ sizeLine; decide, fun r hr => ?_⟩
    have hrp : r ≠ p := fun z => by rw [z, upd_same] at hr; cases hr
    have hrq : r ≠ q1 := fun z => by rw [z, upd_ne hqp.symm, upd_same] at hr; cases hr
    have hr0 : H r = none := by rw [upd_ne hrp, upd_ne hrq, upd_ne hrp] at hr; exact hr
    refine k2 hm _ r q1 ⟨⟨dx, ?_⟩, ⟨[], rfl, ?_, fun i t o e => (by simp at e)⟩, by omega, fun t ht => (by cases ht), Nat.zero_le _⟩ (fun b o e hb hb2 => ?_) hq0 hr0 hrq upd_same
    · rw [upd_ne hrp.symm, upd_same]
      rfl
    · rw [upd_ne hrq.symm, upd_ne hqp.symm, upd_same]
      rfl
    · rw [upd_ne (ne_of_none e hr0), upd_ne hb, upd_ne (ne_of_none e hq0), upd_ne hb]
      exact e
end
end Lk
end
section
set_option Elab.async false
set_option linter.all false
set_option maxRecDepth 100000
set_option maxHeartbeats 4000000
namespace Lk
open PySem PySem.Spec PyProof.Rows L2
theorem ToldA.snoc {H : Hp} {q t : Addr} {ts : List Addr} {l : List Krae.Told} {o : Krae.Told} (h : ToldA H q ts l) (ht : H t = some (.tup [.int (o.kind : Nat), .int (o.a : Nat), .int (o.b : Nat)])) :
    ToldA (upd H q (.lst (ts.map V.ref ++ [V.ref t]))) q (ts ++ [t]) (l ++ [o]) := by
  have ne : ∀ {a : Addr} {xs : List V}, H a = some (.tup xs) → a ≠ q := fun e => ne_of e h.lst (by intro z; cases z)
  refine ⟨by rw [List.length_append, List.length_append, h.len]; rfl, by rw [upd_same, List.map_append]; rfl, fun i a u e1 e2 => ?_⟩
  rcases snoc_get e1 with h1 | ⟨h1, rfl⟩
  · rcases snoc_get e2 with h2 | ⟨h2, _⟩
    · have q1 := h.one i a u h1 h2
      rw [upd_ne (ne q1)]; exact q1
    · have := (List.getElem?_eq_some_iff.mp h1).1
      rw [h.len] at this; omega
  · rcases snoc_get e2 with h2 | ⟨h2, rfl⟩
    · have := (List.getElem?_eq_some_iff.mp h2).1
      rw [← h.len] at this; omega
    · rw [upd_ne (ne ht)]; exact ht
theorem seqIx {t n : Nat} (h : t < n) : seqIndex? (t : Int) n = some t := by
  have e : (if (t : Int) < 0 then (t : Int) + n else (t : Int)) = (t : Int) := if_neg (by omega)
  unfold seqIndex?
  rw [e]
  show (if (decide (0 ≤ (t : Int)) && decide ((t : Int) < (n : Int))) = true then some ((t : Int)).toNat else none) = some t
  rw [if_pos (by rw [Bool.and_eq_true, decide_eq_true_eq, decide_eq_true_eq]; omega), Int.toNat_natCast]
theorem map_erase {α β : Type} (f : α → β) : ∀ (l : List α) (k : Nat), (l.map f).eraseIdx k = (l.eraseIdx k).map f
  | [], _ => rfl
  | _ :: _, 0 => rfl
  | a :: l, k + 1 => by rw [List.map_cons, List.eraseIdx_cons_succ, List.eraseIdx_cons_succ, List.map_cons, map_erase f l k]
theorem ToldA.erase {H : Hp} {q : Addr} {ts : List Addr} {l : List Krae.Told} (h : ToldA H q ts l) (k : Nat) : ToldA (upd H q (.lst ((ts.map V.ref).eraseIdx k))) q (ts.eraseIdx k) (l.eraseIdx k) := by
  have ne : ∀ {a : Addr} {xs : List V}, H a = some (.tup xs) → a ≠ q := fun e => ne_of e h.lst (by intro z; cases z)
  refine ⟨by rw [List.length_eraseIdx, List.length_eraseIdx, h.len], by rw [upd_same, map_erase], fun i a u e1 e2 => ?_⟩
  rw [List.getElem?_eraseIdx] at e1 e2
  have q1 : H a = some (.tup [.int (u.kind : Nat), .int (u.a : Nat), .int (u.b : Nat)]) := by
    split at e1
    · rename_i hi
      rw [if_pos hi] at e2
      exact h.one i a u e1 e2
    · rename_i hi
      rw [if_neg hi] at e2
      exact h.one (i + 1) a u e1 e2
  rw [upd_ne (ne q1)]; exact q1
section
variable {P : Program} {w : World} {K : PySem.W.Frag} {mg : Str → Option Value} {base : Heap} {C : Addr}
def Turns (C : Addr) (H : Hp) (Q : VK) (p q : Addr) (n : Nat) (l' : List Krae.Told) (ans : Int) : Prop :=
  ∀ (H' : Hp) (r : Addr), Sess C H' p q n l' → (∀ b o, H b = some o → b ≠ q → H' b = some o) → H r = none → H' r = some (.lst [.int ans]) → Q (.ref r) H'
def spTell (C : Addr) : Sp := fun vs H Q _ => ∃ (p q : Addr) (n k a b : Nat) (l : List Krae.Told), vs = [.ref p, .int k, .int a, .int b] ∧ Sess C H p q n l ∧
  ((2 < k ∨ 2 ^ n ≤ a ∨ 2 ^ n ≤ b) → Says H Q [-22]) ∧
  (¬ (2 < k ∨ 2 ^ n ≤ a ∨ 2 ^ n ≤ b) → 6 ≤ l.length → Says H Q [-28]) ∧
  (¬ (2 < k ∨ 2 ^ n ≤ a ∨ 2 ^ n ≤ b) → ¬ 6 ≤ l.length → Turns C H Q p q n (l ++ [⟨a, b, k⟩]) (l.length : Nat))
theorem ok_tell {f : Addr} {fd : FuncData} (F : Fun K "tell" "Session.tell" s_m_tell f fd) (T : Txt K mg C) (G : Gs mg) {f_is_set : Addr} {fd_is_set : FuncData} (O_is_set : FnOk P w K mg base CX0 1 f_is_set fd_is_set ["self", "chosen"] (spIsSet C)) (M_is_set : Meth K C "is_set" f_is_set) (B_is_set : Binds K fd_is_set ["self", "chosen"] []) : FnOk P w K mg base CX0 2 f fd ["self", "kind", "first", "second"] (spTell C) := by
  refine F.ok sc_m_tell (fun vs H Q E h => ?_) (fun cdv A outer s H vs Q E hr h => ?_)
  · obtain ⟨p, q, n, k, a, b, l, rfl, _⟩ := h
    rfl
  · obtain ⟨p, q, n, k, a, b, l, rfl, S, k1, k2, k3⟩ := h
    obtain ⟨dx, hp⟩ := S.obj
    obtain ⟨ts, ht⟩ := S.told
    refine ⟨_, (pss_cons (ps_if (pw_or (pt_cmpR op_gt (pv 1) (pgi G.kAs) (nomark _)) (pw_or (pt_not (pt_val (pe_meth (pv 0) T.cl M_is_set O_is_set (hr.mono (by decide)) B_is_set .nil pass0 (pa_cons (pv 2) pa_nil)))) (pw_or1 (pt_not (pt_val (pe_meth (pv 0) T.cl M_is_set O_is_set (hr.mono (by decide)) B_is_set .nil pass0 (pa_cons (pv 3) pa_nil))))))).pt (pss_one (ps_ret (pe_lst (pa_cons (pgi G.NOT_RIGHT) pa_nil)))) pss_nil)
      (pss_cons (ps_if (pt_cmpR op_ge (pe_callB (lens (K := K)) (by rfl) G.len PySem.boot_len (pa_cons (pe_fld (pv 0) rfl) pa_nil)) (pgi G.MOST_TOLD) (nomark _)) (pss_one (ps_ret (pe_lst (pa_cons (pgi G.TOO_MANY) pa_nil)))) pss_nil)
      (pss_cons (ps_expr (pe_bm PySem.F.plainAttrs_list PySem.F.slot_list_append PySem.F.type_list_append mt_append (pe_fld (pv 0) rfl) (pa_cons (pe_tup (pa_cons (pv 1) (pa_cons (pv 2) (pa_cons (pv 3) pa_nil)))) pa_nil)))
      (pss_one (ps_ret (pe_lst (pa_cons (pe_op op_subn (pe_callB (lens (K := K)) (by rfl) G.len PySem.boot_len (pa_cons (pe_fld (pv 0) rfl) pa_nil)) pe_int) pa_nil))))))), ?_⟩
    have no : (2 < k ∨ 2 ^ n ≤ a ∨ 2 ^ n ≤ b) → 1 ≤ sizeLine ∧ ∀ r, H r = none → Q (.ref r) (upd H r (.lst [.int (-22)])) := fun h => ⟨by decide, fun r hr => (k1 h _ r (Same.new hr) hr upd_same)⟩
    refine ⟨_, rfl, _, _, rfl, rfl, _, rfl, ?_⟩
    refine ite2 (fun h => iteT (no (.inl (by have := of_decide_eq_true h; omega)))) (fun h => ?_)
    refine ⟨_, rfl, p, dx, _, rfl, hp, rfl, _, rfl, p, q, dx, n, a, rfl, S.n5, hp, _, rfl, ?_⟩
    refine ite2 (fun h' => iteT (no (.inr (.inl ?_)))) (fun h' => ?_)
    · by_cases z : a < 2 ^ n
      · rw [decide_eq_true z] at h'; cases h'
      · omega
    refine ⟨_, rfl, p, dx, _, rfl, hp, rfl, _, rfl, p, q, dx, n, b, rfl, S.n5, hp, _, rfl, ?_⟩
    refine ite2 (fun h'' => no (.inr (.inr ?_))) (fun h'' => ?_)
    · by_cases z : b < 2 ^ n
      · rw [decide_eq_true z] at h''; cases h''
      · omega
    have hk : ¬ (2 < k ∨ 2 ^ n ≤ a ∨ 2 ^ n ≤ b) := by
      rintro (z | z | z)
      · exact h (decide_eq_true (by omega))
      · exact h' (by rw [decide_eq_false (by omega)]; rfl)
      · exact h'' (by rw [decide_eq_false (by omega)]; rfl)
    refine ⟨_, rfl, p, C, dx, _, _, rfl, hp, T.cl, T.nT, sf_t n q, q, _, rfl, .inl (SqL.of ht.lst), _, _, rfl, rfl, _, rfl, ?_⟩
    rw [List.length_map, ht.len]
    refine ite2 (fun h3 => ⟨by decide, fun r hr => k2 hk (by have := of_decide_eq_true h3; omega) _ r (Same.new hr) hr upd_same⟩) (fun h3 => ?_)
    have h6 : ¬ 6 ≤ l.length := fun z => h3 (decide_eq_true (by omega))
    refine ⟨_, rfl, p, C, dx, _, _, rfl, hp, T.cl, T.nT, sf_t n q, .inl ⟨rfl, _, SqL.of ht.lst⟩, _, rfl, _, rfl, _, rfl, by show 3 ≤ sizeLine; decide, fun t htn => ?_⟩
    have st : Same H (upd H t (.tup [.int (k : Int), .int (a : Int), .int (b : Int)])) := Same.new htn
    have ht1 := ht.same st
    have hs1 := ht1.snoc (t := t) (o := ⟨a, b, k⟩) upd_same
    have hpq : p ≠ q := ne_of hp ht.lst (by intro z; cases z)
    refine ⟨q, _, _, rfl, rfl, ht1.lst, ?_, ?_⟩
    · rw [List.length_map, ht.len]
      have := S.six
      exact Nat.lt_of_le_of_lt this (by decide)
    have hp2 : (upd (upd H t (.tup [.int (k : Int), .int (a : Int), .int (b : Int)])) q (.lst (ts.map V.ref ++ [V.ref t]))) p = some (.ins C dx (sf n q)) := by
      rw [upd_ne hpq]; exact st _ _ hp
    refine ⟨_, rfl, p, C, dx, _, _, rfl, hp2, T.cl, T.nT, sf_t n q, q, _, rfl, .inl (SqL.of upd_same), l.length + 1, 1, ?_, rfl, by omega, by show 1 ≤ sizeLine; decide, fun r hr => ?_⟩
    · rw [List.length_append, List.length_map, ht.len]
      rfl
    · have sr := Same.new (o := .lst [V.int ((l.length + 1 - 1 : Nat) : Int)]) hr
      have hr0 : H r = none := by
        have hrq : r ≠ q := fun z => by rw [z, upd_same] at hr; cases hr
        rw [upd_ne hrq] at hr
        exact st.free hr
      have hs2 := hs1.same sr
      refine k3 hk h6 _ r ⟨⟨dx, sr _ _ hp2⟩, ⟨_, hs2⟩, S.n5, fun o ho => ?_, ?_⟩ (fun c o e hc => ?_) hr0 ?_
      · rcases List.mem_append.mp ho with z | z
        · exact S.sets o z
        · have e : o = ⟨a, b, k⟩ := by simpa using z
          rw [e]
          exact ⟨by show a < 2 ^ n; omega, by show b < 2 ^ n; omega⟩
      · rw [List.length_append]
        show l.length + 1 ≤ 6
        omega
      · refine sr _ _ ?_
        rw [upd_ne hc]
        exact st _ _ e
      · rw [upd_same]
        rfl
def spUntell (C : Addr) : Sp := fun vs H Q _ => ∃ (p q : Addr) (n t : Nat) (l : List Krae.Told), vs = [.ref p, .int t] ∧ t < 4294967296 ∧ Sess C H p q n l ∧
  (l.length ≤ t → Says H Q [-2]) ∧ (¬ l.length ≤ t → Turns C H Q p q n (l.eraseIdx t) ((l.eraseIdx t).length : Nat))
theorem ok_untell {f : Addr} {fd : FuncData} (F : Fun K "untell" "Session.untell" s_m_untell f fd) (T : Txt K mg C) (G : Gs mg) : FnOk P w K mg base CX0 1 f fd ["self", "number"] (spUntell C) := by
  refine F.ok sc_m_untell (fun vs H Q E h => ?_) (fun cdv A outer s H vs Q E hr h => ?_)
  · obtain ⟨p, q, n, t, l, rfl, _⟩ := h
    rfl
  · obtain ⟨p, q, n, t, l, rfl, h32, S, k1, k2⟩ := h
    obtain ⟨dx, hp⟩ := S.obj
    obtain ⟨ts, ht⟩ := S.told
    have hpq : p ≠ q := ne_of hp ht.lst (by intro z; cases z)
    refine ⟨_, (pss_cons (ps_if (pt_cmpR op_ge (pv 1) (pe_callB (lens (K := K)) (by rfl) G.len PySem.boot_len (pa_cons (pe_fld (pv 0) rfl) pa_nil)) (nomark _)) (pss_one (ps_ret (pe_lst (pa_cons (pgi G.NONE_SUCH) pa_nil)))) pss_nil)
      (pss_cons (ps_expr (pe_bm PySem.F.plainAttrs_list PySem.F.slot_list_pop PySem.F.type_list_pop mt_popAt (pe_fld (pv 0) rfl) (pa_cons (pv 1) pa_nil)))
      (pss_one (ps_ret (pe_lst (pa_cons (pe_callB (lens (K := K)) (by rfl) G.len PySem.boot_len (pa_cons (pe_fld (pv 0) rfl) pa_nil)) pa_nil)))))), ?_⟩
    refine ⟨_, rfl, _, rfl, p, C, dx, _, _, rfl, hp, T.cl, T.nT, sf_t n q, q, _, rfl, .inl (SqL.of ht.lst), _, _, rfl, rfl, _, rfl, ?_⟩
    rw [List.length_map, ht.len]
    refine ite2 (fun h => ⟨by decide, fun r hr => k1 (by have := of_decide_eq_true h; omega) _ r (Same.new hr) hr upd_same⟩) (fun h => ?_)
    have hlt : ¬ l.length ≤ t := fun z => h (decide_eq_true (by omega))
    obtain ⟨y, hy⟩ : ∃ y, (ts.map V.ref)[t]? = some y := ⟨_, List.getElem?_eq_getElem (by rw [List.length_map, ht.len]; omega)⟩
    refine ⟨_, rfl, p, C, dx, _, _, rfl, hp, T.cl, T.nT, sf_t n q, .inl ⟨rfl, _, SqL.of ht.lst⟩, _, rfl, q, _, _, t, y, rfl, rfl, ht.lst, by omega, by omega, ?_, hy, ?_⟩
    · rw [List.length_map, ht.len]
      exact seqIx (by omega)
    have he := ht.erase t
    have hp2 : (upd H q (.lst ((ts.map V.ref).eraseIdx t))) p = some (.ins C dx (sf n q)) := by rw [upd_ne hpq]; exact hp
    refine ⟨_, rfl, p, C, dx, _, _, rfl, hp2, T.cl, T.nT, sf_t n q, q, _, rfl, .inl (SqL.of upd_same), by show 1 ≤ sizeLine; decide, fun r hr => ?_⟩
    have hr0 : H r = none := by
      have hrq : r ≠ q := fun z => by rw [z, upd_same] at hr; cases hr
      rw [upd_ne hrq] at hr
      exact hr
    have el : ((ts.map V.ref).eraseIdx t).length = (l.eraseIdx t).length := by rw [List.length_eraseIdx, List.length_eraseIdx, List.length_map, ht.len]
    have hin : ∀ o ∈ l.eraseIdx t, o ∈ l := fun o ho => (List.eraseIdx_sublist l t).mem ho
    refine k2 hlt _ r ⟨⟨dx, Same.new hr _ _ hp2⟩, ⟨_, he.same (Same.new hr)⟩, S.n5, fun o ho => S.sets o (hin o ho), Nat.le_trans (List.eraseIdx_sublist l t).length_le S.six⟩ (fun c o e hc => Same.new hr _ _ (by rw [upd_ne hc]; exact e)) hr0 ?_
    rw [upd_same, el]
end
end Lk
end
section
set_option Elab.async false
set_option linter.all false
set_option maxRecDepth 100000
set_option maxHeartbeats 4000000
namespace Lk
open PySem PySem.Spec PyProof.Rows L2
section
variable {P : Program} {w : World} {K : PySem.W.Frag} {mg : Str → Option Value} {base : Heap} {C : Addr}
def spFits0 (C : Addr) : Sp := fun vs H Q _ => ∃ (p q : Addr) (n : Nat) (l : List Krae.Told), vs = [.ref p] ∧ 0 < n ∧ Sess C H p q n l ∧ ∀ H' r, Same H H' → H r = none → Sh H' r (Krae.fitBy n l) → Q (.ref r) H'
theorem ok_mfitting {f : Addr} {fd : FuncData} (F : Fun K "fitting" "Session.fitting" s_m_fitting f fd) (T : Txt K mg C) {f_fitting_shares : Addr} {fd_fitting_shares : FuncData} (O_fitting_shares : FnOk P w K mg base CX0 5 f_fitting_shares fd_fitting_shares ["worlds", "told"] spFitting) (D_fitting_shares : Df K mg "fitting_shares" f_fitting_shares fd_fitting_shares ["worlds", "told"]) : FnOk P w K mg base CX0 6 f fd ["self"] (spFits0 C) := by
  refine F.ok sc_m_fitting (fun vs H Q E h => ?_) (fun cdv A outer s H vs Q E hr h => ?_)
  · obtain ⟨p, q, n, l, rfl, _⟩ := h
    rfl
  · obtain ⟨p, q, n, l, rfl, h0, S, k⟩ := h
    obtain ⟨dx, hp⟩ := S.obj
    refine ⟨_, (pss_one (ps_ret (pe_call O_fitting_shares (hr.mono (by decide)) rfl D_fitting_shares.mg D_fitting_shares.kp D_fitting_shares.b .nil pass0 (pa_cons (pe_fld (pv 0) rfl) (pa_cons (pe_fld (pv 0) rfl) pa_nil))))), ?_⟩
    exact ⟨_, rfl, p, C, dx, _, _, rfl, hp, T.cl, T.nW, sf_w n q, _, rfl, p, C, dx, _, _, rfl, hp, T.cl, T.nT, sf_t n q, n, q, l, rfl, h0, S.n5, S.told, fun H' r s1 hr0 sh => k H' r s1 hr0 sh⟩
def spAsk (C : Addr) (ans : Nat → List Krae.Told → List Int) : Sp := fun vs H Q _ => ∃ (p q : Addr) (n : Nat) (l : List Krae.Told), vs = [.ref p] ∧ 0 < n ∧ Sess C H p q n l ∧ Says H Q (ans n l)
def aCan (n : Nat) (l : List Krae.Told) : List Int := [if (Krae.fitBy n l).isEmpty then 0 else 1]
theorem ok_can {f : Addr} {fd : FuncData} (F : Fun K "can" "Session.can" s_m_can f fd) (T : Txt K mg C) (G : Gs mg) {f_fitting : Addr} {fd_fitting : FuncData} (O_fitting : FnOk P w K mg base CX0 6 f_fitting fd_fitting ["self"] (spFits0 C)) (M_fitting : Meth K C "fitting" f_fitting) (B_fitting : Binds K fd_fitting ["self"] []) : FnOk P w K mg base CX0 7 f fd ["self"] (spAsk C aCan) := by
  refine F.ok sc_m_can (fun vs H Q E h => ?_) (fun cdv A outer s H vs Q E hr h => ?_)
  · obtain ⟨p, q, n, l, rfl, _⟩ := h
    rfl
  · obtain ⟨p, q, n, l, rfl, h0, S, k⟩ := h
    obtain ⟨dx, hp⟩ := S.obj
    refine ⟨_, (pss_one (ps_ret (pe_lst (pa_cons (pe_ifExp (pt_cmpR op_gt (pe_callB (lens (K := K)) (by rfl) G.len PySem.boot_len (pa_cons (pe_meth0 (pv 0) T.cl M_fitting O_fitting (hr.mono (by decide)) B_fitting .nil pass0) pa_nil)) pe_int (nomark _)) pe_int pe_int) pa_nil)))), ?_⟩
    refine ⟨_, rfl, p, dx, _, rfl, hp, rfl, p, q, n, l, rfl, h0, S, fun H1 r1 s1 _ ⟨as, sh⟩ => ?_⟩
    refine ⟨r1, _, rfl, .inl (SqL.of sh.lst), _, _, rfl, rfl, _, rfl, ?_⟩
    rw [List.length_map, sh.len]
    refine ifN (x := 1) (y := 0) ⟨by show 1 ≤ sizeLine; decide, fun r hr1 => ?_⟩
    refine k _ r (s1.trans (Same.new hr1)) (s1.free hr1) ?_
    rw [upd_same]
    unfold aCan
    cases hf : Krae.fitBy n l with
    | nil => rfl
    | cons x L =>
      rw [if_pos (by rw [List.length_cons]; omega)]
      rfl
def aWays (n : Nat) (l : List Krae.Told) : List Int := [((Krae.fitBy n l).length : Nat)]
theorem ok_ways {f : Addr} {fd : FuncData} (F : Fun K "ways" "Session.ways" s_m_ways f fd) (T : Txt K mg C) (G : Gs mg) {f_fitting : Addr} {fd_fitting : FuncData} (O_fitting : FnOk P w K mg base CX0 6 f_fitting fd_fitting ["self"] (spFits0 C)) (M_fitting : Meth K C "fitting" f_fitting) (B_fitting : Binds K fd_fitting ["self"] []) : FnOk P w K mg base CX0 7 f fd ["self"] (spAsk C aWays) := by
  refine F.ok sc_m_ways (fun vs H Q E h => ?_) (fun cdv A outer s H vs Q E hr h => ?_)
  · obtain ⟨p, q, n, l, rfl, _⟩ := h
    rfl
  · obtain ⟨p, q, n, l, rfl, h0, S, k⟩ := h
    obtain ⟨dx, hp⟩ := S.obj
    refine ⟨_, (pss_one (ps_ret (pe_lst (pa_cons (pe_callB (lens (K := K)) (by rfl) G.len PySem.boot_len (pa_cons (pe_meth0 (pv 0) T.cl M_fitting O_fitting (hr.mono (by decide)) B_fitting .nil pass0) pa_nil)) pa_nil)))), ?_⟩
    refine ⟨_, rfl, p, dx, _, rfl, hp, rfl, p, q, n, l, rfl, h0, S, fun H1 r1 s1 _ ⟨as, sh⟩ => ?_⟩
    refine ⟨r1, _, rfl, .inl (SqL.of sh.lst), by show 1 ≤ sizeLine; decide, fun r hr1 => ?_⟩
    refine k _ r (s1.trans (Same.new hr1)) (s1.free hr1) ?_
    rw [upd_same, List.length_map, sh.len]
    rfl
def aPlain (n : Nat) (l : List Krae.Told) : List Int := match Krae.fitBy n l with
  | [] => [-33]
  | x :: _ => ((Krae.total x : Nat) : Int) :: x.map fun (m : Nat) => (m : Int)
theorem ok_plainest {f : Addr} {fd : FuncData} (F : Fun K "plainest" "Session.plainest" s_m_plainest f fd) (T : Txt K mg C) (G : Gs mg) {f_fitting : Addr} {fd_fitting : FuncData} (O_fitting : FnOk P w K mg base CX0 6 f_fitting fd_fitting ["self"] (spFits0 C)) (M_fitting : Meth K C "fitting" f_fitting) (B_fitting : Binds K fd_fitting ["self"] []) : FnOk P w K mg base CX0 7 f fd ["self"] (spAsk C aPlain) := by
  refine F.ok sc_m_plainest (fun vs H Q E h => ?_) (fun cdv A outer s H vs Q E hr h => ?_)
  · obtain ⟨p, q, n, l, rfl, _⟩ := h
    rfl
  · obtain ⟨p, q, n, l, rfl, h0, S, k⟩ := h
    obtain ⟨dx, hp⟩ := S.obj
    refine ⟨_, (pss_cons (ps_set (i := 1) sc_m_plainest.nd rfl (Or.inl rfl) (pe_meth0 (pv 0) T.cl M_fitting O_fitting (hr.mono (by decide)) B_fitting .nil pass0))
      (pss_cons (ps_if (pt_cmpR op_eqn (pe_callB (lens (K := K)) (by rfl) G.len PySem.boot_len (pa_cons (pv 1) pa_nil)) pe_int (nomark _)) (pss_one (ps_ret (pe_lst (pa_cons (pgi G.NO_SHARES) pa_nil)))) pss_nil)
      (pss_one (ps_ret (pe_op op_cat (pe_lst (pa_cons (pe_callB (sums (K := K) rfl) (by rfl) G.sum boot_sum (pa_cons (pe_ix (ixl (K := K)) (pv 1) pe_int (fun _ _ => rfl)) pa_nil)) pa_nil)) (pe_ix (ixl (K := K)) (pv 1) pe_int (fun _ _ => rfl))))))), ?_⟩
    refine ⟨_, rfl, p, dx, _, rfl, hp, rfl, p, q, n, l, rfl, h0, S, fun H1 r1 s1 _ ⟨as, sh⟩ => ?_⟩
    refine ⟨_, rfl, r1, _, rfl, .inl (SqL.of sh.lst), (Krae.fitBy n l).length, 0, by rw [List.length_map, sh.len], rfl, _, rfl, ?_⟩
    unfold aPlain at k
    cases hf : Krae.fitBy n l with
    | nil =>
      rw [hf] at k
      exact iteT ⟨by show 1 ≤ sizeLine; decide, fun r hr1 => k _ r (s1.trans (Same.new hr1)) (s1.free hr1) upd_same⟩
    | cons x L =>
      rw [hf] at k
      refine ite2 (fun z => ?_) (fun _ => ?_)
      · have := of_decide_eq_true z
        rw [List.length_cons] at this
        omega
      rw [hf] at sh
      obtain ⟨a0, ha0⟩ : ∃ a0, as[0]? = some a0 := ⟨_, List.getElem?_eq_getElem (by rw [sh.len, List.length_cons]; omega)⟩
      have hrow := sh.row 0 a0 x ha0 rfl
      have hm0 : (as.map V.ref)[0]? = some (V.ref a0) := by rw [List.getElem?_map, ha0]; rfl
      have hxl : x.length = n := (rows_shape (List.mem_filter.mp (show x ∈ Krae.fitBy n l by rw [hf]; exact .head _)).1).1
      refine ⟨_, rfl, r1, _, _, _, rfl, rfl, SqL.of sh.lst, atI_nat (j := 0) hm0, a0, _, rfl, SqL.of hrow, by show 1 ≤ sizeLine; decide, fun r2 hr2 => ?_⟩
      have s2 := Same.new (o := .lst [V.int ((x.map fun (n : Nat) => (n : Int)).sum)]) hr2
      refine ⟨_, rfl, r1, _, _, _, rfl, rfl, SqL.of (s2 _ _ sh.lst), atI_nat (j := 0) hm0, r2, a0, _, _, rfl, rfl, upd_same, s2 _ _ hrow, ?_, fun r hr1 => ?_⟩
      · rw [ns_length, hxl]
        have := S.n5
        show 1 + n ≤ sizeLine
        have : sizeLine = 16777216 := by decide
        omega
      · refine k _ r ((s1.trans s2).trans (Same.new hr1)) ((s1.trans s2).free hr1) ?_
        rw [upd_same, sum_total]
        rfl
def spFitsX (C : Addr) : Sp := fun vs H Q _ => ∃ (p q xa : Addr) (n : Nat) (l : List Krae.Told) (x : List Nat), vs = [.ref p, .ref xa] ∧ 0 < n ∧ Sess C H p q n l ∧ H xa = some (.lst (ns x)) ∧
  Says H Q [if (x.length == n && (decide (1 ≤ Krae.total x) && decide (Krae.total x ≤ 10))) = false then -22 else if (l.all fun t => t.holds x) then 1 else 0]
theorem ok_fits {f : Addr} {fd : FuncData} (F : Fun K "fits" "Session.fits" s_m_fits f fd) (T : Txt K mg C) (G : Gs mg) {f_is_shares : Addr} {fd_is_shares : FuncData} (O_is_shares : FnOk P w K mg base CX0 1 f_is_shares fd_is_shares ["numbers", "worlds"] spIsShares) (D_is_shares : Df K mg "is_shares" f_is_shares fd_is_shares ["numbers", "worlds"]) {f_fit : Addr} {fd_fit : FuncData} (O_fit : FnOk P w K mg base CX0 4 f_fit fd_fit ["shares", "told"] spFit) (D_fit : Df K mg "fit" f_fit fd_fit ["shares", "told"]) : FnOk P w K mg base CX0 5 f fd ["self", "shares"] (spFitsX C) := by
  refine F.ok sc_m_fits (fun vs H Q E h => ?_) (fun cdv A outer s H vs Q E hr h => ?_)
  · obtain ⟨p, q, xa, n, l, x, rfl, _⟩ := h
    rfl
  · obtain ⟨p, q, xa, n, l, x, rfl, h0, S, hx, k⟩ := h
    obtain ⟨dx, hp⟩ := S.obj
    refine ⟨_, (pss_cons (ps_if (pt_not (pt_val (pe_call O_is_shares (hr.mono (by decide)) rfl D_is_shares.mg D_is_shares.kp D_is_shares.b .nil pass0 (pa_cons (pv 1) (pa_cons (pe_fld (pv 0) rfl) pa_nil))))) (pss_one (ps_ret (pe_lst (pa_cons (pgi G.NOT_RIGHT) pa_nil)))) pss_nil)
      (pss_one (ps_ret (pe_lst (pa_cons (pe_ifExp (pt_val (pe_call O_fit (hr.mono (by decide)) rfl D_fit.mg D_fit.kp D_fit.b .nil pass0 (pa_cons (pv 1) (pa_cons (pe_fld (pv 0) rfl) pa_nil)))) pe_int pe_int) pa_nil))))), ?_⟩
    refine ⟨_, rfl, _, rfl, p, C, dx, _, _, rfl, hp, T.cl, T.nW, sf_w n q, xa, x, n, rfl, hx, _, rfl, ?_⟩
    cases hb : (x.length == n && (decide (1 ≤ Krae.total x) && decide (Krae.total x ≤ 10))) with
    | false =>
      rw [hb] at k
      exact iteT ⟨by show 1 ≤ sizeLine; decide, fun r hr1 => k _ r (Same.new hr1) hr1 upd_same⟩
    | true =>
      rw [hb, if_neg (by decide)] at k
      refine iteF ⟨_, rfl, _, rfl, p, C, dx, _, _, rfl, hp, T.cl, T.nT, sf_t n q, xa, q, x, l, rfl, hx, S.told, fun H1 s1 => ⟨_, rfl, ?_⟩⟩
      cases hh : (l.all fun t => t.holds x) with
      | true =>
        rw [hh] at k
        exact iteT ⟨by show 1 ≤ sizeLine; decide, fun r hr1 => k _ r (s1.trans (Same.new hr1)) (s1.free hr1) upd_same⟩
      | false =>
        rw [hh] at k
        exact iteF ⟨by show 1 ≤ sizeLine; decide, fun r hr1 => k _ r (s1.trans (Same.new hr1)) (s1.free hr1) upd_same⟩
def listI (x : List Nat) : List Int := (x.length : Int) :: x.map fun (m : Nat) => (m : Int)
def spWrongX (C : Addr) : Sp := fun vs H Q _ => ∃ (p q xa : Addr) (n : Nat) (l : List Krae.Told) (x : List Nat), vs = [.ref p, .ref xa] ∧ 0 < n ∧ Sess C H p q n l ∧ H xa = some (.lst (ns x)) ∧
  Says H Q (if (x.length == n && (decide (1 ≤ Krae.total x) && decide (Krae.total x ≤ 10))) = false then [-22] else listI ((List.range l.length).filter fun i => !((l.getD i ⟨0, 0, 2⟩).holds x)))
theorem ok_wrong {f : Addr} {fd : FuncData} (F : Fun K "wrong" "Session.wrong" s_m_wrong f fd) (T : Txt K mg C) (G : Gs mg) {f_is_shares : Addr} {fd_is_shares : FuncData} (O_is_shares : FnOk P w K mg base CX0 1 f_is_shares fd_is_shares ["numbers", "worlds"] spIsShares) (D_is_shares : Df K mg "is_shares" f_is_shares fd_is_shares ["numbers", "worlds"]) {f_disagreed : Addr} {fd_disagreed : FuncData} (O_disagreed : FnOk P w K mg base CX0 4 f_disagreed fd_disagreed ["shares", "told"] spDisagreed) (D_disagreed : Df K mg "disagreed" f_disagreed fd_disagreed ["shares", "told"]) : FnOk P w K mg base CX0 5 f fd ["self", "shares"] (spWrongX C) := by
  refine F.ok sc_m_wrong (fun vs H Q E h => ?_) (fun cdv A outer s H vs Q E hr h => ?_)
  · obtain ⟨p, q, xa, n, l, x, rfl, _⟩ := h
    rfl
  · obtain ⟨p, q, xa, n, l, x, rfl, h0, S, hx, k⟩ := h
    obtain ⟨dx, hp⟩ := S.obj
    refine ⟨_, (pss_cons (ps_if (pt_not (pt_val (pe_call O_is_shares (hr.mono (by decide)) rfl D_is_shares.mg D_is_shares.kp D_is_shares.b .nil pass0 (pa_cons (pv 1) (pa_cons (pe_fld (pv 0) rfl) pa_nil))))) (pss_one (ps_ret (pe_lst (pa_cons (pgi G.NOT_RIGHT) pa_nil)))) pss_nil)
      (pss_cons (ps_set (i := 2) sc_m_wrong.nd rfl (Or.inl rfl) (pe_call O_disagreed (hr.mono (by decide)) rfl D_disagreed.mg D_disagreed.kp D_disagreed.b .nil pass0 (pa_cons (pv 1) (pa_cons (pe_fld (pv 0) rfl) pa_nil))))
      (pss_one (ps_ret (pe_op op_cat (pe_lst (pa_cons (pe_callB (lens (K := K)) (by rfl) G.len PySem.boot_len (pa_cons (pv 2) pa_nil)) pa_nil)) (pv 2)))))), ?_⟩
    refine ⟨_, rfl, _, rfl, p, C, dx, _, _, rfl, hp, T.cl, T.nW, sf_w n q, xa, x, n, rfl, hx, _, rfl, ?_⟩
    cases hb : (x.length == n && (decide (1 ≤ Krae.total x) && decide (Krae.total x ≤ 10))) with
    | false =>
      rw [hb] at k
      exact iteT ⟨by show 1 ≤ sizeLine; decide, fun r hr1 => k _ r (Same.new hr1) hr1 upd_same⟩
    | true =>
      rw [hb, if_neg (by decide)] at k
      refine iteF ⟨_, rfl, _, rfl, p, C, dx, _, _, rfl, hp, T.cl, T.nT, sf_t n q, xa, q, x, l, rfl, S.six, hx, S.told, fun H1 r1 s1 _ hr1 => ?_⟩
      refine ⟨_, rfl, r1, _, rfl, .inl (SqL.of hr1), by show 1 ≤ sizeLine; decide, fun r2 hr2 => ?_⟩
      have s2 := Same.new (o := .lst [V.int (((ns ((List.range l.length).filter fun i => !((l.getD i ⟨0, 0, 2⟩).holds x))).length : Nat) : Int)]) hr2
      refine ⟨_, rfl, r2, r1, _, _, rfl, rfl, upd_same, s2 _ _ hr1, ?_, fun r hr3 => ?_⟩
      · rw [ns_length]
        have h1 := List.length_filter_le (fun i => !((l.getD i ⟨0, 0, 2⟩).holds x)) (List.range l.length)
        rw [List.length_range] at h1
        have := S.six
        show 1 + _ ≤ sizeLine
        have : sizeLine = 16777216 := by decide
        omega
      · refine k _ r ((s1.trans s2).trans (Same.new hr3)) ((s1.trans s2).free hr3) ?_
        rw [upd_same, ns_length]
        rfl
def spAsk2 (C : Addr) (ans : Nat → List Krae.Told → Nat → Nat → List Int) : Sp := fun vs H Q _ => ∃ (p q : Addr) (n a b : Nat) (l : List Krae.Told), vs = [.ref p, .int a, .int b] ∧ 0 < n ∧ Sess C H p q n l ∧ Says H Q (if 2 ^ n ≤ a ∨ 2 ^ n ≤ b then [-22] else ans n l a b)
def aAll (n : Nat) (l : List Krae.Told) (a b : Nat) : List Int := match Krae.fitBy n l with
  | [] => [-33]
  | x :: L => [((Krae.byAll (x :: L) a b : Nat) : Int)]
theorem ok_all {f : Addr} {fd : FuncData} (F : Fun K "all_shares" "Session.all_shares" s_m_all_shares f fd) (T : Txt K mg C) (G : Gs mg) {f_is_set : Addr} {fd_is_set : FuncData} (O_is_set : FnOk P w K mg base CX0 1 f_is_set fd_is_set ["self", "chosen"] (spIsSet C)) (M_is_set : Meth K C "is_set" f_is_set) (B_is_set : Binds K fd_is_set ["self", "chosen"] []) {f_fitting : Addr} {fd_fitting : FuncData} (O_fitting : FnOk P w K mg base CX0 6 f_fitting fd_fitting ["self"] (spFits0 C)) (M_fitting : Meth K C "fitting" f_fitting) (B_fitting : Binds K fd_fitting ["self"] []) {f_told_by_all : Addr} {fd_told_by_all : FuncData} (O_told_by_all : FnOk P w K mg base CX0 3 f_told_by_all fd_told_by_all ["first", "second", "fitting"] spByAll) (D_told_by_all : Df K mg "told_by_all" f_told_by_all fd_told_by_all ["first", "second", "fitting"]) : FnOk P w K mg base CX0 7 f fd ["self", "first", "second"] (spAsk2 C aAll) := by
  refine F.ok sc_m_all_shares (fun vs H Q E h => ?_) (fun cdv A outer s H vs Q E hr h => ?_)
  · obtain ⟨p, q, n, a, b, l, rfl, _⟩ := h
    rfl
  · obtain ⟨p, q, n, a, b, l, rfl, h0, S, k⟩ := h
    obtain ⟨dx, hp⟩ := S.obj
    refine ⟨_, (pss_cons (ps_if (pw_or (pt_not (pt_val (pe_meth (pv 0) T.cl M_is_set O_is_set (hr.mono (by decide)) B_is_set .nil pass0 (pa_cons (pv 1) pa_nil)))) (pw_or1 (pt_not (pt_val (pe_meth (pv 0) T.cl M_is_set O_is_set (hr.mono (by decide)) B_is_set .nil pass0 (pa_cons (pv 2) pa_nil)))))).pt (pss_one (ps_ret (pe_lst (pa_cons (pgi G.NOT_RIGHT) pa_nil)))) pss_nil)
      (pss_cons (ps_set (i := 3) sc_m_all_shares.nd rfl (Or.inl rfl) (pe_meth0 (pv 0) T.cl M_fitting O_fitting (hr.mono (by decide)) B_fitting .nil pass0))
      (pss_cons (ps_if (pt_cmpR op_eqn (pe_callB (lens (K := K)) (by rfl) G.len PySem.boot_len (pa_cons (pv 3) pa_nil)) pe_int (nomark _)) (pss_one (ps_ret (pe_lst (pa_cons (pgi G.NO_SHARES) pa_nil)))) pss_nil)
      (pss_one (ps_ret (pe_lst (pa_cons (pe_call O_told_by_all (hr.mono (by decide)) rfl D_told_by_all.mg D_told_by_all.kp D_told_by_all.b .nil pass0 (pa_cons (pv 1) (pa_cons (pv 2) (pa_cons (pv 3) pa_nil)))) pa_nil))))))), ?_⟩
    have no : (2 ^ n ≤ a ∨ 2 ^ n ≤ b) → 1 ≤ sizeLine ∧ ∀ r, H r = none → Q (.ref r) (upd H r (.lst [.int (-22)])) := fun h => ⟨by decide, fun r hr => by
      rw [if_pos h] at k
      exact k _ r (Same.new hr) hr upd_same⟩
    refine ⟨_, rfl, p, dx, _, rfl, hp, rfl, _, rfl, p, q, dx, n, a, rfl, S.n5, hp, _, rfl, ?_⟩
    refine ite2 (fun h' => iteT (no (.inl ?_))) (fun h' => ?_)
    · by_cases z : a < 2 ^ n
      · rw [decide_eq_true z] at h'; cases h'
      · omega
    refine ⟨_, rfl, p, dx, _, rfl, hp, rfl, _, rfl, p, q, dx, n, b, rfl, S.n5, hp, _, rfl, ?_⟩
    refine ite2 (fun h'' => no (.inr ?_)) (fun h'' => ?_)
    · by_cases z : b < 2 ^ n
      · rw [decide_eq_true z] at h''; cases h''
      · omega
    have hk : ¬ (2 ^ n ≤ a ∨ 2 ^ n ≤ b) := by
      rintro (z | z)
      · exact h' (by rw [decide_eq_false (by omega)]; rfl)
      · exact h'' (by rw [decide_eq_false (by omega)]; rfl)
    rw [if_neg hk] at k
    refine ⟨_, rfl, p, dx, _, rfl, hp, rfl, p, q, n, l, rfl, h0, S, fun H1 r1 s1 _ ⟨as, sh⟩ => ?_⟩
    refine ⟨_, rfl, r1, _, rfl, .inl (SqL.of sh.lst), (Krae.fitBy n l).length, 0, by rw [List.length_map, sh.len], rfl, _, rfl, ?_⟩
    have hlen := fit_len h0 S.n5 l
    unfold aAll at k
    cases hf : Krae.fitBy n l with
    | nil =>
      rw [hf] at k
      exact iteT ⟨by show 1 ≤ sizeLine; decide, fun r hr1 => k _ r (s1.trans (Same.new hr1)) (s1.free hr1) upd_same⟩
    | cons x L =>
      rw [hf] at k sh hlen
      refine ite2 (fun z => ?_) (fun _ => ?_)
      · have := of_decide_eq_true z
        rw [List.length_cons] at this
        omega
      refine ⟨_, rfl, _, rfl, _, rfl, a, b, r1, _, rfl, ⟨as, sh⟩, fun H2 s2 => ⟨by show 1 ≤ sizeLine; decide, fun r hr1 => ?_⟩⟩
      exact k _ r ((s1.trans s2).trans (Same.new hr1)) ((s1.trans s2).free hr1) upd_same
def spTable (C : Addr) : Sp := fun vs H Q _ => ∃ (p q : Addr) (n : Nat) (l : List Krae.Told), vs = [.ref p] ∧ 0 < n ∧ Sess C H p q n l ∧ ∀ H' r, Same H H' → Tab H' r (2 ^ n) (Krae.get n (Krae.relOf n l)) → Q (.ref r) H'
theorem ok_table {f : Addr} {fd : FuncData} (F : Fun K "table" "Session.table" s_m_table f fd) (T : Txt K mg C) {f_table_by_rules : Addr} {fd_table_by_rules : FuncData} (O_table_by_rules : FnOk P w K mg base CX0 4 f_table_by_rules fd_table_by_rules ["worlds", "told"] spRules) (D_table_by_rules : Df K mg "table_by_rules" f_table_by_rules fd_table_by_rules ["worlds", "told"]) : FnOk P w K mg base CX0 5 f fd ["self"] (spTable C) := by
  refine F.ok sc_m_table (fun vs H Q E h => ?_) (fun cdv A outer s H vs Q E hr h => ?_)
  · obtain ⟨p, q, n, l, rfl, _⟩ := h
    rfl
  · obtain ⟨p, q, n, l, rfl, h0, S, k⟩ := h
    obtain ⟨dx, hp⟩ := S.obj
    refine ⟨_, (pss_one (ps_ret (pe_call O_table_by_rules (hr.mono (by decide)) rfl D_table_by_rules.mg D_table_by_rules.kp D_table_by_rules.b .nil pass0 (pa_cons (pe_fld (pv 0) rfl) (pa_cons (pe_fld (pv 0) rfl) pa_nil))))), ?_⟩
    exact ⟨_, rfl, p, C, dx, _, _, rfl, hp, T.cl, T.nW, sf_w n q, _, rfl, p, C, dx, _, _, rfl, hp, T.cl, T.nT, sf_t n q, n, q, l, rfl, S.n5, S.told, S.sets, fun H1 r1 r s1 ⟨as, t1⟩ hr1 => k H1 r1 s1 ⟨as, t1.congr fun a b ha hb => rules_eq S.n5 S.sets hr1 ha hb⟩⟩
def aRules (n : Nat) (l : List Krae.Told) (a b : Nat) : List Int := [((Krae.own n (Krae.relOf n l) a b : Nat) : Int)]
theorem ok_mrules {f : Addr} {fd : FuncData} (F : Fun K "rules" "Session.rules" s_m_rules f fd) (T : Txt K mg C) (G : Gs mg) {f_is_set : Addr} {fd_is_set : FuncData} (O_is_set : FnOk P w K mg base CX0 1 f_is_set fd_is_set ["self", "chosen"] (spIsSet C)) (M_is_set : Meth K C "is_set" f_is_set) (B_is_set : Binds K fd_is_set ["self", "chosen"] []) {f_table : Addr} {fd_table : FuncData} (O_table : FnOk P w K mg base CX0 5 f_table fd_table ["self"] (spTable C)) (M_table : Meth K C "table" f_table) (B_table : Binds K fd_table ["self"] []) : FnOk P w K mg base CX0 6 f fd ["self", "first", "second"] (spAsk2 C aRules) := by
  refine F.ok sc_m_rules (fun vs H Q E h => ?_) (fun cdv A outer s H vs Q E hr h => ?_)
  · obtain ⟨p, q, n, a, b, l, rfl, _⟩ := h
    rfl
  · obtain ⟨p, q, n, a, b, l, rfl, h0, S, k⟩ := h
    obtain ⟨dx, hp⟩ := S.obj
    refine ⟨_, (pss_cons (ps_if (pw_or (pt_not (pt_val (pe_meth (pv 0) T.cl M_is_set O_is_set (hr.mono (by decide)) B_is_set .nil pass0 (pa_cons (pv 1) pa_nil)))) (pw_or1 (pt_not (pt_val (pe_meth (pv 0) T.cl M_is_set O_is_set (hr.mono (by decide)) B_is_set .nil pass0 (pa_cons (pv 2) pa_nil)))))).pt (pss_one (ps_ret (pe_lst (pa_cons (pgi G.NOT_RIGHT) pa_nil)))) pss_nil)
      (pss_one (ps_ret (pe_lst (pa_cons (pe_ix (ixl (K := K)) (pe_ix (ixl (K := K)) (pe_meth0 (pv 0) T.cl M_table O_table (hr.mono (by decide)) B_table .nil pass0) (pv 1) (fun _ _ => rfl)) (pv 2) (fun _ _ => rfl)) pa_nil))))), ?_⟩
    have no : (2 ^ n ≤ a ∨ 2 ^ n ≤ b) → 1 ≤ sizeLine ∧ ∀ r, H r = none → Q (.ref r) (upd H r (.lst [.int (-22)])) := fun h => ⟨by decide, fun r hr => by
      rw [if_pos h] at k
      exact k _ r (Same.new hr) hr upd_same⟩
    refine ⟨_, rfl, p, dx, _, rfl, hp, rfl, _, rfl, p, q, dx, n, a, rfl, S.n5, hp, _, rfl, ?_⟩
    refine ite2 (fun h' => iteT (no (.inl ?_))) (fun h' => ?_)
    · by_cases z : a < 2 ^ n
      · rw [decide_eq_true z] at h'; cases h'
      · omega
    refine ⟨_, rfl, p, dx, _, rfl, hp, rfl, _, rfl, p, q, dx, n, b, rfl, S.n5, hp, _, rfl, ?_⟩
    refine ite2 (fun h'' => no (.inr ?_)) (fun h'' => ?_)
    · by_cases z : b < 2 ^ n
      · rw [decide_eq_true z] at h''; cases h''
      · omega
    have hk : ¬ (2 ^ n ≤ a ∨ 2 ^ n ≤ b) := by
      rintro (z | z)
      · exact h' (by rw [decide_eq_false (by omega)]; rfl)
      · exact h'' (by rw [decide_eq_false (by omega)]; rfl)
    rw [if_neg hk] at k
    have ha : a < 2 ^ n := by omega
    have hb : b < 2 ^ n := by omega
    refine ⟨_, rfl, p, dx, _, rfl, hp, rfl, p, q, n, l, rfl, h0, S, fun H1 r1 s1 ⟨as, t1⟩ => ?_⟩
    obtain ⟨ra, _, hra1, hra2⟩ := t1.get ha
    refine ⟨_, rfl, r1, _, _, _, rfl, rfl, SqL.of t1.lst, atI_nat hra1, _, rfl, ra, _, _, _, rfl, rfl, SqL.of hra2, atI_nat (nums_get hb), by show 1 ≤ sizeLine; decide, fun r2 hr2 => ?_⟩
    refine k _ r2 (s1.trans (Same.new hr2)) (s1.free hr2) ?_
    rw [upd_same]
    unfold aRules
    rw [own_eq S.n5 S.sets ha hb]
    rfl
def aBroken (n : Nat) (l : List Krae.Told) : List Int := [if Krae.broken n (Krae.relOf n l) then 1 else 0]
theorem ok_mbroken {f : Addr} {fd : FuncData} (F : Fun K "broken" "Session.broken" s_m_broken f fd) (T : Txt K mg C) (G : Gs mg) {f_is_broken : Addr} {fd_is_broken : FuncData} (O_is_broken : FnOk P w K mg base CX0 1 f_is_broken fd_is_broken ["table"] spBroken) (D_is_broken : Df K mg "is_broken" f_is_broken fd_is_broken ["table"]) {f_table : Addr} {fd_table : FuncData} (O_table : FnOk P w K mg base CX0 5 f_table fd_table ["self"] (spTable C)) (M_table : Meth K C "table" f_table) (B_table : Binds K fd_table ["self"] []) : FnOk P w K mg base CX0 6 f fd ["self"] (spAsk C aBroken) := by
  refine F.ok sc_m_broken (fun vs H Q E h => ?_) (fun cdv A outer s H vs Q E hr h => ?_)
  · obtain ⟨p, q, n, l, rfl, _⟩ := h
    rfl
  · obtain ⟨p, q, n, l, rfl, h0, S, k⟩ := h
    obtain ⟨dx, hp⟩ := S.obj
    refine ⟨_, (pss_one (ps_ret (pe_lst (pa_cons (pe_ifExp (pt_val (pe_call O_is_broken (hr.mono (by decide)) rfl D_is_broken.mg D_is_broken.kp D_is_broken.b .nil pass0 (pa_cons (pe_meth0 (pv 0) T.cl M_table O_table (hr.mono (by decide)) B_table .nil pass0) pa_nil))) pe_int pe_int) pa_nil)))), ?_⟩
    refine ⟨_, rfl, p, dx, _, rfl, hp, rfl, p, q, n, l, rfl, h0, S, fun H1 r1 s1 t1 => ?_⟩
    refine ⟨r1, 2 ^ n, _, rfl, pow_le S.n5, t1, fun H2 s2 => ⟨_, rfl, ?_⟩⟩
    have e : ((List.range (2 ^ n)).any fun a => Krae.get n (Krae.relOf n l) a a == 2) = Krae.broken n (Krae.relOf n l) := rfl
    rw [e]
    unfold aBroken at k
    cases hh : Krae.broken n (Krae.relOf n l) with
    | true =>
      rw [hh] at k
      exact iteT ⟨by show 1 ≤ sizeLine; decide, fun r hr1 => k _ r ((s1.trans s2).trans (Same.new hr1)) ((s1.trans s2).free hr1) upd_same⟩
    | false =>
      rw [hh] at k
      exact iteF ⟨by show 1 ≤ sizeLine; decide, fun r hr1 => k _ r ((s1.trans s2).trans (Same.new hr1)) ((s1.trans s2).free hr1) upd_same⟩
end
end Lk
end
section
set_option Elab.async false
set_option linter.all false
set_option maxRecDepth 100000
set_option maxHeartbeats 4000000
namespace Lk
open PySem PySem.Spec PyProof.Rows L2
abbrev s_is_told_by : Stmt := top 18
theorem sc_is_told_by : FnScope ["table", "one", "level"] ["table", "one"] (defScope s_is_told_by) := ⟨rfl, rfl, rfl, by decide +kernel, rfl, by decide +kernel, by decide +kernel⟩
abbrev s_some_have_none : Stmt := top 30
theorem sc_some_have_none : FnScope ["chosen", "fitting", "shares"] ["chosen", "fitting"] (defScope s_some_have_none) := ⟨rfl, rfl, rfl, by decide +kernel, rfl, by decide +kernel, by decide +kernel⟩
abbrev s_pairs_apart : Stmt := top 50
theorem sc_pairs_apart : FnScope ["size", "pairs", "first", "second"] ["size"] (defScope s_pairs_apart) := ⟨rfl, rfl, rfl, by decide +kernel, rfl, by decide +kernel, by decide +kernel⟩
abbrev s_is_told_of : Stmt := top 51
theorem sc_is_told_of : FnScope ["table", "pair"] ["table", "pair"] (defScope s_is_told_of) := ⟨rfl, rfl, rfl, by decide +kernel, rfl, by decide +kernel, by decide +kernel⟩
abbrev s_is_whole : Stmt := top 52
theorem sc_is_whole : FnScope ["table", "pair"] ["table"] (defScope s_is_whole) := ⟨rfl, rfl, rfl, by decide +kernel, rfl, by decide +kernel, by decide +kernel⟩
abbrev s_is_alike : Stmt := top 53
theorem sc_is_alike : FnScope ["table", "pair"] ["table", "pair"] (defScope s_is_alike) := ⟨rfl, rfl, rfl, by decide +kernel, rfl, by decide +kernel, by decide +kernel⟩
abbrev s_alike_pairs : Stmt := top 54
theorem sc_alike_pairs : FnScope ["table", "lesser_first", "pair"] ["table"] (defScope s_alike_pairs) := ⟨rfl, rfl, rfl, by decide +kernel, rfl, by decide +kernel, by decide +kernel⟩
abbrev s_is_beyond : Stmt := top 55
theorem sc_is_beyond : FnScope ["table", "pair", "fitting"] ["table", "pair", "fitting"] (defScope s_is_beyond) := ⟨rfl, rfl, rfl, by decide +kernel, rfl, by decide +kernel, by decide +kernel⟩
abbrev s_beyond_pairs : Stmt := top 56
theorem sc_beyond_pairs : FnScope ["table", "fitting", "pair"] ["table", "fitting"] (defScope s_beyond_pairs) := ⟨rfl, rfl, rfl, by decide +kernel, rfl, by decide +kernel, by decide +kernel⟩
structure PrA (H : Hp) (p : Addr) (as : List Addr) (L : List (Nat × Nat)) : Prop where
  len : as.length = L.length
  lst : H p = some (.lst (as.map V.ref))
  one : ∀ (i : Nat) t x, as[i]? = some t → L[i]? = some x → H t = some (.tup [.int (x.1 : Nat), .int (x.2 : Nat)])
def Pr (H : Hp) (p : Addr) (L : List (Nat × Nat)) : Prop := ∃ as, PrA H p as L
theorem PrA.same {H H' : Hp} {p : Addr} {as : List Addr} {L : List (Nat × Nat)} (s : Same H H') (t : PrA H p as L) : PrA H' p as L := ⟨t.len, s _ _ t.lst, fun i x o e1 e2 => s _ _ (t.one i x o e1 e2)⟩
theorem Pr.same {H H' : Hp} {p : Addr} {L : List (Nat × Nat)} (s : Same H H') (t : Pr H p L) : Pr H' p L := let ⟨as, t⟩ := t; ⟨as, t.same s⟩
theorem PrA.nil {H : Hp} {D : Addr} (h : H D = some (.lst [])) : PrA H D [] [] := ⟨rfl, h, fun i r x e => by simp at e⟩
theorem PrA.get {H : Hp} {p : Addr} {as : List Addr} {L : List (Nat × Nat)} (t : PrA H p as L) {i : Nat} {y : V} (h : (as.map V.ref)[i]? = some y) : ∃ a x, y = V.ref a ∧ L[i]? = some x ∧ H a = some (.tup [.int (x.1 : Nat), .int (x.2 : Nat)]) := by
  rw [List.getElem?_map] at h
  cases q : as[i]? with
  | none => rw [q] at h; cases h
  | some a =>
    rw [q] at h
    have hi : i < L.length := by rw [← t.len]; exact (List.getElem?_eq_some_iff.mp q).1
    exact ⟨a, L[i], (Option.some.inj h).symm, List.getElem?_eq_getElem hi, t.one i a _ q (List.getElem?_eq_getElem hi)⟩
theorem PrA.snoc {H : Hp} {q t : Addr} {as : List Addr} {L : List (Nat × Nat)} {x : Nat × Nat} (h : PrA H q as L) (ht : H t = some (.tup [.int (x.1 : Nat), .int (x.2 : Nat)])) :
    PrA (upd H q (.lst (as.map V.ref ++ [V.ref t]))) q (as ++ [t]) (L ++ [x]) := by
  have ne : ∀ {a : Addr} {xs : List V}, H a = some (.tup xs) → a ≠ q := fun e => ne_of e h.lst (by intro z; cases z)
  refine ⟨by rw [List.length_append, List.length_append, h.len]; rfl, by rw [upd_same, List.map_append]; rfl, fun i a u e1 e2 => ?_⟩
  rcases snoc_get e1 with h1 | ⟨h1, rfl⟩
  · rcases snoc_get e2 with h2 | ⟨h2, _⟩
    · have q1 := h.one i a u h1 h2
      rw [upd_ne (ne q1)]; exact q1
    · have := (List.getElem?_eq_some_iff.mp h1).1
      rw [h.len] at this; omega
  · rcases snoc_get e2 with h2 | ⟨h2, rfl⟩
    · have := (List.getElem?_eq_some_iff.mp h2).1
      rw [← h.len] at this; omega
    · rw [upd_ne (ne ht)]; exact ht
def dj (N i j : Nat) : List (Nat × Nat) := ((List.range i).flatMap fun a => ((List.range N).filter fun b => a &&& b == 0).map fun b => (a, b)) ++ ((List.range j).filter fun b => i &&& b == 0).map fun b => (i, b)
theorem dj_yes {N i j : Nat} (h : i &&& j = 0) : dj N i (j + 1) = dj N i j ++ [(i, j)] := by
  unfold dj
  rw [List.range_succ, List.filter_append, List.map_append, List.append_assoc]
  simp [h]
theorem dj_no {N i j : Nat} (h : ¬ i &&& j = 0) : dj N i (j + 1) = dj N i j := by
  unfold dj
  rw [List.range_succ, List.filter_append, List.map_append]
  simp [h]
theorem dj_next (N i : Nat) : dj N (i + 1) 0 = dj N i N := by
  unfold dj
  rw [List.range_succ, List.flatMap_append]
  simp
theorem dj_all (n : Nat) : dj (2 ^ n) (2 ^ n) 0 = Krae.disjoint n := by
  unfold dj Krae.disjoint
  simp [Krae.sets]
theorem dj_mem {n : Nat} {x : Nat × Nat} (h : x ∈ Krae.disjoint n) : x.1 < 2 ^ n ∧ x.2 < 2 ^ n := by
  unfold Krae.disjoint at h
  obtain ⟨a, ha, h2⟩ := List.mem_flatMap.mp h
  obtain ⟨b, hb, rfl⟩ := List.mem_map.mp h2
  exact ⟨List.mem_range.mp ha, List.mem_range.mp (List.mem_filter.mp hb).1⟩
theorem dj_len {n : Nat} (hn : n ≤ 5) : (Krae.disjoint n).length ≤ 1024 := by
  match n, hn with
  | 0, _ => decide
  | 1, _ => decide
  | 2, _ => decide +kernel
  | 3, _ => decide +kernel
  | 4, _ => decide +kernel
  | 5, _ => decide +kernel
section
variable {P : Program} {w : World} {K : PySem.W.Frag} {mg : Str → Option Value} {base : Heap}
def toldBy (v : Nat → Nat → Nat) (o : Krae.Told) : Bool := match o.kind with
  | 0 => v o.a o.b == 2
  | 1 => decide (0 < v o.a o.b)
  | _ => decide (0 < v o.a o.b) && decide (0 < v o.b o.a)
def spToldBy : Sp := fun vs H Q _ => ∃ (p t : Addr) (N : Nat) (v : Nat → Nat → Nat) (o : Krae.Told), vs = [.ref p, .ref t] ∧ Tab H p N v ∧ o.a < N ∧ o.b < N ∧ H t = some (.tup [.int (o.kind : Nat), .int (o.a : Nat), .int (o.b : Nat)]) ∧ Q (.bl (toldBy v o)) H
theorem ok_toldBy {f : Addr} {fd : FuncData} (F : Fun K "is_told_by" "is_told_by" s_is_told_by f fd) (G : Gn mg) : FnOk P w K mg base CX0 1 f fd ["table", "one"] spToldBy := by
  refine F.ok sc_is_told_by (fun vs H Q E h => ?_) (fun cdv A outer s H vs Q E hr h => ?_)
  · obtain ⟨p, t, N, v, o, rfl, _⟩ := h
    rfl
  · obtain ⟨p, t, N, v, o, rfl, ⟨as, tab⟩, ha, hb, ht, k⟩ := h
    refine ⟨_, (pss_cons (ps_set (i := 2) sc_is_told_by.nd rfl (Or.inl rfl) (pe_ix (ixl (K := K)) (pe_ix (ixl (K := K)) (pv 0) (pe_ix (ixt (K := K)) (pv 1) pe_int (fun _ _ => rfl)) (fun _ _ => rfl)) (pe_ix (ixt (K := K)) (pv 1) pe_int (fun _ _ => rfl)) (fun _ _ => rfl)))
      (pss_cons (ps_if (pt_cmpR op_eqn (pe_ix (ixt (K := K)) (pv 1) pe_int (fun _ _ => rfl)) (pgi G.kLik) (nomark _)) (pss_one (ps_ret (pe_cmpR op_eqn (pv 2) (pgi G.lik) (nomark _)))) pss_nil)
      (pss_cons (ps_if (pt_cmpR op_eqn (pe_ix (ixt (K := K)) (pv 1) pe_int (fun _ _ => rfl)) (pgi G.kNol) (nomark _)) (pss_one (ps_ret (pe_cmpR op_nen (pv 2) (pgi G.not_) (nomark _)))) pss_nil)
      (pss_one (ps_ret (pe_and (pe_cmpR op_nen (pv 2) (pgi G.not_) (nomark _)) (pe_one (pe_cmpR op_nen (pe_ix (ixl (K := K)) (pe_ix (ixl (K := K)) (pv 0) (pe_ix (ixt (K := K)) (pv 1) pe_int (fun _ _ => rfl)) (fun _ _ => rfl)) (pe_ix (ixt (K := K)) (pv 1) pe_int (fun _ _ => rfl)) (fun _ _ => rfl)) (pgi G.not_) (nomark _))))))))), ?_⟩
    obtain ⟨ra, _, hra1, hra2⟩ := tab.get ha
    obtain ⟨rb, _, hrb1, hrb2⟩ := tab.get hb
    refine ⟨_, rfl, _, rfl, t, _, _, _, rfl, rfl, SqT.of ht, rfl, p, _, _, _, rfl, rfl, SqL.of tab.lst, atI_nat hra1, _, rfl, t, _, _, _, rfl, rfl, SqT.of ht, rfl, ra, _, _, _, rfl, rfl, SqL.of hra2, atI_nat (nums_get hb), ?_⟩
    refine ⟨_, rfl, t, _, _, _, rfl, rfl, SqT.of ht, rfl, o.kind, 0, rfl, rfl, _, rfl, ?_⟩
    unfold toldBy at k
    refine ite2 (fun h => ?_) (fun h => ?_)
    · have h1 := of_decide_eq_true h
      rw [h1] at k
      exact ⟨_, rfl, v o.a o.b, 2, rfl, rfl, k⟩
    · have h0 : ¬ o.kind = 0 := fun z => h (decide_eq_true z)
      refine ⟨_, rfl, t, _, _, _, rfl, rfl, SqT.of ht, rfl, o.kind, 1, rfl, rfl, _, rfl, ?_⟩
      refine ite2 (fun h => ?_) (fun h => ?_)
      · have h1 := of_decide_eq_true h
        rw [h1] at k
        refine ⟨_, rfl, v o.a o.b, 0, rfl, rfl, ?_⟩
        rw [nz]
        exact k
      · have h1 : ¬ o.kind = 1 := fun z => h (decide_eq_true z)
        have k' : Q (.bl (decide (0 < v o.a o.b) && decide (0 < v o.b o.a))) H := by
          split at k
          · rename_i z; exact absurd z h0
          · rename_i z; exact absurd z h1
          · exact k
        refine ⟨_, rfl, v o.a o.b, 0, rfl, rfl, _, rfl, ?_⟩
        refine ite2 (fun h2 => ?_) (fun h2 => ?_)
        · rw [nz] at h2
          rw [h2, Bool.true_and] at k'
          refine ⟨_, rfl, _, rfl, t, _, _, _, rfl, rfl, SqT.of ht, rfl, p, _, _, _, rfl, rfl, SqL.of tab.lst, atI_nat hrb1, _, rfl, t, _, _, _, rfl, rfl, SqT.of ht, rfl, rb, _, _, _, rfl, rfl, SqL.of hrb2, atI_nat (nums_get ha), v o.b o.a, 0, rfl, rfl, ?_⟩
          rw [nz]
          exact k'
        · rw [nz, Bool.not_eq_true] at h2
          rw [h2, Bool.false_and] at k'
          exact k'
def spNoneOf : Sp := fun vs H Q _ => ∃ (a : Nat) (p : Addr) (L : List (List Nat)), vs = [.int a, .ref p] ∧ L.length ≤ 146410 ∧ Sh H p L ∧ ∀ H', Same H H' → Q (.bl (L.any fun x => Krae.of x a == 0)) H'
theorem ok_noneOf {f : Addr} {fd : FuncData} (F : Fun K "some_have_none" "some_have_none" s_some_have_none f fd) (G : Gn mg) {f_share_of : Addr} {fd_share_of : FuncData} (O_share_of : FnOk P w K mg base CX0 1 f_share_of fd_share_of ["chosen", "shares"] spShare) (D_share_of : Df K mg "share_of" f_share_of fd_share_of ["chosen", "shares"]) : FnOk P w K mg base CX0 2 f fd ["chosen", "fitting"] spNoneOf := by
  refine F.ok sc_some_have_none (fun vs H Q E h => ?_) (fun cdv A outer s H vs Q E hr h => ?_)
  · obtain ⟨a, p, L, rfl, _⟩ := h
    rfl
  · obtain ⟨a, p, L, rfl, hlen, ⟨as, sh⟩, k⟩ := h
    refine ⟨_, (pss_one (ps_ret (pe_callB (anys (K := K) rfl) (by rfl) G.any boot_any (pa_cons (pe_lc (own := [("shares", 2)]) rfl sc_some_have_none.nd (pi_list (pv 1)) (blkOk_by rfl) (fun _ _ _ _ _ => (pg_name (i := 2) sc_some_have_none.nd rfl (Or.inl rfl))) (fun _ _ _ _ _ => pts_nil) (fun _ _ _ _ _ => (pe_cmpR op_eqn (pe_call O_share_of (hr.mono (by decide)) rfl D_share_of.mg D_share_of.kp D_share_of.b .nil pass0 (pa_cons (pv 0) (pa_cons (pv 2) pa_nil))) pe_int (nomark _)))) pa_nil)))), ?_⟩
    refine ⟨_, rfl, p, rfl, ⟨_, SqL.of sh.lst⟩, fun D hD => ?_⟩
    refine lc_list (K := K) (a := p) (xs := as.map V.ref) (fun i H3 => Same H H3 ∧ H3 D = some (.lst (((L.take i).map fun x => decide (Krae.of x a = 0)).map V.bl))) ⟨Same.new hD, upd_same⟩
      (fun i H3 _ ⟨s3, _⟩ => SqL.of (s3 _ _ sh.lst)) ?_ ?_
    · rintro i y H3 hi ⟨s3, hd⟩
      obtain ⟨r, x, rfl, hr1, hx, hrow⟩ := (sh.same s3).get hi
      refine ⟨rfl, _, rfl, _, rfl, a, r, x, rfl, hrow, fun H4 s4 => ?_⟩
      refine ⟨Krae.of x a, 0, rfl, rfl, _, s4 _ _ hd, ?_, Same.put (s3.trans s4) hD, ?_⟩
      · rw [List.length_map, List.length_map, List.length_take]
        have : sizeLine = 16777216 := by decide
        omega
      · rw [upd_same, take_snoc hx, List.map_append, List.map_append]
        rfl
    · rintro H3 ⟨s3, hd⟩
      rw [List.length_map, sh.len, List.take_length] at hd
      refine ⟨D, _, rfl, SqL.of hd, ?_⟩
      have e : ((L.map fun x => decide (Krae.of x a = 0)).any id) = L.any fun x => Krae.of x a == 0 := by
        rw [List.any_map]
        rfl
      rw [e]
      exact k H3 s3
def spPairs : Sp := fun vs H Q _ => ∃ (n : Nat), vs = [.int ((2 ^ n : Nat) : Int)] ∧ n ≤ 5 ∧ ∀ H' q, Same H H' → H q = none → Pr H' q (Krae.disjoint n) → Q (.ref q) H'
theorem ok_pairs {f : Addr} {fd : FuncData} (F : Fun K "pairs_apart" "pairs_apart" s_pairs_apart f fd) (G : Gn mg) : FnOk P w K mg base CX0 1 f fd ["size"] spPairs := by
  refine F.ok sc_pairs_apart (fun vs H Q E h => ?_) (fun cdv A outer s H vs Q E hr h => ?_)
  · obtain ⟨n, rfl, _⟩ := h
    rfl
  · obtain ⟨n, rfl, hn, k⟩ := h
    refine ⟨_, (pss_cons (ps_set (i := 1) sc_pairs_apart.nd rfl (Or.inl rfl) (pe_lst pa_nil))
      (pss_cons (ps_for PassesOwn.never rfl (pi_range1 rfl G.range (pa_cons (pv 0) pa_nil)) (pg_name (i := 2) sc_pairs_apart.nd rfl (Or.inl rfl))
        (pss_one (ps_for PassesOwn.never rfl (pi_range1 rfl G.range (pa_cons (pv 0) pa_nil)) (pg_name (i := 3) sc_pairs_apart.nd rfl (Or.inl rfl))
        (pss_one (ps_if (pt_cmpR op_eqn (pe_op op_andn (pv 2) (pv 3)) pe_int (nomark _)) (pss_one (ps_expr (pe_bm PySem.F.plainAttrs_list PySem.F.slot_list_append PySem.F.type_list_append mt_append (pv 1) (pa_cons (pe_tup (pa_cons (pv 2) (pa_cons (pv 3) pa_nil))) pa_nil)))) pss_nil)))))
      (pss_one (ps_ret (pv 1))))), ?_⟩
    have hN := pow_le hn
    generalize hNe : 2 ^ n = N at *
    refine ⟨Nat.zero_le _, fun D hD => ?_⟩
    refine ⟨_, rfl, (N : Int), rfl, by omega, by omega, frn (n := N) (fun i σ H2 => ∃ v2 v3 : Option V, σ = [some (.int (N : Int)), some (.ref D), v2, v3] ∧ Same H H2 ∧ ∃ as, PrA H2 D as (dj N i 0) ∧ as.length ≤ i * N)
      ⟨none, none, rfl, Same.new hD, [], PrA.nil upd_same, Nat.zero_le _⟩ ?_ ?_⟩
    · rintro i σ H2 hi ⟨v2, v3, rfl, s2, as, t2, hl2⟩
      refine ⟨_, rfl, (N : Int), rfl, by omega, by omega, frn (n := N) (fun j σ H3 => ∃ v3 : Option V, σ = [some (.int (N : Int)), some (.ref D), some (.int (i : Int)), v3] ∧ Same H H3 ∧ ∃ as, PrA H3 D as (dj N i j) ∧ as.length ≤ i * N + j)
        ⟨v3, rfl, s2, as, t2, hl2⟩ ?_ ?_⟩
      · rintro j σ H3 hj ⟨v3, rfl, s3, as, t3, hl3⟩
        refine ⟨_, rfl, _, rfl, i, j, rfl, rfl, (i &&& j), 0, rfl, rfl, _, rfl, ?_⟩
        refine ite2 (fun h => ?_) (fun h => ?_)
        · have h0 : i &&& j = 0 := of_decide_eq_true h
          refine ⟨_, rfl, .inl ⟨rfl, _, SqL.of t3.lst⟩, _, rfl, _, rfl, by show 2 ≤ sizeLine; decide, fun t ht => ?_⟩
          have st : Same H3 (upd H3 t (.tup [.int (i : Int), .int (j : Int)])) := Same.new ht
          have t4 := (t3.same st).snoc (t := t) (x := (i, j)) upd_same
          refine ⟨D, _, _, rfl, rfl, (t3.same st).lst, ?_, ?_⟩
          · rw [List.length_map]
            have hm : i * N ≤ 32 * 32 := Nat.mul_le_mul (by omega) hN
            have : sizeLine = 16777216 := by decide
            omega
          · refine ⟨_, rfl, Same.put (s3.trans st) hD, as ++ [t], ?_, by rw [List.length_append]; show _ + 1 ≤ _; omega⟩
            rw [dj_yes h0]
            exact t4
        · have h0 : ¬ i &&& j = 0 := fun z => h (decide_eq_true z)
          refine ⟨_, rfl, s3, as, ?_, by omega⟩
          rw [dj_no h0]
          exact t3
      · rintro σ H3 ⟨v3, rfl, s3, as, t3, hl3⟩
        refine ⟨_, _, rfl, s3, as, ?_, by rw [Nat.succ_mul]; exact hl3⟩
        rw [dj_next]
        exact t3
    · rintro σ H2 ⟨v2, v3, rfl, s2, as, t2, hl2⟩
      refine ⟨_, rfl, k H2 D s2 hD ⟨as, ?_⟩⟩
      rw [← dj_all, hNe]
      exact t2
def spToldOf : Sp := fun vs H Q _ => ∃ (p t : Addr) (N : Nat) (v : Nat → Nat → Nat) (x : Nat × Nat), vs = [.ref p, .ref t] ∧ Tab H p N v ∧ x.1 < N ∧ x.2 < N ∧ H t = some (.tup [.int (x.1 : Nat), .int (x.2 : Nat)]) ∧ Q (.bl (decide (0 < v x.1 x.2) || decide (0 < v x.2 x.1))) H
theorem ok_toldOf {f : Addr} {fd : FuncData} (F : Fun K "is_told_of" "is_told_of" s_is_told_of f fd) (G : Gn mg) : FnOk P w K mg base CX0 1 f fd ["table", "pair"] spToldOf := by
  refine F.ok sc_is_told_of (fun vs H Q E h => ?_) (fun cdv A outer s H vs Q E hr h => ?_)
  · obtain ⟨p, t, N, v, x, rfl, _⟩ := h
    rfl
  · obtain ⟨p, t, N, v, x, rfl, ⟨as, tab⟩, ha, hb, ht, k⟩ := h
    refine ⟨_, (pss_one (ps_ret (pe_or (pe_cmpR op_nen (pe_ix (ixl (K := K)) (pe_ix (ixl (K := K)) (pv 0) (pe_ix (ixt (K := K)) (pv 1) pe_int (fun _ _ => rfl)) (fun _ _ => rfl)) (pe_ix (ixt (K := K)) (pv 1) pe_int (fun _ _ => rfl)) (fun _ _ => rfl)) (pgi G.not_) (nomark _)) (pe_one (pe_cmpR op_nen (pe_ix (ixl (K := K)) (pe_ix (ixl (K := K)) (pv 0) (pe_ix (ixt (K := K)) (pv 1) pe_int (fun _ _ => rfl)) (fun _ _ => rfl)) (pe_ix (ixt (K := K)) (pv 1) pe_int (fun _ _ => rfl)) (fun _ _ => rfl)) (pgi G.not_) (nomark _)))))), ?_⟩
    obtain ⟨ra, _, hra1, hra2⟩ := tab.get ha
    obtain ⟨rb, _, hrb1, hrb2⟩ := tab.get hb
    refine ⟨_, rfl, _, rfl, t, _, _, _, rfl, rfl, SqT.of ht, rfl, p, _, _, _, rfl, rfl, SqL.of tab.lst, atI_nat hra1, _, rfl, t, _, _, _, rfl, rfl, SqT.of ht, rfl, ra, _, _, _, rfl, rfl, SqL.of hra2, atI_nat (nums_get hb), v x.1 x.2, 0, rfl, rfl, _, rfl, ?_⟩
    refine ite2 (fun h2 => ?_) (fun h2 => ?_)
    · rw [nz] at h2
      rw [h2, Bool.true_or] at k
      exact k
    · rw [nz, Bool.not_eq_true] at h2
      rw [h2, Bool.false_or] at k
      refine ⟨_, rfl, _, rfl, t, _, _, _, rfl, rfl, SqT.of ht, rfl, p, _, _, _, rfl, rfl, SqL.of tab.lst, atI_nat hrb1, _, rfl, t, _, _, _, rfl, rfl, SqT.of ht, rfl, rb, _, _, _, rfl, rfl, SqL.of hrb2, atI_nat (nums_get ha), v x.2 x.1, 0, rfl, rfl, ?_⟩
      rw [nz]
      exact k
def spAlikeP : Sp := fun vs H Q _ => ∃ (p t : Addr) (N : Nat) (v : Nat → Nat → Nat) (x : Nat × Nat), vs = [.ref p, .ref t] ∧ Tab H p N v ∧ x.1 < N ∧ x.2 < N ∧ H t = some (.tup [.int (x.1 : Nat), .int (x.2 : Nat)]) ∧ Q (.bl (v x.1 x.2 == 1 && v x.2 x.1 == 1)) H
theorem ok_alikeP {f : Addr} {fd : FuncData} (F : Fun K "is_alike" "is_alike" s_is_alike f fd) (G : Gn mg) : FnOk P w K mg base CX0 1 f fd ["table", "pair"] spAlikeP := by
  refine F.ok sc_is_alike (fun vs H Q E h => ?_) (fun cdv A outer s H vs Q E hr h => ?_)
  · obtain ⟨p, t, N, v, x, rfl, _⟩ := h
    rfl
  · obtain ⟨p, t, N, v, x, rfl, ⟨as, tab⟩, ha, hb, ht, k⟩ := h
    refine ⟨_, (pss_one (ps_ret (pe_and (pe_cmpR op_eqn (pe_ix (ixl (K := K)) (pe_ix (ixl (K := K)) (pv 0) (pe_ix (ixt (K := K)) (pv 1) pe_int (fun _ _ => rfl)) (fun _ _ => rfl)) (pe_ix (ixt (K := K)) (pv 1) pe_int (fun _ _ => rfl)) (fun _ _ => rfl)) (pgi G.nol) (nomark _)) (pe_one (pe_cmpR op_eqn (pe_ix (ixl (K := K)) (pe_ix (ixl (K := K)) (pv 0) (pe_ix (ixt (K := K)) (pv 1) pe_int (fun _ _ => rfl)) (fun _ _ => rfl)) (pe_ix (ixt (K := K)) (pv 1) pe_int (fun _ _ => rfl)) (fun _ _ => rfl)) (pgi G.nol) (nomark _)))))), ?_⟩
    obtain ⟨ra, _, hra1, hra2⟩ := tab.get ha
    obtain ⟨rb, _, hrb1, hrb2⟩ := tab.get hb
    refine ⟨_, rfl, _, rfl, t, _, _, _, rfl, rfl, SqT.of ht, rfl, p, _, _, _, rfl, rfl, SqL.of tab.lst, atI_nat hra1, _, rfl, t, _, _, _, rfl, rfl, SqT.of ht, rfl, ra, _, _, _, rfl, rfl, SqL.of hra2, atI_nat (nums_get hb), v x.1 x.2, 1, rfl, rfl, _, rfl, ?_⟩
    refine ite2 (fun h2 => ?_) (fun h2 => ?_)
    · have e : (v x.1 x.2 == 1) = true := h2
      rw [e, Bool.true_and] at k
      exact ⟨_, rfl, _, rfl, t, _, _, _, rfl, rfl, SqT.of ht, rfl, p, _, _, _, rfl, rfl, SqL.of tab.lst, atI_nat hrb1, _, rfl, t, _, _, _, rfl, rfl, SqT.of ht, rfl, rb, _, _, _, rfl, rfl, SqL.of hrb2, atI_nat (nums_get ha), v x.2 x.1, 1, rfl, rfl, k⟩
    · have e : (v x.1 x.2 == 1) = false := by rw [Bool.not_eq_true] at h2; exact h2
      rw [e, Bool.false_and] at k
      exact k
def spBeyondP : Sp := fun vs H Q _ => ∃ (p t q : Addr) (N : Nat) (v : Nat → Nat → Nat) (x : Nat × Nat) (L : List (List Nat)), vs = [.ref p, .ref t, .ref q] ∧ Tab H p N v ∧ x.1 < N ∧ x.2 < N ∧ H t = some (.tup [.int (x.1 : Nat), .int (x.2 : Nat)]) ∧ Sh H q L ∧ ∀ H', Same H H' → Q (.bl (decide (v x.1 x.2 < Krae.byAll L x.1 x.2))) H'
theorem ok_beyondP {f : Addr} {fd : FuncData} (F : Fun K "is_beyond" "is_beyond" s_is_beyond f fd) (G : Gn mg) {f_told_by_all : Addr} {fd_told_by_all : FuncData} (O_told_by_all : FnOk P w K mg base CX0 3 f_told_by_all fd_told_by_all ["first", "second", "fitting"] spByAll) (D_told_by_all : Df K mg "told_by_all" f_told_by_all fd_told_by_all ["first", "second", "fitting"]) : FnOk P w K mg base CX0 4 f fd ["table", "pair", "fitting"] spBeyondP := by
  refine F.ok sc_is_beyond (fun vs H Q E h => ?_) (fun cdv A outer s H vs Q E hr h => ?_)
  · obtain ⟨p, t, q, N, v, x, L, rfl, _⟩ := h
    rfl
  · obtain ⟨p, t, q, N, v, x, L, rfl, ⟨as, tab⟩, ha, hb, ht, sh, k⟩ := h
    refine ⟨_, (pss_one (ps_ret (pe_cmpR op_gt (pe_call O_told_by_all (hr.mono (by decide)) rfl D_told_by_all.mg D_told_by_all.kp D_told_by_all.b .nil pass0 (pa_cons (pe_ix (ixt (K := K)) (pv 1) pe_int (fun _ _ => rfl)) (pa_cons (pe_ix (ixt (K := K)) (pv 1) pe_int (fun _ _ => rfl)) (pa_cons (pv 2) pa_nil)))) (pe_ix (ixl (K := K)) (pe_ix (ixl (K := K)) (pv 0) (pe_ix (ixt (K := K)) (pv 1) pe_int (fun _ _ => rfl)) (fun _ _ => rfl)) (pe_ix (ixt (K := K)) (pv 1) pe_int (fun _ _ => rfl)) (fun _ _ => rfl)) (nomark _)))), ?_⟩
    refine ⟨_, rfl, t, _, _, _, rfl, rfl, SqT.of ht, rfl, _, rfl, t, _, _, _, rfl, rfl, SqT.of ht, rfl, _, rfl, x.1, x.2, q, L, rfl, sh, fun H1 s1 => ?_⟩
    have tab1 := tab.same s1
    have ht1 := s1 _ _ ht
    obtain ⟨ra, _, hra1, hra2⟩ := tab1.get ha
    refine ⟨_, rfl, _, rfl, t, _, _, _, rfl, rfl, SqT.of ht1, rfl, p, _, _, _, rfl, rfl, SqL.of tab1.lst, atI_nat hra1, _, rfl, t, _, _, _, rfl, rfl, SqT.of ht1, rfl, ra, _, _, _, rfl, rfl, SqL.of hra2, atI_nat (nums_get hb), _, _, rfl, rfl, ?_⟩
    have e : decide (((v x.1 x.2 : Nat) : Int) < ((Krae.byAll L x.1 x.2 : Nat) : Int)) = decide (v x.1 x.2 < Krae.byAll L x.1 x.2) := decide_eq_decide.mpr (by omega)
    show Q (.bl (decide (((v x.1 x.2 : Nat) : Int) < ((Krae.byAll L x.1 x.2 : Nat) : Int)))) H1
    rw [e]
    exact k H1 s1
theorem len_take_filter {α : Type} {f : α → Bool} {L : List α} {i B : Nat} (h : L.length ≤ B) : ((L.take i).filter f).length ≤ B := Nat.le_trans (List.length_filter_le _ _) (Nat.le_trans (by rw [List.length_take]; exact Nat.min_le_right _ _) h)
def spWhole : Sp := fun vs H Q _ => ∃ (p : Addr) (n : Nat) (v : Nat → Nat → Nat), vs = [.ref p] ∧ n ≤ 5 ∧ Tab H p (2 ^ n) v ∧ ∀ H', Same H H' → Q (.bl ((Krae.disjoint n).all fun x => decide (0 < v x.1 x.2) || decide (0 < v x.2 x.1))) H'
theorem ok_whole {f : Addr} {fd : FuncData} (F : Fun K "is_whole" "is_whole" s_is_whole f fd) (G : Gn mg) {f_pairs_apart : Addr} {fd_pairs_apart : FuncData} (O_pairs_apart : FnOk P w K mg base CX0 1 f_pairs_apart fd_pairs_apart ["size"] spPairs) (D_pairs_apart : Df K mg "pairs_apart" f_pairs_apart fd_pairs_apart ["size"]) {f_is_told_of : Addr} {fd_is_told_of : FuncData} (O_is_told_of : FnOk P w K mg base CX0 1 f_is_told_of fd_is_told_of ["table", "pair"] spToldOf) (D_is_told_of : Df K mg "is_told_of" f_is_told_of fd_is_told_of ["table", "pair"]) : FnOk P w K mg base CX0 2 f fd ["table"] spWhole := by
  refine F.ok sc_is_whole (fun vs H Q E h => ?_) (fun cdv A outer s H vs Q E hr h => ?_)
  · obtain ⟨p, n, v, rfl, _⟩ := h
    rfl
  · obtain ⟨p, n, v, rfl, hn, ⟨as, tab⟩, k⟩ := h
    refine ⟨_, (pss_one (ps_ret (pe_callB (alls (K := K) rfl) (by rfl) G.all boot_all (pa_cons (pe_lc (own := [("pair", 1)]) rfl sc_is_whole.nd (pi_list (pe_call O_pairs_apart (hr.mono (by decide)) rfl D_pairs_apart.mg D_pairs_apart.kp D_pairs_apart.b .nil pass0 (pa_cons (pe_callB (lens (K := K)) (by rfl) G.len PySem.boot_len (pa_cons (pv 0) pa_nil)) pa_nil))) (blkOk_by rfl) (fun _ _ _ _ _ => (pg_name (i := 1) sc_is_whole.nd rfl (Or.inl rfl))) (fun _ _ _ _ _ => pts_nil) (fun _ _ _ _ _ => (pe_call O_is_told_of (hr.mono (by decide)) rfl D_is_told_of.mg D_is_told_of.kp D_is_told_of.b .nil pass0 (pa_cons (pv 0) (pa_cons (pv 1) pa_nil))))) pa_nil)))), ?_⟩
    refine ⟨_, rfl, p, _, rfl, .inl (SqL.of tab.lst), ?_⟩
    rw [List.length_map, tab.len]
    refine ⟨n, rfl, hn, fun H1 q s1 _ ⟨bs, pr⟩ => ?_⟩
    have hlen := dj_len hn
    refine ⟨q, rfl, ⟨_, SqL.of pr.lst⟩, fun D hD => ?_⟩
    refine lc_list (K := K) (a := q) (xs := bs.map V.ref) (fun i H3 => Same H1 H3 ∧ H3 D = some (.lst ((((Krae.disjoint n).take i).map fun x => decide (0 < v x.1 x.2) || decide (0 < v x.2 x.1)).map V.bl))) ⟨Same.new hD, upd_same⟩
      (fun i H3 _ ⟨s3, _⟩ => SqL.of (s3 _ _ pr.lst)) ?_ ?_
    · rintro i y H3 hi ⟨s3, hd⟩
      obtain ⟨r, x, rfl, hx, hrow⟩ := (pr.same s3).get hi
      have hm := dj_mem (List.mem_of_getElem? hx)
      refine ⟨rfl, _, rfl, _, rfl, p, r, 2 ^ n, v, x, rfl, ⟨as, tab.same (s1.trans s3)⟩, hm.1, hm.2, hrow, ?_⟩
      refine ⟨_, hd, ?_, Same.put s3 hD, ?_⟩
      · rw [List.length_map, List.length_map, List.length_take]
        have : sizeLine = 16777216 := by decide
        omega
      · rw [upd_same, take_snoc hx, List.map_append, List.map_append]
        rfl
    · rintro H3 ⟨s3, hd⟩
      rw [List.length_map, pr.len, List.take_length] at hd
      refine ⟨D, _, rfl, SqL.of hd, ?_⟩
      rw [List.all_map]
      exact k H3 (s1.trans s3)
def spAlikes : Sp := fun vs H Q _ => ∃ (p : Addr) (n : Nat) (v : Nat → Nat → Nat), vs = [.ref p] ∧ n ≤ 5 ∧ Tab H p (2 ^ n) v ∧ ∀ H' q, Same H H' → H q = none → Pr H' q ((Krae.disjoint n).filter fun x => decide (x.1 < x.2) && (v x.1 x.2 == 1 && v x.2 x.1 == 1)) → Q (.ref q) H'
theorem ok_alikes {f : Addr} {fd : FuncData} (F : Fun K "alike_pairs" "alike_pairs" s_alike_pairs f fd) (G : Gn mg) {f_pairs_apart : Addr} {fd_pairs_apart : FuncData} (O_pairs_apart : FnOk P w K mg base CX0 1 f_pairs_apart fd_pairs_apart ["size"] spPairs) (D_pairs_apart : Df K mg "pairs_apart" f_pairs_apart fd_pairs_apart ["size"]) {f_is_alike : Addr} {fd_is_alike : FuncData} (O_is_alike : FnOk P w K mg base CX0 1 f_is_alike fd_is_alike ["table", "pair"] spAlikeP) (D_is_alike : Df K mg "is_alike" f_is_alike fd_is_alike ["table", "pair"]) : FnOk P w K mg base CX0 2 f fd ["table"] spAlikes := by
  refine F.ok sc_alike_pairs (fun vs H Q E h => ?_) (fun cdv A outer s H vs Q E hr h => ?_)
  · obtain ⟨p, n, v, rfl, _⟩ := h
    rfl
  · obtain ⟨p, n, v, rfl, hn, ⟨as, tab⟩, k⟩ := h
    refine ⟨_, (pss_cons (ps_setLc (i := 1) (own := [("pair", 2)]) rfl sc_alike_pairs.nd rfl rfl (sw_true rfl rfl rfl rfl) (pi_list (pe_call O_pairs_apart (hr.mono (by decide)) rfl D_pairs_apart.mg D_pairs_apart.kp D_pairs_apart.b .nil pass0 (pa_cons (pe_callB (lens (K := K)) (by rfl) G.len PySem.boot_len (pa_cons (pv 0) pa_nil)) pa_nil))) (blkOk_by rfl) (fun _ _ _ _ _ => (pg_name (i := 2) sc_alike_pairs.nd rfl (Or.inl rfl))) (fun _ _ _ _ _ => pts_one (pt_cmpR op_lt (pe_ix (ixt (K := K)) (pv 2) pe_int (fun _ _ => rfl)) (pe_ix (ixt (K := K)) (pv 2) pe_int (fun _ _ => rfl)) (nomark _))) (fun _ _ _ _ _ => (pv 2)))
      (pss_one (ps_ret (pe_lc (own := [("pair", 2)]) rfl sc_alike_pairs.nd (pi_list (pv 1)) (blkOk_by rfl) (fun _ _ _ _ _ => (pg_name (i := 2) sc_alike_pairs.nd rfl (Or.inl rfl))) (fun _ _ _ _ _ => pts_one (pt_val (pe_call O_is_alike (hr.mono (by decide)) rfl D_is_alike.mg D_is_alike.kp D_is_alike.b .nil pass0 (pa_cons (pv 0) (pa_cons (pv 2) pa_nil))))) (fun _ _ _ _ _ => (pv 2)))))), ?_⟩
    refine ⟨_, rfl, p, _, rfl, .inl (SqL.of tab.lst), ?_⟩
    rw [List.length_map, tab.len]
    refine ⟨n, rfl, hn, fun H1 q s1 _ ⟨bs, pr⟩ => ?_⟩
    have hlen := dj_len hn
    have hsl : sizeLine = 16777216 := by decide
    refine ⟨q, rfl, ⟨_, SqL.of pr.lst⟩, fun D hD => ?_⟩
    refine lc_list (K := K) (a := q) (xs := bs.map V.ref) (fun i H3 => Same H1 H3 ∧ ∃ cs, PrA H3 D cs (((Krae.disjoint n).take i).filter fun x => decide (x.1 < x.2))) ⟨Same.new hD, [], PrA.nil upd_same⟩
      (fun i H3 _ ⟨s3, _⟩ => SqL.of (s3 _ _ pr.lst)) ?_ ?_
    · rintro i y H3 hi ⟨s3, cs, pc⟩
      obtain ⟨r, x, rfl, hx, hrow⟩ := (pr.same s3).get hi
      refine ⟨rfl, _, rfl, r, _, _, _, rfl, rfl, SqT.of hrow, rfl, _, rfl, r, _, _, _, rfl, rfl, SqT.of hrow, rfl, _, _, rfl, rfl, _, rfl, ?_⟩
      have e : decide (((x.1 : Nat) : Int) < ((x.2 : Nat) : Int)) = decide (x.1 < x.2) := decide_eq_decide.mpr (by omega)
      rw [e, take_snoc hx, List.filter_append]
      cases hh : decide (x.1 < x.2) with
      | true =>
        refine iteT ⟨_, rfl, _, pc.lst, ?_, Same.put s3 hD, cs ++ [r], ?_⟩
        · rw [List.length_map, pc.len]
          have := len_take_filter (f := fun x : Nat × Nat => decide (x.1 < x.2)) (i := i) hlen
          omega
        · simp only [List.filter_cons, List.filter_nil, hh, if_true]
          exact pc.snoc hrow
      | false =>
        refine iteF ⟨s3, cs, ?_⟩
        simp only [List.filter_cons, List.filter_nil, hh, Bool.false_eq_true, if_false, List.append_nil]
        exact pc
    · rintro H3 ⟨s3, cs, pc⟩
      rw [List.length_map, pr.len, List.take_length] at pc
      have hlen2 : ((Krae.disjoint n).filter fun x => decide (x.1 < x.2)).length ≤ 1024 := Nat.le_trans (List.length_filter_le _ _) hlen
      refine ⟨_, rfl, D, rfl, ⟨_, SqL.of pc.lst⟩, fun D2 hD2 => ?_⟩
      refine lc_list (K := K) (a := D) (xs := cs.map V.ref) (fun i H4 => Same H3 H4 ∧ ∃ ds, PrA H4 D2 ds (List.filter (fun x : Nat × Nat => v x.1 x.2 == 1 && v x.2 x.1 == 1) (List.take i (List.filter (fun x : Nat × Nat => decide (x.1 < x.2)) (Krae.disjoint n))))) ⟨Same.new hD2, [], PrA.nil upd_same⟩
        (fun i H4 _ ⟨s4, _⟩ => SqL.of (s4 _ _ pc.lst)) ?_ ?_
      · rintro i y H4 hi ⟨s4, ds, pd⟩
        obtain ⟨r, x, rfl, hx, hrow⟩ := (pc.same s4).get hi
        have hm := dj_mem (List.mem_filter.mp (List.mem_of_getElem? hx)).1
        refine ⟨rfl, _, rfl, _, rfl, p, r, 2 ^ n, v, x, rfl, ⟨as, tab.same ((s1.trans s3).trans s4)⟩, hm.1, hm.2, hrow, _, rfl, ?_⟩
        rw [take_snoc hx, List.filter_append]
        cases hh : (v x.1 x.2 == 1 && v x.2 x.1 == 1) with
        | true =>
          refine iteT ⟨_, rfl, _, pd.lst, ?_, Same.put s4 hD2, ds ++ [r], ?_⟩
          · rw [List.length_map, pd.len]
            have := len_take_filter (f := fun x : Nat × Nat => v x.1 x.2 == 1 && v x.2 x.1 == 1) (i := i) hlen2
            omega
          · simp only [List.filter_cons, List.filter_nil, hh, if_true]
            exact pd.snoc hrow
        | false =>
          refine iteF ⟨s4, ds, ?_⟩
          simp only [List.filter_cons, List.filter_nil, hh, Bool.false_eq_true, if_false, List.append_nil]
          exact pd
      · rintro H4 ⟨s4, ds, pd⟩
        rw [List.length_map, pc.len, List.take_length, List.filter_filter] at pd
        refine k H4 D2 ((s1.trans s3).trans s4) ((s1.trans s3).free hD2) ⟨ds, ?_⟩
        have e : ((Krae.disjoint n).filter fun x => decide (x.1 < x.2) && (v x.1 x.2 == 1 && v x.2 x.1 == 1)) = (Krae.disjoint n).filter fun x => (v x.1 x.2 == 1 && v x.2 x.1 == 1) && decide (x.1 < x.2) := List.filter_congr fun x _ => Bool.and_comm _ _
        rw [e]
        exact pd
def spBeyonds : Sp := fun vs H Q _ => ∃ (p q : Addr) (n : Nat) (v : Nat → Nat → Nat) (L : List (List Nat)), vs = [.ref p, .ref q] ∧ n ≤ 5 ∧ Tab H p (2 ^ n) v ∧ Sh H q L ∧ ∀ H' r, Same H H' → H r = none → Pr H' r ((Krae.disjoint n).filter fun x => decide (v x.1 x.2 < Krae.byAll L x.1 x.2)) → Q (.ref r) H'
theorem ok_beyonds {f : Addr} {fd : FuncData} (F : Fun K "beyond_pairs" "beyond_pairs" s_beyond_pairs f fd) (G : Gn mg) {f_pairs_apart : Addr} {fd_pairs_apart : FuncData} (O_pairs_apart : FnOk P w K mg base CX0 1 f_pairs_apart fd_pairs_apart ["size"] spPairs) (D_pairs_apart : Df K mg "pairs_apart" f_pairs_apart fd_pairs_apart ["size"]) {f_is_beyond : Addr} {fd_is_beyond : FuncData} (O_is_beyond : FnOk P w K mg base CX0 4 f_is_beyond fd_is_beyond ["table", "pair", "fitting"] spBeyondP) (D_is_beyond : Df K mg "is_beyond" f_is_beyond fd_is_beyond ["table", "pair", "fitting"]) : FnOk P w K mg base CX0 5 f fd ["table", "fitting"] spBeyonds := by
  refine F.ok sc_beyond_pairs (fun vs H Q E h => ?_) (fun cdv A outer s H vs Q E hr h => ?_)
  · obtain ⟨p, q, n, v, L, rfl, _⟩ := h
    rfl
  · obtain ⟨p, fq, n, v, L, rfl, hn, ⟨as, tab⟩, sh, k⟩ := h
    refine ⟨_, (pss_one (ps_ret (pe_lc (own := [("pair", 2)]) rfl sc_beyond_pairs.nd (pi_list (pe_call O_pairs_apart (hr.mono (by decide)) rfl D_pairs_apart.mg D_pairs_apart.kp D_pairs_apart.b .nil pass0 (pa_cons (pe_callB (lens (K := K)) (by rfl) G.len PySem.boot_len (pa_cons (pv 0) pa_nil)) pa_nil))) (blkOk_by rfl) (fun _ _ _ _ _ => (pg_name (i := 2) sc_beyond_pairs.nd rfl (Or.inl rfl))) (fun _ _ _ _ _ => pts_one (pt_val (pe_call O_is_beyond (hr.mono (by decide)) rfl D_is_beyond.mg D_is_beyond.kp D_is_beyond.b .nil pass0 (pa_cons (pv 0) (pa_cons (pv 2) (pa_cons (pv 1) pa_nil)))))) (fun _ _ _ _ _ => (pv 2))))), ?_⟩
    refine ⟨_, rfl, p, _, rfl, .inl (SqL.of tab.lst), ?_⟩
    rw [List.length_map, tab.len]
    refine ⟨n, rfl, hn, fun H1 q s1 _ ⟨bs, pr⟩ => ?_⟩
    have hlen := dj_len hn
    have hsl : sizeLine = 16777216 := by decide
    refine ⟨q, rfl, ⟨_, SqL.of pr.lst⟩, fun D hD => ?_⟩
    refine lc_list (K := K) (a := q) (xs := bs.map V.ref) (fun i H3 => Same H1 H3 ∧ ∃ cs, PrA H3 D cs (((Krae.disjoint n).take i).filter fun x => decide (v x.1 x.2 < Krae.byAll L x.1 x.2))) ⟨Same.new hD, [], PrA.nil upd_same⟩
      (fun i H3 _ ⟨s3, _⟩ => SqL.of (s3 _ _ pr.lst)) ?_ ?_
    · rintro i y H3 hi ⟨s3, cs, pc⟩
      obtain ⟨r, x, rfl, hx, hrow⟩ := (pr.same s3).get hi
      have hm := dj_mem (List.mem_of_getElem? hx)
      refine ⟨rfl, _, rfl, _, rfl, _, rfl, p, r, fq, 2 ^ n, v, x, L, rfl, ⟨as, tab.same (s1.trans s3)⟩, hm.1, hm.2, hrow, sh.same (s1.trans s3), fun H4 s4 => ?_⟩
      have pc4 := pc.same s4
      refine ⟨_, rfl, ?_⟩
      rw [take_snoc hx, List.filter_append]
      cases hh : decide (v x.1 x.2 < Krae.byAll L x.1 x.2) with
      | true =>
        refine iteT ⟨_, rfl, _, pc4.lst, ?_, Same.put (s3.trans s4) hD, cs ++ [r], ?_⟩
        · rw [List.length_map, pc.len]
          have := len_take_filter (f := fun x : Nat × Nat => decide (v x.1 x.2 < Krae.byAll L x.1 x.2)) (i := i) hlen
          omega
        · simp only [List.filter_cons, List.filter_nil, hh, if_true]
          exact pc4.snoc (s4 _ _ hrow)
      | false =>
        refine iteF ⟨s3.trans s4, cs, ?_⟩
        simp only [List.filter_cons, List.filter_nil, hh, Bool.false_eq_true, if_false, List.append_nil]
        exact pc4
    · rintro H3 ⟨s3, cs, pc⟩
      rw [List.length_map, pr.len, List.take_length] at pc
      exact k H3 D (s1.trans s3) (s1.free hD) ⟨cs, pc⟩
end
end Lk
end
section
set_option Elab.async false
set_option linter.all false
set_option maxRecDepth 100000
set_option maxHeartbeats 4000000
namespace Lk
open PySem PySem.Spec PyProof.Rows L2
abbrev s_chance_by : Stmt := top 34
theorem sc_chance_by : FnScope ["shares", "chosen"] ["shares", "chosen"] (defScope s_chance_by) := ⟨rfl, rfl, rfl, by decide +kernel, rfl, by decide +kernel, by decide +kernel⟩
abbrev s_is_less : Stmt := top 35
theorem sc_is_less : FnScope ["chance", "other"] ["chance", "other"] (defScope s_is_less) := ⟨rfl, rfl, rfl, by decide +kernel, rfl, by decide +kernel, by decide +kernel⟩
abbrev s_least_chance : Stmt := top 36
theorem sc_least_chance : FnScope ["chosen", "fitting", "least", "shares", "chance"] ["chosen", "fitting"] (defScope s_least_chance) := ⟨rfl, rfl, rfl, by decide +kernel, rfl, by decide +kernel, by decide +kernel⟩
abbrev s_greatest_chance : Stmt := top 37
theorem sc_greatest_chance : FnScope ["chosen", "fitting", "greatest", "shares", "chance"] ["chosen", "fitting"] (defScope s_greatest_chance) := ⟨rfl, rfl, rfl, by decide +kernel, rfl, by decide +kernel, by decide +kernel⟩
abbrev s_greatest_common_divisor : Stmt := top 38
theorem sc_greatest_common_divisor : FnScope ["one", "other", "divisor", "rest", "smaller"] ["one", "other"] (defScope s_greatest_common_divisor) := ⟨rfl, rfl, rfl, by decide +kernel, rfl, by decide +kernel, by decide +kernel⟩
abbrev s_as_fraction : Stmt := top 39
theorem sc_as_fraction : FnScope ["chance", "divisor"] ["chance"] (defScope s_as_fraction) := ⟨rfl, rfl, rfl, by decide +kernel, rfl, by decide +kernel, by decide +kernel⟩
def ch (a : Nat) (s : List Nat) : Nat × Nat := (Krae.of s a, Krae.total s)
def loOf (c : List (Nat × Nat)) : Nat × Nat := c.foldl (fun z y => if Krae.under y z then y else z) (c.headD (0, 1))
def hiOf (c : List (Nat × Nat)) : Nat × Nat := c.foldl (fun z y => if Krae.under z y then y else z) (c.headD (0, 1))
def loUp (z : Nat × Nat) (c : List (Nat × Nat)) : Nat × Nat := c.foldl (fun z y => if Krae.under y z then y else z) z
def hiUp (z : Nat × Nat) (c : List (Nat × Nat)) : Nat × Nat := c.foldl (fun z y => if Krae.under z y then y else z) z
theorem loUp_snoc (z : Nat × Nat) (c : List (Nat × Nat)) (y : Nat × Nat) : loUp z (c ++ [y]) = if Krae.under y (loUp z c) then y else loUp z c := by unfold loUp; rw [List.foldl_append]; rfl
theorem hiUp_snoc (z : Nat × Nat) (c : List (Nat × Nat)) (y : Nat × Nat) : hiUp z (c ++ [y]) = if Krae.under (hiUp z c) y then y else hiUp z c := by unfold hiUp; rw [List.foldl_append]; rfl
def Ten (L : List (List Nat)) : Prop := ∀ x ∈ L, 0 < Krae.total x ∧ Krae.total x ≤ 10
theorem loUp_ten {z : Nat × Nat} (hz : 0 < z.2 ∧ z.2 ≤ 10) : ∀ {c : List (Nat × Nat)}, (∀ y ∈ c, 0 < y.2 ∧ y.2 ≤ 10) → 0 < (loUp z c).2 ∧ (loUp z c).2 ≤ 10 := fun {c} => by
  induction c generalizing z with
  | nil => intro _; exact hz
  | cons y c ih =>
    intro h
    show 0 < (loUp (if Krae.under y z then y else z) c).2 ∧ (loUp (if Krae.under y z then y else z) c).2 ≤ 10
    refine ih ?_ fun x hx => h x (.tail _ hx)
    split
    · exact h y (.head _)
    · exact hz
theorem hiUp_ten {z : Nat × Nat} (hz : 0 < z.2 ∧ z.2 ≤ 10) : ∀ {c : List (Nat × Nat)}, (∀ y ∈ c, 0 < y.2 ∧ y.2 ≤ 10) → 0 < (hiUp z c).2 ∧ (hiUp z c).2 ≤ 10 := fun {c} => by
  induction c generalizing z with
  | nil => intro _; exact hz
  | cons y c ih =>
    intro h
    show 0 < (hiUp (if Krae.under z y then y else z) c).2 ∧ (hiUp (if Krae.under z y then y else z) c).2 ≤ 10
    refine ih ?_ fun x hx => h x (.tail _ hx)
    split
    · exact h y (.head _)
    · exact hz
theorem ten_map {L : List (List Nat)} (a : Nat) (h : Ten L) (i : Nat) : ∀ y ∈ (L.take i).map (ch a), 0 < y.2 ∧ y.2 ≤ 10 := fun y hy => by
  obtain ⟨x, hx, rfl⟩ := List.mem_map.mp hy
  exact h x (List.mem_of_mem_take hx)
section
variable {P : Program} {w : World} {K : PySem.W.Frag} {mg : Str → Option Value} {base : Heap}
def Ch (H : Hp) (t : Addr) (c : Nat × Nat) : Prop := H t = some (.tup [.int (c.1 : Nat), .int (c.2 : Nat)])
def spChanceBy : Sp := fun vs H Q _ => ∃ (p : Addr) (a : Nat) (x : List Nat), vs = [.ref p, .int a] ∧ H p = some (.lst (ns x)) ∧ ∀ H' t, Same H H' → Ch H' t (ch a x) → Q (.ref t) H'
theorem ok_chanceBy {f : Addr} {fd : FuncData} (F : Fun K "chance_by" "chance_by" s_chance_by f fd) (G : Gn mg) {f_share_of : Addr} {fd_share_of : FuncData} (O_share_of : FnOk P w K mg base CX0 1 f_share_of fd_share_of ["chosen", "shares"] spShare) (D_share_of : Df K mg "share_of" f_share_of fd_share_of ["chosen", "shares"]) : FnOk P w K mg base CX0 2 f fd ["shares", "chosen"] spChanceBy := by
  refine F.ok sc_chance_by (fun vs H Q E h => ?_) (fun cdv A outer s H vs Q E hr h => ?_)
  · obtain ⟨p, a, x, rfl, _⟩ := h
    rfl
  · obtain ⟨p, a, x, rfl, hp, k⟩ := h
    refine ⟨_, (pss_one (ps_ret (pe_tup (pa_cons (pe_call O_share_of (hr.mono (by decide)) rfl D_share_of.mg D_share_of.kp D_share_of.b .nil pass0 (pa_cons (pv 1) (pa_cons (pv 0) pa_nil))) (pa_cons (pe_callB (sums (K := K) rfl) (by rfl) G.sum boot_sum (pa_cons (pv 0) pa_nil)) pa_nil))))), ?_⟩
    refine ⟨_, rfl, _, rfl, a, p, x, rfl, hp, fun H1 s1 => ?_⟩
    refine ⟨_, rfl, p, _, rfl, SqL.of (s1 _ _ hp), by show 2 ≤ sizeLine; decide, fun t ht => ?_⟩
    refine k _ t (s1.trans (Same.new ht)) ?_
    unfold Ch
    rw [upd_same, sum_total]
    rfl
def spIsLess : Sp := fun vs H Q _ => ∃ (t u : Addr) (c d : Nat × Nat), vs = [.ref t, .ref u] ∧ Ch H t c ∧ Ch H u d ∧ c.2 ≤ 10 ∧ d.2 ≤ 10 ∧ Q (.bl (Krae.under c d)) H
theorem ok_isLess {f : Addr} {fd : FuncData} (F : Fun K "is_less" "is_less" s_is_less f fd) : FnOk P w K mg base CX0 1 f fd ["chance", "other"] spIsLess := by
  refine F.ok sc_is_less (fun vs H Q E h => ?_) (fun cdv A outer s H vs Q E hr h => ?_)
  · obtain ⟨t, u, c, d, rfl, _⟩ := h
    rfl
  · obtain ⟨t, u, c, d, rfl, ht, hu, hc, hd, k⟩ := h
    refine ⟨_, (pss_one (ps_ret (pe_cmpR op_lt (pe_op op_muln (pe_ix (ixt (K := K)) (pv 0) pe_int (fun _ _ => rfl)) (pe_ix (ixt (K := K)) (pv 1) pe_int (fun _ _ => rfl))) (pe_op op_muln (pe_ix (ixt (K := K)) (pv 1) pe_int (fun _ _ => rfl)) (pe_ix (ixt (K := K)) (pv 0) pe_int (fun _ _ => rfl))) (nomark _)))), ?_⟩
    refine ⟨_, rfl, t, _, _, _, rfl, rfl, SqT.of ht, rfl, _, rfl, u, _, _, _, rfl, rfl, SqT.of hu, rfl, c.1, d.2, rfl, rfl, by omega, ?_⟩
    refine ⟨_, rfl, u, _, _, _, rfl, rfl, SqT.of hu, rfl, _, rfl, t, _, _, _, rfl, rfl, SqT.of ht, rfl, d.1, c.2, rfl, rfl, by omega, _, _, rfl, rfl, ?_⟩
    unfold Krae.under at k
    have e : decide (((c.1 * d.2 : Nat) : Int) < ((d.1 * c.2 : Nat) : Int)) = decide (c.1 * d.2 < d.1 * c.2) := decide_eq_decide.mpr (by omega)
    show Q (.bl (decide (((c.1 * d.2 : Nat) : Int) < ((d.1 * c.2 : Nat) : Int)))) H
    rw [e]
    exact k
def spBound (g : List (Nat × Nat) → Nat × Nat) : Sp := fun vs H Q _ => ∃ (a : Nat) (p : Addr) (x : List Nat) (L : List (List Nat)), vs = [.int a, .ref p] ∧ Ten (x :: L) ∧ Sh H p (x :: L) ∧ ∀ H' t, Same H H' → Ch H' t (g ((x :: L).map (ch a))) → Q (.ref t) H'
theorem ok_least {f : Addr} {fd : FuncData} (F : Fun K "least_chance" "least_chance" s_least_chance f fd) (G : Gn mg) {f_chance_by : Addr} {fd_chance_by : FuncData} (O_chance_by : FnOk P w K mg base CX0 2 f_chance_by fd_chance_by ["shares", "chosen"] spChanceBy) (D_chance_by : Df K mg "chance_by" f_chance_by fd_chance_by ["shares", "chosen"]) {f_is_less : Addr} {fd_is_less : FuncData} (O_is_less : FnOk P w K mg base CX0 1 f_is_less fd_is_less ["chance", "other"] spIsLess) (D_is_less : Df K mg "is_less" f_is_less fd_is_less ["chance", "other"]) : FnOk P w K mg base CX0 3 f fd ["chosen", "fitting"] (spBound loOf) := by
  refine F.ok sc_least_chance (fun vs H Q E h => ?_) (fun cdv A outer s H vs Q E hr h => ?_)
  · obtain ⟨a, p, x, L, rfl, _⟩ := h
    rfl
  · obtain ⟨a, p, x, L, rfl, ten, ⟨as, sh⟩, k⟩ := h
    refine ⟨_, (pss_cons (ps_set (i := 2) sc_least_chance.nd rfl (Or.inl rfl) (pe_call O_chance_by (hr.mono (by decide)) rfl D_chance_by.mg D_chance_by.kp D_chance_by.b .nil pass0 (pa_cons (pe_ix (ixl (K := K)) (pv 1) pe_int (fun _ _ => rfl)) (pa_cons (pv 0) pa_nil))))
      (pss_cons (ps_for PassesOwn.never rfl (pi_list (pv 1)) (pg_name (i := 3) sc_least_chance.nd rfl (Or.inl rfl))
        (pss_cons (ps_set (i := 4) sc_least_chance.nd rfl (Or.inl rfl) (pe_call O_chance_by (hr.mono (by decide)) rfl D_chance_by.mg D_chance_by.kp D_chance_by.b .nil pass0 (pa_cons (pv 3) (pa_cons (pv 0) pa_nil))))
      (pss_one (ps_if (pt_val (pe_call O_is_less (hr.mono (by decide)) rfl D_is_less.mg D_is_less.kp D_is_less.b .nil pass0 (pa_cons (pv 4) (pa_cons (pv 2) pa_nil)))) (pss_one (ps_set (i := 2) sc_least_chance.nd rfl (Or.inl rfl) (pv 4))) pss_nil))))
      (pss_one (ps_ret (pv 2))))), ?_⟩
    obtain ⟨a0, ha0⟩ : ∃ a0, as[0]? = some a0 := ⟨_, List.getElem?_eq_getElem (by rw [sh.len, List.length_cons]; omega)⟩
    have hrow := sh.row 0 a0 x ha0 rfl
    have hm0 : (as.map V.ref)[0]? = some (V.ref a0) := by rw [List.getElem?_map, ha0]; rfl
    refine ⟨_, rfl, p, _, _, _, rfl, rfl, SqL.of sh.lst, atI_nat (j := 0) hm0, _, rfl, a0, a, x, rfl, hrow, fun H1 t1 s1 c1 => ?_⟩
    refine ⟨_, rfl, p, rfl, ⟨_, SqL.of (s1 _ _ sh.lst)⟩, for_list (K := K) (a := p) (xs := as.map V.ref) (fun i σ H2 => ∃ (t : Addr) (v3 v4 : Option V), σ = [some (.int (a : Int)), some (.ref p), some (.ref t), v3, v4] ∧ Same H H2 ∧ Ch H2 t (loUp (ch a x) (((x :: L).take i).map (ch a))))
      ⟨t1, none, none, rfl, s1, c1⟩ (fun i σ H2 _ ⟨_, _, _, _, s2, _⟩ => SqL.of (s2 _ _ sh.lst)) ?_ ?_⟩
    · rintro i y σ H2 hi ⟨t, v3, v4, rfl, s2, c2⟩
      obtain ⟨r, z, rfl, hr1, hz, hzr⟩ := (sh.same s2).get hi
      have hb := loUp_ten (z := ch a x) (ten x (.head _)) (ten_map a ten i)
      have hzt := ten z (List.mem_of_getElem? hz)
      refine ⟨_, rfl, _, rfl, r, a, z, rfl, hzr, fun H3 t3 s3 c3 => ?_⟩
      refine ⟨_, rfl, _, rfl, t3, t, _, _, rfl, c3, s3 _ _ c2, hzt.2, hb.2, _, rfl, ?_⟩
      rw [take_snoc hz, List.map_append]
      cases hh : Krae.under (ch a z) (loUp (ch a x) (((x :: L).take i).map (ch a))) with
      | true =>
        refine iteT ⟨_, rfl, t3, _, _, rfl, s2.trans s3, ?_⟩
        rw [List.map_cons, List.map_nil, loUp_snoc, hh]
        exact c3
      | false =>
        refine iteF ⟨t, _, _, rfl, s2.trans s3, ?_⟩
        rw [List.map_cons, List.map_nil, loUp_snoc, hh]
        exact s3 _ _ c2
    · rintro σ H2 ⟨t, v3, v4, rfl, s2, c2⟩
      rw [List.length_map, sh.len, List.take_length] at c2
      exact ⟨_, rfl, k H2 t s2 c2⟩
theorem ok_greatest {f : Addr} {fd : FuncData} (F : Fun K "greatest_chance" "greatest_chance" s_greatest_chance f fd) (G : Gn mg) {f_chance_by : Addr} {fd_chance_by : FuncData} (O_chance_by : FnOk P w K mg base CX0 2 f_chance_by fd_chance_by ["shares", "chosen"] spChanceBy) (D_chance_by : Df K mg "chance_by" f_chance_by fd_chance_by ["shares", "chosen"]) {f_is_less : Addr} {fd_is_less : FuncData} (O_is_less : FnOk P w K mg base CX0 1 f_is_less fd_is_less ["chance", "other"] spIsLess) (D_is_less : Df K mg "is_less" f_is_less fd_is_less ["chance", "other"]) : FnOk P w K mg base CX0 3 f fd ["chosen", "fitting"] (spBound hiOf) := by
  refine F.ok sc_greatest_chance (fun vs H Q E h => ?_) (fun cdv A outer s H vs Q E hr h => ?_)
  · obtain ⟨a, p, x, L, rfl, _⟩ := h
    rfl
  · obtain ⟨a, p, x, L, rfl, ten, ⟨as, sh⟩, k⟩ := h
    refine ⟨_, (pss_cons (ps_set (i := 2) sc_greatest_chance.nd rfl (Or.inl rfl) (pe_call O_chance_by (hr.mono (by decide)) rfl D_chance_by.mg D_chance_by.kp D_chance_by.b .nil pass0 (pa_cons (pe_ix (ixl (K := K)) (pv 1) pe_int (fun _ _ => rfl)) (pa_cons (pv 0) pa_nil))))
      (pss_cons (ps_for PassesOwn.never rfl (pi_list (pv 1)) (pg_name (i := 3) sc_greatest_chance.nd rfl (Or.inl rfl))
        (pss_cons (ps_set (i := 4) sc_greatest_chance.nd rfl (Or.inl rfl) (pe_call O_chance_by (hr.mono (by decide)) rfl D_chance_by.mg D_chance_by.kp D_chance_by.b .nil pass0 (pa_cons (pv 3) (pa_cons (pv 0) pa_nil))))
      (pss_one (ps_if (pt_val (pe_call O_is_less (hr.mono (by decide)) rfl D_is_less.mg D_is_less.kp D_is_less.b .nil pass0 (pa_cons (pv 2) (pa_cons (pv 4) pa_nil)))) (pss_one (ps_set (i := 2) sc_greatest_chance.nd rfl (Or.inl rfl) (pv 4))) pss_nil))))
      (pss_one (ps_ret (pv 2))))), ?_⟩
    obtain ⟨a0, ha0⟩ : ∃ a0, as[0]? = some a0 := ⟨_, List.getElem?_eq_getElem (by rw [sh.len, List.length_cons]; omega)⟩
    have hrow := sh.row 0 a0 x ha0 rfl
    have hm0 : (as.map V.ref)[0]? = some (V.ref a0) := by rw [List.getElem?_map, ha0]; rfl
    refine ⟨_, rfl, p, _, _, _, rfl, rfl, SqL.of sh.lst, atI_nat (j := 0) hm0, _, rfl, a0, a, x, rfl, hrow, fun H1 t1 s1 c1 => ?_⟩
    refine ⟨_, rfl, p, rfl, ⟨_, SqL.of (s1 _ _ sh.lst)⟩, for_list (K := K) (a := p) (xs := as.map V.ref) (fun i σ H2 => ∃ (t : Addr) (v3 v4 : Option V), σ = [some (.int (a : Int)), some (.ref p), some (.ref t), v3, v4] ∧ Same H H2 ∧ Ch H2 t (hiUp (ch a x) (((x :: L).take i).map (ch a))))
      ⟨t1, none, none, rfl, s1, c1⟩ (fun i σ H2 _ ⟨_, _, _, _, s2, _⟩ => SqL.of (s2 _ _ sh.lst)) ?_ ?_⟩
    · rintro i y σ H2 hi ⟨t, v3, v4, rfl, s2, c2⟩
      obtain ⟨r, z, rfl, hr1, hz, hzr⟩ := (sh.same s2).get hi
      have hb := hiUp_ten (z := ch a x) (ten x (.head _)) (ten_map a ten i)
      have hzt := ten z (List.mem_of_getElem? hz)
      refine ⟨_, rfl, _, rfl, r, a, z, rfl, hzr, fun H3 t3 s3 c3 => ?_⟩
      refine ⟨_, rfl, _, rfl, t, t3, _, _, rfl, s3 _ _ c2, c3, hb.2, hzt.2, _, rfl, ?_⟩
      rw [take_snoc hz, List.map_append]
      cases hh : Krae.under (hiUp (ch a x) (((x :: L).take i).map (ch a))) (ch a z) with
      | true =>
        refine iteT ⟨_, rfl, t3, _, _, rfl, s2.trans s3, ?_⟩
        rw [List.map_cons, List.map_nil, hiUp_snoc, hh]
        exact c3
      | false =>
        refine iteF ⟨t, _, _, rfl, s2.trans s3, ?_⟩
        rw [List.map_cons, List.map_nil, hiUp_snoc, hh]
        exact s3 _ _ c2
    · rintro σ H2 ⟨t, v3, v4, rfl, s2, c2⟩
      rw [List.length_map, sh.len, List.take_length] at c2
      exact ⟨_, rfl, k H2 t s2 c2⟩
def spGcd : Sp := fun vs H Q _ => ∃ (a b : Nat), vs = [.int a, .int b] ∧ Q (.int ((Nat.gcd a b : Nat) : Int)) H
theorem ok_gcd {f : Addr} {fd : FuncData} (F : Fun K "greatest_common_divisor" "greatest_common_divisor" s_greatest_common_divisor f fd) : FnOk P w K mg base CX0 1 f fd ["one", "other"] spGcd := by
  refine F.ok sc_greatest_common_divisor (fun vs H Q E h => ?_) (fun cdv A outer s H vs Q E hr h => ?_)
  · obtain ⟨a, b, rfl, _⟩ := h
    rfl
  · obtain ⟨a, b, rfl, k⟩ := h
    refine ⟨_, (pss_cons (ps_set (i := 2) sc_greatest_common_divisor.nd rfl (Or.inl rfl) (pv 0))
      (pss_cons (ps_set (i := 3) sc_greatest_common_divisor.nd rfl (Or.inl rfl) (pv 1))
      (pss_cons (ps_while PassesOwn.never (pt_cmpR op_gt (pv 3) pe_int (nomark _))
        (pss_cons (ps_set (i := 4) sc_greatest_common_divisor.nd rfl (Or.inl rfl) (pe_op op_modn (pv 2) (pv 3)))
      (pss_cons (ps_set (i := 2) sc_greatest_common_divisor.nd rfl (Or.inl rfl) (pv 3))
      (pss_one (ps_set (i := 3) sc_greatest_common_divisor.nd rfl (Or.inl rfl) (pv 4))))))
      (pss_one (ps_ret (pv 2)))))), ?_⟩
    refine ⟨_, rfl, _, rfl, fun m σ H2 => ∃ (d r : Nat) (v4 : Option V), σ = [some (.int (a : Int)), some (.int (b : Int)), some (.int (d : Int)), some (.int (r : Int)), v4] ∧ m = r ∧ Nat.gcd d r = Nat.gcd a b ∧ H2 = H,
      ⟨_, a, b, none, rfl, rfl, rfl, rfl⟩, ?_⟩
    rintro m σ H2 ⟨d, r, v4, rfl, rfl, hg, rfl⟩
    refine ⟨_, rfl, _, _, rfl, rfl, _, rfl, ?_⟩
    refine ite2 (fun h => ?_) (fun h => ?_)
    · have hr : 0 < m := by have := of_decide_eq_true h; omega
      refine ⟨fun σ' H' => ∃ (d r : Nat) (v4 : Option V), σ' = [some (.int (a : Int)), some (.int (b : Int)), some (.int (d : Int)), some (.int (r : Int)), v4] ∧ r < m ∧ Nat.gcd d r = Nat.gcd a b ∧ H' = H2,
        fun σ' H' ⟨d, r, v4, e1, e2, e3, e4⟩ => ⟨r, e2, d, r, v4, e1, rfl, e3, e4⟩, ?_⟩
      refine ⟨_, rfl, _, rfl, d, m, rfl, rfl, hr, ?_⟩
      refine ⟨_, rfl, _, rfl, m, d % m, _, rfl, Nat.mod_lt _ hr, ?_, rfl⟩
      rw [← hg, Nat.gcd_comm m, ← Nat.gcd_rec, Nat.gcd_comm]
    · have hr : m = 0 := by
        rcases Nat.eq_zero_or_pos m with z | z
        · exact z
        · exact absurd (decide_eq_true (by omega)) h
      subst hr
      rw [Nat.gcd_zero_right] at hg
      subst hg
      exact ⟨_, rfl, k⟩
def spFraction : Sp := fun vs H Q _ => ∃ (t : Addr) (c : Nat × Nat), vs = [.ref t] ∧ Ch H t c ∧ 0 < c.2 ∧ c.2 ≤ 10 ∧ ∀ H' r, Same H H' → H r = none → H' r = some (.lst (ns [(Krae.leastForm c.1 c.2).1, (Krae.leastForm c.1 c.2).2])) → Q (.ref r) H'
theorem ok_fraction {f : Addr} {fd : FuncData} (F : Fun K "as_fraction" "as_fraction" s_as_fraction f fd) {f_greatest_common_divisor : Addr} {fd_greatest_common_divisor : FuncData} (O_greatest_common_divisor : FnOk P w K mg base CX0 1 f_greatest_common_divisor fd_greatest_common_divisor ["one", "other"] spGcd) (D_greatest_common_divisor : Df K mg "greatest_common_divisor" f_greatest_common_divisor fd_greatest_common_divisor ["one", "other"]) : FnOk P w K mg base CX0 2 f fd ["chance"] spFraction := by
  refine F.ok sc_as_fraction (fun vs H Q E h => ?_) (fun cdv A outer s H vs Q E hr h => ?_)
  · obtain ⟨t, c, rfl, _⟩ := h
    rfl
  · obtain ⟨t, c, rfl, ht, hc, hc2, k⟩ := h
    refine ⟨_, (pss_cons (ps_set (i := 1) sc_as_fraction.nd rfl (Or.inl rfl) (pe_call O_greatest_common_divisor (hr.mono (by decide)) rfl D_greatest_common_divisor.mg D_greatest_common_divisor.kp D_greatest_common_divisor.b .nil pass0 (pa_cons (pe_ix (ixt (K := K)) (pv 0) pe_int (fun _ _ => rfl)) (pa_cons (pe_ix (ixt (K := K)) (pv 0) pe_int (fun _ _ => rfl)) pa_nil))))
      (pss_one (ps_ret (pe_lst (pa_cons (pe_op op_fdivn (pe_ix (ixt (K := K)) (pv 0) pe_int (fun _ _ => rfl)) (pv 1)) (pa_cons (pe_op op_fdivn (pe_ix (ixt (K := K)) (pv 0) pe_int (fun _ _ => rfl)) (pv 1)) pa_nil)))))), ?_⟩
    have g1 : 0 < Nat.gcd c.1 c.2 := Nat.gcd_pos_of_pos_right _ hc
    have g2 : Nat.gcd c.1 c.2 ≤ c.2 := Nat.gcd_le_right _ hc
    refine ⟨_, rfl, t, _, _, _, rfl, rfl, SqT.of ht, rfl, _, rfl, t, _, _, _, rfl, rfl, SqT.of ht, rfl, c.1, c.2, rfl, ?_⟩
    refine ⟨_, rfl, t, _, _, _, rfl, rfl, SqT.of ht, rfl, _, rfl, c.1, Nat.gcd c.1 c.2, rfl, rfl, g1, by omega, ?_⟩
    refine ⟨_, rfl, t, _, _, _, rfl, rfl, SqT.of ht, rfl, _, rfl, c.2, Nat.gcd c.1 c.2, rfl, rfl, g1, by omega, by show 2 ≤ sizeLine; decide, fun r hr1 => ?_⟩
    exact k _ r (Same.new hr1) hr1 upd_same
end
end Lk
end
section
set_option Elab.async false
set_option linter.all false
set_option maxRecDepth 100000
set_option maxHeartbeats 4000000
namespace Lk
open PySem PySem.Spec PyProof.Rows L2
abbrev s_set_of : Stmt := top 41
theorem sc_set_of : FnScope ["numbers", "chosen", "number"] ["numbers"] (defScope s_set_of) := ⟨rfl, rfl, rfl, by decide +kernel, rfl, by decide +kernel, by decide +kernel⟩
abbrev s_wrong_sets : Stmt := top 42
theorem sc_wrong_sets : FnScope ["worlds", "told", "found", "shares"] ["worlds", "told"] (defScope s_wrong_sets) := ⟨rfl, rfl, rfl, by decide +kernel, rfl, by decide +kernel, by decide +kernel⟩
abbrev s_some_fit : Stmt := top 43
theorem sc_some_fit : FnScope ["wrong"] ["wrong"] (defScope s_some_fit) := ⟨rfl, rfl, rfl, by decide +kernel, rfl, by decide +kernel, by decide +kernel⟩
abbrev s_some_agree : Stmt := top 44
theorem sc_some_agree : FnScope ["chosen", "wrong", "disagreeing"] ["chosen", "wrong"] (defScope s_some_agree) := ⟨rfl, rfl, rfl, by decide +kernel, rfl, by decide +kernel, by decide +kernel⟩
abbrev s_one_left_out : Stmt := top 45
theorem sc_one_left_out : FnScope ["chosen", "how_many", "number"] ["chosen", "how_many"] (defScope s_one_left_out) := ⟨rfl, rfl, rfl, by decide +kernel, rfl, by decide +kernel, by decide +kernel⟩
abbrev s_is_clash : Stmt := top 46
theorem sc_is_clash : FnScope ["chosen", "how_many", "wrong", "fewer"] ["chosen", "how_many", "wrong"] (defScope s_is_clash) := ⟨rfl, rfl, rfl, by decide +kernel, rfl, by decide +kernel, by decide +kernel⟩
abbrev s_all_clashes : Stmt := top 47
theorem sc_all_clashes : FnScope ["how_many", "wrong", "chosen"] ["how_many", "wrong"] (defScope s_all_clashes) := ⟨rfl, rfl, rfl, by decide +kernel, rfl, by decide +kernel, by decide +kernel⟩
abbrev s_all_spare : Stmt := top 48
theorem sc_all_spare : FnScope ["how_many", "wrong", "number"] ["how_many", "wrong"] (defScope s_all_spare) := ⟨rfl, rfl, rfl, by decide +kernel, rfl, by decide +kernel, by decide +kernel⟩
section
variable {P : Program} {w : World} {K : PySem.W.Frag} {mg : Str → Option Value} {base : Heap}
def spSetOf : Sp := fun vs H Q _ => ∃ (p : Addr) (x : List Nat), vs = [.ref p] ∧ (∀ i ∈ x, i ≤ 1000) ∧ H p = some (.lst (ns x)) ∧ Q (.int ((x.foldl (fun s i => s + 2 ^ i) 0 : Nat) : Int)) H
theorem ok_setOf {f : Addr} {fd : FuncData} (F : Fun K "set_of" "set_of" s_set_of f fd) : FnOk P w K mg base CX0 1 f fd ["numbers"] spSetOf := by
  refine F.ok sc_set_of (fun vs H Q E h => ?_) (fun cdv A outer s H vs Q E hr h => ?_)
  · obtain ⟨p, x, rfl, _⟩ := h
    rfl
  · obtain ⟨p, x, rfl, hs, hp, k⟩ := h
    refine ⟨_, (pss_cons (ps_set (i := 1) sc_set_of.nd rfl (Or.inl rfl) pe_int)
      (pss_cons (ps_for PassesOwn.never rfl (pi_list (pv 0)) (pg_name (i := 2) sc_set_of.nd rfl (Or.inl rfl))
        (pss_one (ps_aug (i := 1) sc_set_of.nd rfl (Or.inl rfl) (pe_op op_shl1 pe_int (pv 2)) ip_addn)))
      (pss_one (ps_ret (pv 1))))), ?_⟩
    refine ⟨_, rfl, p, rfl, ⟨_, SqL.of hp⟩, for_list (K := K) (a := p) (xs := ns x) (fun i σ H2 => ∃ v2 : Option V, σ = [some (.ref p), some (.int (((x.take i).foldl (fun s i => s + 2 ^ i) 0 : Nat) : Int)), v2] ∧ H2 = H)
      ⟨none, rfl, rfl⟩ (fun i σ H2 _ ⟨_, _, e⟩ => by rw [e]; exact SqL.of hp) ?_ ?_⟩
    · rintro i y σ H2 hi ⟨v2, rfl, rfl⟩
      obtain ⟨m, hm, rfl⟩ := ns_get hi
      refine ⟨_, rfl, _, rfl, m, rfl, rfl, hs m (List.mem_of_getElem? hm), _, 2 ^ m, rfl, rfl, some (.int (m : Int)), ?_, rfl⟩
      rw [take_snoc hm, List.foldl_append]
      rfl
    · rintro σ H2 ⟨v2, rfl, rfl⟩
      rw [ns_length, List.take_length]
      exact ⟨_, rfl, k⟩
theorem putK_keys {kvs : List (Key × V)} {ks : List Nat} (h : kvs.map (·.1) = ks.map (fun (n : Nat) => (Sum.inl (n : Int) : Key))) (m : Nat) (v : V) :
    ∃ ks' : List Nat, (putK kvs (Sum.inl (m : Int)) v).map (·.1) = ks'.map (fun (n : Nat) => (Sum.inl (n : Int) : Key)) ∧ ∀ j, j ∈ ks' ↔ j ∈ ks ∨ j = m := by
  unfold putK
  by_cases e : (kvs.any fun kv => decide (kv.1 = (Sum.inl (m : Int) : Key))) = true
  · rw [if_pos e]
    refine ⟨ks, ?_, fun j => ⟨.inl, ?_⟩⟩
    · rw [← h, List.map_map]
      refine List.map_congr_left fun kv _ => ?_
      show (if kv.1 = Sum.inl (m : Int) then (kv.1, v) else kv).1 = kv.1
      split <;> rfl
    · rintro (z | z)
      · exact z
      · obtain ⟨kv, hkv, hk⟩ := List.any_eq_true.mp e
        have hm : (Sum.inl (m : Int) : Key) ∈ kvs.map (·.1) := by rw [← of_decide_eq_true hk]; exact List.mem_map_of_mem hkv
        rw [h] at hm
        obtain ⟨a, ha, hb⟩ := List.mem_map.mp hm
        have hb' : (a : Int) = (m : Int) := by injection hb
        rw [z, ← show a = m by omega]
        exact ha
  · rw [if_neg e]
    refine ⟨ks ++ [m], ?_, fun j => by simp⟩
    rw [List.map_append, List.map_append, h]
    rfl
def spWrongSets : Sp := fun vs H Q _ => ∃ (n : Nat) (q : Addr) (l : List Krae.Told), vs = [.int n, .ref q] ∧ 0 < n ∧ n ≤ 5 ∧ l.length ≤ 6 ∧ ToldAt H q l ∧ ∀ H' p ws, Same H H' → Wrongs n l ws → ws.length ≤ 146410 → H' p = some (.lst (ns ws)) → Q (.ref p) H'
theorem ok_wrongSets {f : Addr} {fd : FuncData} (F : Fun K "wrong_sets" "wrong_sets" s_wrong_sets f fd) (G : Gn mg) {f_shares_in_order : Addr} {fd_shares_in_order : FuncData} (O_shares_in_order : FnOk P w K mg base CX0 3 f_shares_in_order fd_shares_in_order ["worlds"] spInOrder) (D_shares_in_order : Df K mg "shares_in_order" f_shares_in_order fd_shares_in_order ["worlds"]) {f_disagreed : Addr} {fd_disagreed : FuncData} (O_disagreed : FnOk P w K mg base CX0 4 f_disagreed fd_disagreed ["shares", "told"] spDisagreed) (D_disagreed : Df K mg "disagreed" f_disagreed fd_disagreed ["shares", "told"]) {f_set_of : Addr} {fd_set_of : FuncData} (O_set_of : FnOk P w K mg base CX0 1 f_set_of fd_set_of ["numbers"] spSetOf) (D_set_of : Df K mg "set_of" f_set_of fd_set_of ["numbers"]) : FnOk P w K mg base CX0 5 f fd ["worlds", "told"] spWrongSets := by
  refine F.ok sc_wrong_sets (fun vs H Q E h => ?_) (fun cdv A outer s H vs Q E hr h => ?_)
  · obtain ⟨n, q, l, rfl, _⟩ := h
    rfl
  · obtain ⟨n, q, l, rfl, h0, hn, h6, hto, k⟩ := h
    refine ⟨_, (pss_cons (ps_set (i := 2) sc_wrong_sets.nd rfl (Or.inl rfl) pe_dnewK)
      (pss_cons (ps_for PassesOwn.never rfl (pi_list (pe_call O_shares_in_order (hr.mono (by decide)) rfl D_shares_in_order.mg D_shares_in_order.kp D_shares_in_order.b .nil pass0 (pa_cons (pv 0) pa_nil))) (pg_name (i := 3) sc_wrong_sets.nd rfl (Or.inl rfl))
        (pss_one (ps_dput (Nat.lt_of_le_of_lt (Nat.add_le_add_left (by decide) _) hr.units) (pv 2) (pe_call O_set_of (hr.mono (by decide)) rfl D_set_of.mg D_set_of.kp D_set_of.b .nil pass0 (pa_cons (pe_call O_disagreed (hr.mono (by decide)) rfl D_disagreed.mg D_disagreed.kp D_disagreed.b .nil pass0 (pa_cons (pv 3) (pa_cons (pv 1) pa_nil))) pa_nil)) pe_bl rfl)))
      (pss_one (ps_ret (pe_callB (srtD rfl) (by rfl) G.sorted boot_sorted (pa_cons (pv 2) pa_nil)))))), ?_⟩
    intro D hD
    have sD : Same H (upd H D (.dK [])) := Same.new hD
    refine ⟨_, rfl, n, rfl, h0, hn, fun H1 p s1 ⟨as, sh⟩ => ?_⟩
    have hrows := rows_all h0 hn
    have hsl : sizeLine = 16777216 := by decide
    refine ⟨p, rfl, ⟨_, SqL.of sh.lst⟩, for_list (K := K) (a := p) (xs := as.map V.ref) (fun i σ H2 => ∃ (v3 : Option V) (kvs : List (Key × V)) (ks : List Nat), σ = [some (.int (n : Int)), some (.ref q), some (.ref D), v3] ∧ i ≤ (Krae.rows n).length ∧ (∀ b o, H1 b = some o → b ≠ D → H2 b = some o) ∧ H2 D = some (.dK kvs) ∧ kvs.length ≤ i ∧
        kvs.map (·.1) = ks.map (fun (n : Nat) => (Sum.inl (n : Int) : Key)) ∧ ∀ m, m ∈ ks ↔ ∃ x ∈ (Krae.rows n).take i, wr l x = m)
      ⟨none, [], [], rfl, Nat.zero_le _, fun b o e _ => e, s1 _ _ upd_same, Nat.zero_le _, rfl, fun m => by simp⟩ ?_ ?_ ?_⟩
    · rintro i σ H2 _ ⟨_, _, _, _, _, b2, _⟩
      exact SqL.of (b2 _ _ sh.lst (ne_of sh.lst (s1 _ _ upd_same) (by intro z; cases z)))
    · rintro i y σ H2 hi ⟨v3, kvs, ks, rfl, hil, b2, hd2, hlen, hk, hm⟩
      have nD : ∀ {b : Addr} {o : HO}, H1 b = some o → o ≠ .dK [] → H2 b = some o := fun e z => b2 _ _ e fun y => by
        rw [y, s1 _ _ upd_same] at e
        exact z (Option.some.inj e).symm
      have sh2 : ShA H2 p as (Krae.rows n) := ⟨sh.len, nD sh.lst (by intro z; cases z), fun j r x e1 e2 => nD (sh.row j r x e1 e2) (by intro z; cases z)⟩
      obtain ⟨ts, ht⟩ := (hto.same sD).same s1
      have ht2 : ToldA H2 q ts l := ⟨ht.len, nD ht.lst (by intro z; cases z), fun j t o e1 e2 => nD (ht.one j t o e1 e2) (by intro z; cases z)⟩
      obtain ⟨r, x, rfl, hr1, hx, hrow⟩ := sh2.get hi
      have hil2 : i < (Krae.rows n).length := (List.getElem?_eq_some_iff.mp hx).1
      refine ⟨_, rfl, _, rfl, _, rfl, r, q, x, l, rfl, h6, hrow, ⟨ts, ht2⟩, fun H3 r3 s3 hr3 hr3' => ?_⟩
      refine ⟨r3, _, rfl, fun j hj => ?_, hr3', ?_⟩
      · have := List.mem_range.mp (List.mem_filter.mp hj).1
        omega
      have hd3 := s3 _ _ hd2
      refine ⟨D, _, rfl, .inl ⟨kvs, Sum.inl ((wr l x : Nat) : Int), hd3, rfl, by omega, rfl⟩, ?_⟩
      obtain ⟨ks', e1, e2⟩ := putK_keys hk (wr l x) (.bl true)
      refine ⟨_, _, ks', rfl, hil2, fun b o e hb => ?_, upd_same, ?_, e1, fun m => ?_⟩
      · rw [upd_ne hb]; exact s3 _ _ (b2 b o e hb)
      · have := length_putK kvs (Sum.inl ((wr l x : Nat) : Int)) (.bl true)
        omega
      · rw [e2, hm, take_snoc hx]
        constructor
        · rintro (⟨y, hy, z⟩ | z)
          · exact ⟨y, List.mem_append_left _ hy, z⟩
          · exact ⟨x, by simp, z.symm⟩
        · rintro ⟨y, hy, z⟩
          rcases List.mem_append.mp hy with h | h
          · exact .inl ⟨y, h, z⟩
          · have e : y = x := by simpa using h
            rw [e] at z
            exact .inr z.symm
    · rintro σ H2 ⟨v3, kvs, ks, rfl, hil, b2, hd2, hlen, hk, hm⟩
      rw [List.length_map, sh.len, List.take_length] at hm
      refine ⟨_, rfl, D, kvs, ks, rfl, hd2, hk, fun ws p3 hperm hp3 => ?_⟩
      have hkl : ks.length = kvs.length := by
        have := congrArg List.length hk
        rw [List.length_map, List.length_map] at this
        exact this.symm
      refine k _ p3 ws (fun b o e => ?_) (fun m => by rw [hperm.mem_iff, hm]) (by rw [hperm.length_eq, hkl]; rw [List.length_map, sh.len] at hlen; omega) upd_same
      have e2 := b2 b o (s1 _ _ (sD _ _ e)) (ne_of_none e hD)
      rw [upd_ne (ne_of_none e2 hp3)]
      exact e2
def spSomeFit : Sp := fun vs H Q _ => ∃ (p : Addr) (ws : List Nat), vs = [.ref p] ∧ H p = some (.lst (ns ws)) ∧ Q (.bl (decide (0 ∈ ws))) H
theorem ok_someFit {f : Addr} {fd : FuncData} (F : Fun K "some_fit" "some_fit" s_some_fit f fd) : FnOk P w K mg base CX0 1 f fd ["wrong"] spSomeFit := by
  refine F.ok sc_some_fit (fun vs H Q E h => ?_) (fun cdv A outer s H vs Q E hr h => ?_)
  · obtain ⟨p, ws, rfl, _⟩ := h
    rfl
  · obtain ⟨p, ws, rfl, hp, k⟩ := h
    refine ⟨_, (pss_one (ps_ret (pe_cmpR (ins_ (K := K)) pe_int (pv 0) rfl))), ?_⟩
    refine ⟨_, rfl, p, _, rfl, .inl (SqL.of hp), rfl, flatN ws, ?_⟩
    have e := inN 0 ws
    show Q (.bl (inV (.int ((0 : Nat) : Int)) (ns ws))) H
    rw [e]
    exact k
def spSomeAgree : Sp := fun vs H Q _ => ∃ (c : Nat) (p : Addr) (ws : List Nat), vs = [.int c, .ref p] ∧ ws.length ≤ 146410 ∧ H p = some (.lst (ns ws)) ∧ ∀ H', Same H H' → Q (.bl (ws.any fun d => decide (c &&& d = 0))) H'
theorem ok_someAgree {f : Addr} {fd : FuncData} (F : Fun K "some_agree" "some_agree" s_some_agree f fd) (G : Gn mg) : FnOk P w K mg base CX0 1 f fd ["chosen", "wrong"] spSomeAgree := by
  refine F.ok sc_some_agree (fun vs H Q E h => ?_) (fun cdv A outer s H vs Q E hr h => ?_)
  · obtain ⟨c, p, ws, rfl, _⟩ := h
    rfl
  · obtain ⟨c, p, ws, rfl, hlen, hp, k⟩ := h
    refine ⟨_, (pss_one (ps_ret (pe_callB (anys (K := K) rfl) (by rfl) G.any boot_any (pa_cons (pe_lc (own := [("disagreeing", 2)]) rfl sc_some_agree.nd (pi_list (pv 1)) (blkOk_by rfl) (fun _ _ _ _ _ => (pg_name (i := 2) sc_some_agree.nd rfl (Or.inl rfl))) (fun _ _ _ _ _ => pts_nil) (fun _ _ _ _ _ => (pe_cmpR op_eqn (pe_op op_andn (pv 0) (pv 2)) pe_int (nomark _)))) pa_nil)))), ?_⟩
    refine ⟨_, rfl, p, rfl, ⟨_, SqL.of hp⟩, fun D hD => ?_⟩
    refine lc_list (K := K) (a := p) (xs := ns ws) (fun i H3 => Same H H3 ∧ H3 D = some (.lst (((ws.take i).map fun d => decide (c &&& d = 0)).map V.bl))) ⟨Same.new hD, upd_same⟩
      (fun i H3 _ ⟨s3, _⟩ => SqL.of (s3 _ _ hp)) ?_ ?_
    · rintro i y H3 hi ⟨s3, hd⟩
      obtain ⟨m, hm, rfl⟩ := ns_get hi
      refine ⟨rfl, _, rfl, _, rfl, c, m, rfl, rfl, (c &&& m), 0, rfl, rfl, _, hd, ?_, Same.put s3 hD, ?_⟩
      · rw [List.length_map, List.length_map, List.length_take]
        have : sizeLine = 16777216 := by decide
        omega
      · rw [upd_same, take_snoc hm, List.map_append, List.map_append]
        rfl
    · rintro H3 ⟨s3, hd⟩
      rw [ns_length, List.take_length] at hd
      refine ⟨D, _, rfl, SqL.of hd, ?_⟩
      rw [List.any_map]
      exact k H3 s3
def spLeftOut : Sp := fun vs H Q _ => ∃ (c m : Nat), vs = [.int c, .int m] ∧ m ≤ 6 ∧ ∀ H' q, Same H H' → H q = none → H' q = some (.lst (ns (leftOut c m))) → Q (.ref q) H'
theorem ok_leftOut {f : Addr} {fd : FuncData} (F : Fun K "one_left_out" "one_left_out" s_one_left_out f fd) (G : Gn mg) : FnOk P w K mg base CX0 1 f fd ["chosen", "how_many"] spLeftOut := by
  refine F.ok sc_one_left_out (fun vs H Q E h => ?_) (fun cdv A outer s H vs Q E hr h => ?_)
  · obtain ⟨c, m, rfl, _⟩ := h
    rfl
  · obtain ⟨c, m, rfl, hm, k⟩ := h
    refine ⟨_, (pss_one (ps_ret (pe_lc (own := [("number", 2)]) rfl sc_one_left_out.nd (pi_range1 rfl G.range (pa_cons (pv 1) pa_nil)) (blkOk_by rfl) (fun _ _ _ _ _ => (pg_name (i := 2) sc_one_left_out.nd rfl (Or.inl rfl))) (fun _ _ _ _ _ => pts_one (pt_cmpR op_eqn (pe_op op_andn (pe_op op_shrn (pv 0) (pv 2)) pe_int) pe_int (nomark _))) (fun _ _ _ _ _ => (pe_op op_subn (pv 0) (pe_op op_shl1 pe_int (pv 2))))))), ?_⟩
    refine ⟨_, rfl, (m : Int), rfl, by omega, by omega, fun D hD => ?_⟩
    refine lc_range (lo := 0) (n := m) (fun i H3 => Same H H3 ∧ H3 D = some (.lst (ns (leftOut c i)))) ⟨Same.new hD, upd_same⟩ ?_ ?_
    · rintro i H3 hi ⟨s3, hd⟩
      rw [Int.zero_add]
      refine ⟨rfl, _, rfl, _, rfl, c, i, rfl, rfl, c / 2 ^ i, 1, rfl, rfl, (c / 2 ^ i &&& 1), 1, rfl, rfl, _, rfl, ?_⟩
      refine ite2 (fun h => ?_) (fun h => ?_)
      · have h1 := of_decide_eq_true h
        refine ⟨_, rfl, _, rfl, i, rfl, rfl, by omega, c, 2 ^ i, rfl, rfl, bit_le h1, _, hd, ?_, Same.put s3 hD, ?_⟩
        · rw [ns_length]
          unfold leftOut
          rw [List.length_map]
          have := List.length_filter_le (fun i => decide ((c / 2 ^ i) &&& 1 = 1)) (List.range i)
          rw [List.length_range] at this
          have : sizeLine = 16777216 := by decide
          omega
        · rw [upd_same, ← ns_snoc]
          unfold leftOut
          rw [List.range_succ, List.filter_append, List.map_append]
          simp only [List.filter_cons, List.filter_nil, h, if_true, List.map_cons, List.map_nil]
      · have h' : decide ((c / 2 ^ i) &&& 1 = 1) = false := by rw [Bool.not_eq_true] at h; exact h
        refine ⟨s3, ?_⟩
        rw [hd]
        unfold leftOut
        rw [List.range_succ, List.filter_append, List.map_append]
        simp only [List.filter_cons, List.filter_nil, h', Bool.false_eq_true, if_false, List.map_nil, List.append_nil]
    · rintro H3 ⟨s3, hd⟩
      exact k H3 D s3 hD hd
def spIsClash : Sp := fun vs H Q _ => ∃ (c m : Nat) (p : Addr) (ws : List Nat), vs = [.int c, .int m, .ref p] ∧ m ≤ 6 ∧ ws.length ≤ 146410 ∧ H p = some (.lst (ns ws)) ∧ ∀ H', Same H H' → Q (.bl (clashB ws m c)) H'
theorem ok_isClash {f : Addr} {fd : FuncData} (F : Fun K "is_clash" "is_clash" s_is_clash f fd) (G : Gn mg) {f_some_agree : Addr} {fd_some_agree : FuncData} (O_some_agree : FnOk P w K mg base CX0 1 f_some_agree fd_some_agree ["chosen", "wrong"] spSomeAgree) (D_some_agree : Df K mg "some_agree" f_some_agree fd_some_agree ["chosen", "wrong"]) {f_one_left_out : Addr} {fd_one_left_out : FuncData} (O_one_left_out : FnOk P w K mg base CX0 1 f_one_left_out fd_one_left_out ["chosen", "how_many"] spLeftOut) (D_one_left_out : Df K mg "one_left_out" f_one_left_out fd_one_left_out ["chosen", "how_many"]) : FnOk P w K mg base CX0 2 f fd ["chosen", "how_many", "wrong"] spIsClash := by
  refine F.ok sc_is_clash (fun vs H Q E h => ?_) (fun cdv A outer s H vs Q E hr h => ?_)
  · obtain ⟨c, m, p, ws, rfl, _⟩ := h
    rfl
  · obtain ⟨c, m, p, ws, rfl, hm, hlen, hp, k⟩ := h
    refine ⟨_, (pss_cons (ps_if (pt_val (pe_call O_some_agree (hr.mono (by decide)) rfl D_some_agree.mg D_some_agree.kp D_some_agree.b .nil pass0 (pa_cons (pv 0) (pa_cons (pv 2) pa_nil)))) (pss_one (ps_ret pe_bl)) pss_nil)
      (pss_one (ps_ret (pe_callB (alls (K := K) rfl) (by rfl) G.all boot_all (pa_cons (pe_lc (own := [("fewer", 3)]) rfl sc_is_clash.nd (pi_list (pe_call O_one_left_out (hr.mono (by decide)) rfl D_one_left_out.mg D_one_left_out.kp D_one_left_out.b .nil pass0 (pa_cons (pv 0) (pa_cons (pv 1) pa_nil)))) (blkOk_by rfl) (fun _ _ _ _ _ => (pg_name (i := 3) sc_is_clash.nd rfl (Or.inl rfl))) (fun _ _ _ _ _ => pts_nil) (fun _ _ _ _ _ => (pe_call O_some_agree (hr.mono (by decide)) rfl D_some_agree.mg D_some_agree.kp D_some_agree.b .nil pass0 (pa_cons (pv 3) (pa_cons (pv 2) pa_nil))))) pa_nil))))), ?_⟩
    refine ⟨_, rfl, _, rfl, c, p, ws, rfl, hlen, hp, fun H1 s1 => ⟨_, rfl, ?_⟩⟩
    unfold clashB at k
    cases hh : (ws.any fun d => decide (c &&& d = 0)) with
    | true =>
      rw [hh] at k
      exact iteT (k H1 s1)
    | false =>
      rw [hh] at k
      refine iteF ⟨_, rfl, _, rfl, c, m, rfl, hm, fun H2 q s2 _ hq => ?_⟩
      refine ⟨q, rfl, ⟨_, SqL.of hq⟩, fun D hD => ?_⟩
      refine lc_list (K := K) (a := q) (xs := ns (leftOut c m)) (fun i H3 => Same H2 H3 ∧ H3 D = some (.lst ((((leftOut c m).take i).map fun e => ws.any fun d => decide (e &&& d = 0)).map V.bl))) ⟨Same.new hD, upd_same⟩
        (fun i H3 _ ⟨s3, _⟩ => SqL.of (s3 _ _ hq)) ?_ ?_
      · rintro i y H3 hi ⟨s3, hd⟩
        obtain ⟨e, he, rfl⟩ := ns_get hi
        refine ⟨rfl, _, rfl, _, rfl, e, p, ws, rfl, hlen, ((s1.trans s2).trans s3) _ _ hp, fun H4 s4 => ?_⟩
        refine ⟨_, s4 _ _ hd, ?_, Same.put (s3.trans s4) hD, ?_⟩
        · rw [List.length_map, List.length_map, List.length_take]
          have := leftOut_len c m
          have : sizeLine = 16777216 := by decide
          omega
        · rw [upd_same, take_snoc he, List.map_append, List.map_append]
          rfl
      · rintro H3 ⟨s3, hd⟩
        rw [ns_length, List.take_length] at hd
        refine ⟨D, _, rfl, SqL.of hd, ?_⟩
        rw [List.all_map]
        exact k H3 ((s1.trans s2).trans s3)
def spAllClashes : Sp := fun vs H Q _ => ∃ (m : Nat) (p : Addr) (ws : List Nat), vs = [.int m, .ref p] ∧ m ≤ 6 ∧ ws.length ≤ 146410 ∧ H p = some (.lst (ns ws)) ∧ ∀ H' q, Same H H' → H q = none → H' q = some (.lst (ns ((List.range (2 ^ m)).filter (clashB ws m)))) → Q (.ref q) H'
theorem ok_allClashes {f : Addr} {fd : FuncData} (F : Fun K "all_clashes" "all_clashes" s_all_clashes f fd) (G : Gn mg) {f_is_clash : Addr} {fd_is_clash : FuncData} (O_is_clash : FnOk P w K mg base CX0 2 f_is_clash fd_is_clash ["chosen", "how_many", "wrong"] spIsClash) (D_is_clash : Df K mg "is_clash" f_is_clash fd_is_clash ["chosen", "how_many", "wrong"]) : FnOk P w K mg base CX0 3 f fd ["how_many", "wrong"] spAllClashes := by
  refine F.ok sc_all_clashes (fun vs H Q E h => ?_) (fun cdv A outer s H vs Q E hr h => ?_)
  · obtain ⟨m, p, ws, rfl, _⟩ := h
    rfl
  · obtain ⟨m, p, ws, rfl, hm, hlen, hp, k⟩ := h
    refine ⟨_, (pss_one (ps_ret (pe_lc (own := [("chosen", 2)]) rfl sc_all_clashes.nd (pi_range1 rfl G.range (pa_cons (pe_op op_shl1 pe_int (pv 0)) pa_nil)) (blkOk_by rfl) (fun _ _ _ _ _ => (pg_name (i := 2) sc_all_clashes.nd rfl (Or.inl rfl))) (fun _ _ _ _ _ => pts_one (pt_val (pe_call O_is_clash (hr.mono (by decide)) rfl D_is_clash.mg D_is_clash.kp D_is_clash.b .nil pass0 (pa_cons (pv 2) (pa_cons (pv 0) (pa_cons (pv 1) pa_nil)))))) (fun _ _ _ _ _ => (pv 2))))), ?_⟩
    have h64 : 2 ^ m ≤ 64 := Nat.pow_le_pow_right (by decide : 0 < 2) hm
    have b1 : (0 : Int) ≤ ((2 ^ m : Nat) : Int) := Int.natCast_nonneg _
    have b2 : ((2 ^ m : Nat) : Int) ≤ 64 := Int.ofNat_le.mpr h64
    refine ⟨_, rfl, m, rfl, rfl, by omega, ((2 ^ m : Nat) : Int), rfl, by omega, by omega, fun D hD => ?_⟩
    refine lc_range (lo := 0) (n := 2 ^ m) (fun i H3 => Same H H3 ∧ i ≤ 2 ^ m ∧ H3 D = some (.lst (ns ((List.range i).filter (clashB ws m))))) ⟨Same.new hD, Nat.zero_le _, upd_same⟩ ?_ ?_
    · rintro i H3 hi ⟨s3, hil, hd⟩
      rw [Int.zero_add]
      refine ⟨rfl, _, rfl, _, rfl, _, rfl, i, m, p, ws, rfl, hm, hlen, s3 _ _ hp, fun H4 s4 => ⟨_, rfl, ?_⟩⟩
      cases hh : clashB ws m i with
      | true =>
        refine iteT ⟨_, rfl, _, s4 _ _ hd, ?_, Same.put (s3.trans s4) hD, hi, ?_⟩
        · rw [ns_length]
          have := List.length_filter_le (clashB ws m) (List.range i)
          rw [List.length_range] at this
          have : sizeLine = 16777216 := by decide
          omega
        · rw [upd_same, ← ns_snoc, List.range_succ, List.filter_append]
          simp only [List.filter_cons, List.filter_nil, hh, if_true]
      | false =>
        refine iteF ⟨s3.trans s4, hi, ?_⟩
        rw [s4 _ _ hd, List.range_succ, List.filter_append]
        simp only [List.filter_cons, List.filter_nil, hh, Bool.false_eq_true, if_false, List.append_nil]
    · rintro H3 ⟨s3, hil, hd⟩
      exact k H3 D s3 hD hd
def spAllSpare : Sp := fun vs H Q _ => ∃ (m : Nat) (p : Addr) (ws : List Nat), vs = [.int m, .ref p] ∧ m ≤ 6 ∧ H p = some (.lst (ns ws)) ∧ ∀ H' q, Same H H' → H q = none → H' q = some (.lst (ns ((List.range m).filter fun i => !decide (2 ^ i ∈ ws)))) → Q (.ref q) H'
theorem ok_allSpare {f : Addr} {fd : FuncData} (F : Fun K "all_spare" "all_spare" s_all_spare f fd) (G : Gn mg) : FnOk P w K mg base CX0 1 f fd ["how_many", "wrong"] spAllSpare := by
  refine F.ok sc_all_spare (fun vs H Q E h => ?_) (fun cdv A outer s H vs Q E hr h => ?_)
  · obtain ⟨m, p, ws, rfl, _⟩ := h
    rfl
  · obtain ⟨m, p, ws, rfl, hm, hp, k⟩ := h
    refine ⟨_, (pss_one (ps_ret (pe_lc (own := [("number", 2)]) rfl sc_all_spare.nd (pi_range1 rfl G.range (pa_cons (pv 0) pa_nil)) (blkOk_by rfl) (fun _ _ _ _ _ => (pg_name (i := 2) sc_all_spare.nd rfl (Or.inl rfl))) (fun _ _ _ _ _ => pts_one (pt_cmpR (nins_ (K := K)) (pe_op op_shl1 pe_int (pv 2)) (pv 1) rfl)) (fun _ _ _ _ _ => (pv 2))))), ?_⟩
    refine ⟨_, rfl, (m : Int), rfl, by omega, by omega, fun D hD => ?_⟩
    refine lc_range (lo := 0) (n := m) (fun i H3 => Same H H3 ∧ i ≤ m ∧ H3 D = some (.lst (ns ((List.range i).filter fun i => !decide (2 ^ i ∈ ws))))) ⟨Same.new hD, Nat.zero_le _, upd_same⟩ ?_ ?_
    · rintro i H3 hi ⟨s3, hil, hd⟩
      rw [Int.zero_add]
      refine ⟨rfl, _, rfl, i, rfl, rfl, by omega, _, rfl, p, _, rfl, .inl (SqL.of (s3 _ _ hp)), rfl, flatN ws, _, rfl, ?_⟩
      have e := inN (2 ^ i) ws
      show if (!inV (.int ((2 ^ i : Nat) : Int)) (ns ws)) = true then _ else _
      rw [e]
      cases hh : decide (2 ^ i ∈ ws) with
      | false =>
        refine iteT ⟨_, rfl, _, hd, ?_, Same.put s3 hD, hi, ?_⟩
        · rw [ns_length]
          have := List.length_filter_le (fun i => !decide (2 ^ i ∈ ws)) (List.range i)
          rw [List.length_range] at this
          have : sizeLine = 16777216 := by decide
          omega
        · rw [upd_same, ← ns_snoc, List.range_succ, List.filter_append]
          simp only [List.filter_cons, List.filter_nil, hh, Bool.not_false, if_true]
      | true =>
        refine iteF ⟨s3, hi, ?_⟩
        rw [hd, List.range_succ, List.filter_append]
        simp only [List.filter_cons, List.filter_nil, hh, Bool.not_true, Bool.false_eq_true, if_false, List.append_nil]
    · rintro H3 ⟨s3, hil, hd⟩
      exact k H3 D s3 hD hd
end
end Lk
end
section
set_option Elab.async false
set_option linter.all false
set_option maxRecDepth 100000
set_option maxHeartbeats 4000000
namespace Lk
open PySem PySem.Spec PyProof.Rows L2
theorem erase_cut {H : Hp} {q r : Addr} {ts : List Addr} {l : List Krae.Told} (h : ToldA H q ts l) (k : Nat) (hr : H r = some (.lst ((ts.take k).map V.ref ++ (ts.drop (k + 1)).map V.ref))) : ToldA H r (ts.eraseIdx k) (l.eraseIdx k) := by
  refine ⟨by rw [List.length_eraseIdx, List.length_eraseIdx, h.len], by rw [hr, List.eraseIdx_eq_take_drop_succ, List.map_append], fun i a u e1 e2 => ?_⟩
  rw [List.getElem?_eraseIdx] at e1 e2
  split at e1
  · rename_i hi
    rw [if_pos hi] at e2
    exact h.one i a u e1 e2
  · rename_i hi
    rw [if_neg hi] at e2
    exact h.one (i + 1) a u e1 e2
theorem cut_lo {ts : List Addr} {t : Nat} (h : t ≤ ts.length) : cutV (ts.map V.ref) none (some (t : Int)) = (ts.take t).map V.ref := by
  unfold cutV
  rw [HT.sIx_nat, List.length_map, Nat.min_eq_left h, show HT.sIx ts.length 0 none = 0 from rfl]
  simp
theorem cut_hi {ts : List Addr} {t : Nat} (h : t ≤ ts.length) : cutV (ts.map V.ref) (some (t : Int)) none = (ts.drop t).map V.ref := by
  unfold cutV
  rw [HT.sIx_nat, List.length_map, Nat.min_eq_left h, show HT.sIx ts.length ts.length none = ts.length from rfl, List.take_of_length_le (by rw [List.length_drop, List.length_map]; exact Nat.le_refl _), List.map_drop]
section
variable {P : Program} {w : World} {K : PySem.W.Frag} {mg : Str → Option Value} {base : Heap} {C : Addr}
def spAsk1 (C : Addr) (ans : Nat → List Krae.Told → Nat → List Int) : Sp := fun vs H Q _ => ∃ (p q : Addr) (n a : Nat) (l : List Krae.Told), vs = [.ref p, .int a] ∧ 0 < n ∧ Sess C H p q n l ∧ Says H Q (ans n l a)
def spAsk3 (C : Addr) (ans : Nat → List Krae.Told → Nat → Nat → Nat → List Int) : Sp := fun vs H Q _ => ∃ (p q : Addr) (n a b c : Nat) (l : List Krae.Told), vs = [.ref p, .int a, .int b, .int c] ∧ 0 < n ∧ Sess C H p q n l ∧ Says H Q (if 2 ^ n ≤ a ∨ 2 ^ n ≤ b ∨ 2 ^ n ≤ c then [-22] else ans n l a b c)
def aLook (_ : Nat) (l : List Krae.Told) (t : Nat) : List Int := match l[t]? with
  | none => [-2]
  | some x => [(x.kind : Int), (x.a : Int), (x.b : Int)]
theorem ok_look {f : Addr} {fd : FuncData} (F : Fun K "look" "Session.look" s_m_look f fd) (T : Txt K mg C) (G : Gs mg) : FnOk P w K mg base CX0 1 f fd ["self", "number"] (spAsk1 C aLook) := by
  refine F.ok sc_m_look (fun vs H Q E h => ?_) (fun cdv A outer s H vs Q E hr h => ?_)
  · obtain ⟨p, q, n, t, l, rfl, _⟩ := h
    rfl
  · obtain ⟨p, q, n, t, l, rfl, h0, S, k⟩ := h
    obtain ⟨dx, hp⟩ := S.obj
    obtain ⟨ts, ht⟩ := S.told
    refine ⟨_, (pss_cons (ps_if (pt_cmpR op_ge (pv 1) (pe_callB (lens (K := K)) (by rfl) G.len PySem.boot_len (pa_cons (pe_fld (pv 0) rfl) pa_nil)) (nomark _)) (pss_one (ps_ret (pe_lst (pa_cons (pgi G.NONE_SUCH) pa_nil)))) pss_nil)
      (pss_one (ps_ret (pe_callTy call_list_of rfl G.list boot_list (pa_cons (pe_ix (ixl (K := K)) (pe_fld (pv 0) rfl) (pv 1) (fun _ _ => rfl)) pa_nil))))), ?_⟩
    refine ⟨_, rfl, _, rfl, p, C, dx, _, _, rfl, hp, T.cl, T.nT, sf_t n q, q, _, rfl, .inl (SqL.of ht.lst), _, _, rfl, rfl, _, rfl, ?_⟩
    rw [List.length_map, ht.len]
    unfold aLook at k
    refine ite2 (fun h => ⟨by decide, fun r hr => ?_⟩) (fun h => ?_)
    · have : l.length ≤ t := by have := of_decide_eq_true h; omega
      rw [List.getElem?_eq_none this] at k
      exact k _ r (Same.new hr) hr upd_same
    · have hlt : t < l.length := by
        rcases Nat.lt_or_ge t l.length with z | z
        · exact z
        · exact absurd (decide_eq_true (by omega)) h
      rw [List.getElem?_eq_getElem hlt] at k
      obtain ⟨ta, hta⟩ : ∃ y, ts[t]? = some y := ⟨_, List.getElem?_eq_getElem (by rw [ht.len]; exact hlt)⟩
      have hm : (ts.map V.ref)[t]? = some (V.ref ta) := by rw [List.getElem?_map, hta]; rfl
      have htu := ht.one t ta _ hta (List.getElem?_eq_getElem hlt)
      refine ⟨_, rfl, p, C, dx, _, _, rfl, hp, T.cl, T.nT, sf_t n q, _, rfl, q, _, _, _, rfl, rfl, SqL.of ht.lst, atI_nat hm, ta, _, rfl, .inr (SqT.of htu), fun r hr => ?_⟩
      exact k _ r (Same.new hr) hr upd_same
def aState (n : Nat) (l : List Krae.Told) : List Int := [(n : Int), (l.length : Int)]
theorem ok_state {f : Addr} {fd : FuncData} (F : Fun K "state" "Session.state" s_m_state f fd) (T : Txt K mg C) (G : Gs mg) : FnOk P w K mg base CX0 1 f fd ["self"] (spAsk C aState) := by
  refine F.ok sc_m_state (fun vs H Q E h => ?_) (fun cdv A outer s H vs Q E hr h => ?_)
  · obtain ⟨p, q, n, l, rfl, _⟩ := h
    rfl
  · obtain ⟨p, q, n, l, rfl, h0, S, k⟩ := h
    obtain ⟨dx, hp⟩ := S.obj
    obtain ⟨ts, ht⟩ := S.told
    refine ⟨_, (pss_one (ps_ret (pe_lst (pa_cons (pe_fld (pv 0) rfl) (pa_cons (pe_callB (lens (K := K)) (by rfl) G.len PySem.boot_len (pa_cons (pe_fld (pv 0) rfl) pa_nil)) pa_nil))))), ?_⟩
    refine ⟨_, rfl, p, C, dx, _, _, rfl, hp, T.cl, T.nW, sf_w n q, _, rfl, p, C, dx, _, _, rfl, hp, T.cl, T.nT, sf_t n q, q, _, rfl, .inl (SqL.of ht.lst), by show 2 ≤ sizeLine; decide, fun r hr => ?_⟩
    refine k _ r (Same.new hr) hr ?_
    rw [upd_same, List.length_map, ht.len]
    rfl
def aGiven (n : Nat) (l : List Krae.Told) (a b c : Nat) : List Int := match Krae.fitBy n l with
  | [] => [-33]
  | x :: L => if (x :: L).any (fun s => Krae.of s c == 0) then [-62] else [((Krae.byAll (x :: L) (a &&& c) (b &&& c) : Nat) : Int)]
theorem ok_given {f : Addr} {fd : FuncData} (F : Fun K "given" "Session.given" s_m_given f fd) (T : Txt K mg C) (G : Gs mg) {f_is_set : Addr} {fd_is_set : FuncData} (O_is_set : FnOk P w K mg base CX0 1 f_is_set fd_is_set ["self", "chosen"] (spIsSet C)) (M_is_set : Meth K C "is_set" f_is_set) (B_is_set : Binds K fd_is_set ["self", "chosen"] []) {f_fitting : Addr} {fd_fitting : FuncData} (O_fitting : FnOk P w K mg base CX0 6 f_fitting fd_fitting ["self"] (spFits0 C)) (M_fitting : Meth K C "fitting" f_fitting) (B_fitting : Binds K fd_fitting ["self"] []) {f_some_have_none : Addr} {fd_some_have_none : FuncData} (O_some_have_none : FnOk P w K mg base CX0 2 f_some_have_none fd_some_have_none ["chosen", "fitting"] spNoneOf) (D_some_have_none : Df K mg "some_have_none" f_some_have_none fd_some_have_none ["chosen", "fitting"]) {f_told_by_all : Addr} {fd_told_by_all : FuncData} (O_told_by_all : FnOk P w K mg base CX0 3 f_told_by_all fd_told_by_all ["first", "second", "fitting"] spByAll) (D_told_by_all : Df K mg "told_by_all" f_told_by_all fd_told_by_all ["first", "second", "fitting"]) : FnOk P w K mg base CX0 7 f fd ["self", "first", "second", "within"] (spAsk3 C aGiven) := by
  refine F.ok sc_m_given (fun vs H Q E h => ?_) (fun cdv A outer s H vs Q E hr h => ?_)
  · obtain ⟨p, q, n, a, b, c, l, rfl, _⟩ := h
    rfl
  · obtain ⟨p, q, n, a, b, c, l, rfl, h0, S, k⟩ := h
    obtain ⟨dx, hp⟩ := S.obj
    refine ⟨_, (pss_cons (ps_if (pw_or (pt_not (pt_val (pe_meth (pv 0) T.cl M_is_set O_is_set (hr.mono (by decide)) B_is_set .nil pass0 (pa_cons (pv 1) pa_nil)))) (pw_or (pt_not (pt_val (pe_meth (pv 0) T.cl M_is_set O_is_set (hr.mono (by decide)) B_is_set .nil pass0 (pa_cons (pv 2) pa_nil)))) (pw_or1 (pt_not (pt_val (pe_meth (pv 0) T.cl M_is_set O_is_set (hr.mono (by decide)) B_is_set .nil pass0 (pa_cons (pv 3) pa_nil))))))).pt (pss_one (ps_ret (pe_lst (pa_cons (pgi G.NOT_RIGHT) pa_nil)))) pss_nil)
      (pss_cons (ps_set (i := 4) sc_m_given.nd rfl (Or.inl rfl) (pe_meth0 (pv 0) T.cl M_fitting O_fitting (hr.mono (by decide)) B_fitting .nil pass0))
      (pss_cons (ps_if (pt_cmpR op_eqn (pe_callB (lens (K := K)) (by rfl) G.len PySem.boot_len (pa_cons (pv 4) pa_nil)) pe_int (nomark _)) (pss_one (ps_ret (pe_lst (pa_cons (pgi G.NO_SHARES) pa_nil)))) pss_nil)
      (pss_cons (ps_if (pt_val (pe_call O_some_have_none (hr.mono (by decide)) rfl D_some_have_none.mg D_some_have_none.kp D_some_have_none.b .nil pass0 (pa_cons (pv 3) (pa_cons (pv 4) pa_nil)))) (pss_one (ps_ret (pe_lst (pa_cons (pgi G.MAY_HAVE_NONE) pa_nil)))) pss_nil)
      (pss_one (ps_ret (pe_lst (pa_cons (pe_call O_told_by_all (hr.mono (by decide)) rfl D_told_by_all.mg D_told_by_all.kp D_told_by_all.b .nil pass0 (pa_cons (pe_op op_andn (pv 1) (pv 3)) (pa_cons (pe_op op_andn (pv 2) (pv 3)) (pa_cons (pv 4) pa_nil)))) pa_nil)))))))), ?_⟩
    have no : (2 ^ n ≤ a ∨ 2 ^ n ≤ b ∨ 2 ^ n ≤ c) → 1 ≤ sizeLine ∧ ∀ r, H r = none → Q (.ref r) (upd H r (.lst [.int (-22)])) := fun h => ⟨by decide, fun r hr => by
      rw [if_pos h] at k
      exact k _ r (Same.new hr) hr upd_same⟩
    refine ⟨_, rfl, p, dx, _, rfl, hp, rfl, _, rfl, p, q, dx, n, a, rfl, S.n5, hp, _, rfl, ?_⟩
    refine ite2 (fun h' => iteT (no (.inl ?_))) (fun h' => ?_)
    · by_cases z : a < 2 ^ n
      · rw [decide_eq_true z] at h'; cases h'
      · omega
    refine ⟨_, rfl, p, dx, _, rfl, hp, rfl, _, rfl, p, q, dx, n, b, rfl, S.n5, hp, _, rfl, ?_⟩
    refine ite2 (fun h'' => iteT (no (.inr (.inl ?_)))) (fun h'' => ?_)
    · by_cases z : b < 2 ^ n
      · rw [decide_eq_true z] at h''; cases h''
      · omega
    refine ⟨_, rfl, p, dx, _, rfl, hp, rfl, _, rfl, p, q, dx, n, c, rfl, S.n5, hp, _, rfl, ?_⟩
    refine ite2 (fun h3 => no (.inr (.inr ?_))) (fun h3 => ?_)
    · by_cases z : c < 2 ^ n
      · rw [decide_eq_true z] at h3; cases h3
      · omega
    have hk : ¬ (2 ^ n ≤ a ∨ 2 ^ n ≤ b ∨ 2 ^ n ≤ c) := by
      rintro (z | z | z)
      · exact h' (by rw [decide_eq_false (by omega)]; rfl)
      · exact h'' (by rw [decide_eq_false (by omega)]; rfl)
      · exact h3 (by rw [decide_eq_false (by omega)]; rfl)
    rw [if_neg hk] at k
    refine ⟨_, rfl, p, dx, _, rfl, hp, rfl, p, q, n, l, rfl, h0, S, fun H1 r1 s1 _ ⟨as, sh⟩ => ?_⟩
    refine ⟨_, rfl, r1, _, rfl, .inl (SqL.of sh.lst), (Krae.fitBy n l).length, 0, by rw [List.length_map, sh.len], rfl, _, rfl, ?_⟩
    have hlen := fit_len h0 S.n5 l
    unfold aGiven at k
    cases hf : Krae.fitBy n l with
    | nil =>
      rw [hf] at k
      exact iteT ⟨by show 1 ≤ sizeLine; decide, fun r hr1 => k _ r (s1.trans (Same.new hr1)) (s1.free hr1) upd_same⟩
    | cons x L =>
      rw [hf] at k sh hlen
      refine ite2 (fun z => ?_) (fun _ => ?_)
      · have := of_decide_eq_true z
        rw [List.length_cons] at this
        omega
      refine ⟨_, rfl, _, rfl, c, r1, _, rfl, hlen, ⟨as, sh⟩, fun H2 s2 => ⟨_, rfl, ?_⟩⟩
      cases hh : (x :: L).any (fun s => Krae.of s c == 0) with
      | true =>
        simp only [hh, if_true] at k
        exact iteT ⟨by show 1 ≤ sizeLine; decide, fun r hr1 => k _ r ((s1.trans s2).trans (Same.new hr1)) ((s1.trans s2).free hr1) upd_same⟩
      | false =>
        simp only [hh, Bool.false_eq_true, if_false] at k
        refine iteF ⟨_, rfl, _, rfl, a, c, rfl, rfl, _, rfl, _, rfl, b, c, rfl, rfl, _, rfl, (a &&& c), (b &&& c), r1, _, rfl, ⟨as, sh.same s2⟩, fun H3 s3 => ⟨by show 1 ≤ sizeLine; decide, fun r hr1 => ?_⟩⟩
        exact k _ r (((s1.trans s2).trans s3).trans (Same.new hr1)) (((s1.trans s2).trans s3).free hr1) upd_same
def aChance (n : Nat) (l : List Krae.Told) (a : Nat) : List Int := if 2 ^ n ≤ a then [-22] else match Krae.fitBy n l with
  | [] => [-33]
  | x :: L => 0 :: [((Krae.leastForm (loOf ((x :: L).map (ch a))).1 (loOf ((x :: L).map (ch a))).2).1 : Int), ((Krae.leastForm (loOf ((x :: L).map (ch a))).1 (loOf ((x :: L).map (ch a))).2).2 : Int), ((Krae.leastForm (hiOf ((x :: L).map (ch a))).1 (hiOf ((x :: L).map (ch a))).2).1 : Int), ((Krae.leastForm (hiOf ((x :: L).map (ch a))).1 (hiOf ((x :: L).map (ch a))).2).2 : Int)]
theorem ok_chance {f : Addr} {fd : FuncData} (F : Fun K "chance" "Session.chance" s_m_chance f fd) (T : Txt K mg C) (G : Gs mg) {f_is_set : Addr} {fd_is_set : FuncData} (O_is_set : FnOk P w K mg base CX0 1 f_is_set fd_is_set ["self", "chosen"] (spIsSet C)) (M_is_set : Meth K C "is_set" f_is_set) (B_is_set : Binds K fd_is_set ["self", "chosen"] []) {f_fitting : Addr} {fd_fitting : FuncData} (O_fitting : FnOk P w K mg base CX0 6 f_fitting fd_fitting ["self"] (spFits0 C)) (M_fitting : Meth K C "fitting" f_fitting) (B_fitting : Binds K fd_fitting ["self"] []) {f_as_fraction : Addr} {fd_as_fraction : FuncData} (O_as_fraction : FnOk P w K mg base CX0 2 f_as_fraction fd_as_fraction ["chance"] spFraction) (D_as_fraction : Df K mg "as_fraction" f_as_fraction fd_as_fraction ["chance"]) {f_least_chance : Addr} {fd_least_chance : FuncData} (O_least_chance : FnOk P w K mg base CX0 3 f_least_chance fd_least_chance ["chosen", "fitting"] (spBound loOf)) (D_least_chance : Df K mg "least_chance" f_least_chance fd_least_chance ["chosen", "fitting"]) {f_greatest_chance : Addr} {fd_greatest_chance : FuncData} (O_greatest_chance : FnOk P w K mg base CX0 3 f_greatest_chance fd_greatest_chance ["chosen", "fitting"] (spBound hiOf)) (D_greatest_chance : Df K mg "greatest_chance" f_greatest_chance fd_greatest_chance ["chosen", "fitting"]) : FnOk P w K mg base CX0 7 f fd ["self", "chosen"] (spAsk1 C aChance) := by
  refine F.ok sc_m_chance (fun vs H Q E h => ?_) (fun cdv A outer s H vs Q E hr h => ?_)
  · obtain ⟨p, q, n, a, l, rfl, _⟩ := h
    rfl
  · obtain ⟨p, q, n, a, l, rfl, h0, S, k⟩ := h
    obtain ⟨dx, hp⟩ := S.obj
    refine ⟨_, (pss_cons (ps_if (pt_not (pt_val (pe_meth (pv 0) T.cl M_is_set O_is_set (hr.mono (by decide)) B_is_set .nil pass0 (pa_cons (pv 1) pa_nil)))) (pss_one (ps_ret (pe_lst (pa_cons (pgi G.NOT_RIGHT) pa_nil)))) pss_nil)
      (pss_cons (ps_set (i := 2) sc_m_chance.nd rfl (Or.inl rfl) (pe_meth0 (pv 0) T.cl M_fitting O_fitting (hr.mono (by decide)) B_fitting .nil pass0))
      (pss_cons (ps_if (pt_cmpR op_eqn (pe_callB (lens (K := K)) (by rfl) G.len PySem.boot_len (pa_cons (pv 2) pa_nil)) pe_int (nomark _)) (pss_one (ps_ret (pe_lst (pa_cons (pgi G.NO_SHARES) pa_nil)))) pss_nil)
      (pss_one (ps_ret (pe_op op_cat (pe_op op_cat (pe_lst (pa_cons pe_int pa_nil)) (pe_call O_as_fraction (hr.mono (by decide)) rfl D_as_fraction.mg D_as_fraction.kp D_as_fraction.b .nil pass0 (pa_cons (pe_call O_least_chance (hr.mono (by decide)) rfl D_least_chance.mg D_least_chance.kp D_least_chance.b .nil pass0 (pa_cons (pv 1) (pa_cons (pv 2) pa_nil))) pa_nil))) (pe_call O_as_fraction (hr.mono (by decide)) rfl D_as_fraction.mg D_as_fraction.kp D_as_fraction.b .nil pass0 (pa_cons (pe_call O_greatest_chance (hr.mono (by decide)) rfl D_greatest_chance.mg D_greatest_chance.kp D_greatest_chance.b .nil pass0 (pa_cons (pv 1) (pa_cons (pv 2) pa_nil))) pa_nil)))))))), ?_⟩
    unfold aChance at k
    refine ⟨_, rfl, p, dx, _, rfl, hp, rfl, _, rfl, p, q, dx, n, a, rfl, S.n5, hp, _, rfl, ?_⟩
    refine ite2 (fun h' => ⟨by decide, fun r hr => ?_⟩) (fun h' => ?_)
    · have z' : 2 ^ n ≤ a := by
        by_cases z : a < 2 ^ n
        · rw [decide_eq_true z] at h'; cases h'
        · omega
      rw [if_pos z'] at k
      exact k _ r (Same.new hr) hr upd_same
    have hk : ¬ 2 ^ n ≤ a := fun z => h' (by rw [decide_eq_false (by omega)]; rfl)
    rw [if_neg hk] at k
    refine ⟨_, rfl, p, dx, _, rfl, hp, rfl, p, q, n, l, rfl, h0, S, fun H1 r1 s1 _ ⟨as, sh⟩ => ?_⟩
    refine ⟨_, rfl, r1, _, rfl, .inl (SqL.of sh.lst), (Krae.fitBy n l).length, 0, by rw [List.length_map, sh.len], rfl, _, rfl, ?_⟩
    have ten : Ten (Krae.fitBy n l) := fun x hx => (rows_shape (List.mem_filter.mp hx).1).2
    cases hf : Krae.fitBy n l with
    | nil =>
      rw [hf] at k
      exact iteT ⟨by show 1 ≤ sizeLine; decide, fun r hr1 => k _ r (s1.trans (Same.new hr1)) (s1.free hr1) upd_same⟩
    | cons x L =>
      rw [hf] at k sh ten
      refine ite2 (fun z => ?_) (fun _ => ?_)
      · have := of_decide_eq_true z
        rw [List.length_cons] at this
        omega
      have tm := ten_map a ten (x :: L).length
      rw [List.take_length] at tm
      have t1 : 0 < (loOf ((x :: L).map (ch a))).2 ∧ (loOf ((x :: L).map (ch a))).2 ≤ 10 := loUp_ten (z := ch a x) (ten x (.head _)) tm
      have t2 : 0 < (hiOf ((x :: L).map (ch a))).2 ∧ (hiOf ((x :: L).map (ch a))).2 ≤ 10 := hiUp_ten (z := ch a x) (ten x (.head _)) tm
      refine ⟨by show 1 ≤ sizeLine; decide, fun z1 hz1 => ?_⟩
      have s2 := Same.new (o := .lst [V.int 0]) hz1
      refine ⟨_, rfl, _, rfl, a, r1, x, L, rfl, ten, ⟨as, sh.same s2⟩, fun H3 c3 s3 hc3 => ?_⟩
      refine ⟨c3, _, rfl, hc3, t1.1, t1.2, fun H4 f4 s4 _ hf4 => ?_⟩
      have s24 := (s2.trans s3).trans s4
      refine ⟨z1, f4, _, _, rfl, rfl, s4 _ _ (s3 _ _ upd_same), hf4, by show 1 + 2 ≤ sizeLine; decide, fun g hg => ?_⟩
      have s5 := s24.trans (Same.new (o := .lst ([V.int 0] ++ ns [(Krae.leastForm (loOf ((x :: L).map (ch a))).1 (loOf ((x :: L).map (ch a))).2).1, (Krae.leastForm (loOf ((x :: L).map (ch a))).1 (loOf ((x :: L).map (ch a))).2).2])) hg)
      refine ⟨_, rfl, _, rfl, a, r1, x, L, rfl, ten, ⟨as, sh.same s5⟩, fun H6 c6 s6 hc6 => ?_⟩
      refine ⟨c6, _, rfl, hc6, t2.1, t2.2, fun H7 f7 s7 _ hf7 => ?_⟩
      refine ⟨g, f7, _, _, rfl, rfl, s7 _ _ (s6 _ _ upd_same), hf7, by show 3 + 2 ≤ sizeLine; decide, fun r hr1 => ?_⟩
      have s17 := ((s1.trans s5).trans s6).trans s7
      exact k _ r (s17.trans (Same.new hr1)) (s17.free hr1) upd_same
def aSpare (n : Nat) (l : List Krae.Told) : List Int := if (Krae.fitBy n l).isEmpty then [-33] else listI ((List.range l.length).filter fun i => (Krae.fitBy n (l.eraseIdx i)).length == (Krae.fitBy n l).length)
theorem ok_spare {f : Addr} {fd : FuncData} (F : Fun K "spare" "Session.spare" s_m_spare f fd) (T : Txt K mg C) (G : Gs mg) {f_wrong_sets : Addr} {fd_wrong_sets : FuncData} (O_wrong_sets : FnOk P w K mg base CX0 5 f_wrong_sets fd_wrong_sets ["worlds", "told"] spWrongSets) (D_wrong_sets : Df K mg "wrong_sets" f_wrong_sets fd_wrong_sets ["worlds", "told"]) {f_some_fit : Addr} {fd_some_fit : FuncData} (O_some_fit : FnOk P w K mg base CX0 1 f_some_fit fd_some_fit ["wrong"] spSomeFit) (D_some_fit : Df K mg "some_fit" f_some_fit fd_some_fit ["wrong"]) {f_all_spare : Addr} {fd_all_spare : FuncData} (O_all_spare : FnOk P w K mg base CX0 1 f_all_spare fd_all_spare ["how_many", "wrong"] spAllSpare) (D_all_spare : Df K mg "all_spare" f_all_spare fd_all_spare ["how_many", "wrong"]) : FnOk P w K mg base CX0 6 f fd ["self"] (spAsk C aSpare) := by
  refine F.ok sc_m_spare (fun vs H Q E h => ?_) (fun cdv A outer s H vs Q E hr h => ?_)
  · obtain ⟨p, q, n, l, rfl, _⟩ := h
    rfl
  · obtain ⟨p, q, n, l, rfl, h0, S, k⟩ := h
    obtain ⟨dx, hp⟩ := S.obj
    refine ⟨_, (pss_cons (ps_set (i := 1) sc_m_spare.nd rfl (Or.inl rfl) (pe_call O_wrong_sets (hr.mono (by decide)) rfl D_wrong_sets.mg D_wrong_sets.kp D_wrong_sets.b .nil pass0 (pa_cons (pe_fld (pv 0) rfl) (pa_cons (pe_fld (pv 0) rfl) pa_nil))))
      (pss_cons (ps_if (pt_not (pt_val (pe_call O_some_fit (hr.mono (by decide)) rfl D_some_fit.mg D_some_fit.kp D_some_fit.b .nil pass0 (pa_cons (pv 1) pa_nil)))) (pss_one (ps_ret (pe_lst (pa_cons (pgi G.NO_SHARES) pa_nil)))) pss_nil)
      (pss_cons (ps_set (i := 2) sc_m_spare.nd rfl (Or.inl rfl) (pe_call O_all_spare (hr.mono (by decide)) rfl D_all_spare.mg D_all_spare.kp D_all_spare.b .nil pass0 (pa_cons (pe_callB (lens (K := K)) (by rfl) G.len PySem.boot_len (pa_cons (pe_fld (pv 0) rfl) pa_nil)) (pa_cons (pv 1) pa_nil))))
      (pss_one (ps_ret (pe_op op_cat (pe_lst (pa_cons (pe_callB (lens (K := K)) (by rfl) G.len PySem.boot_len (pa_cons (pv 2) pa_nil)) pa_nil)) (pv 2))))))), ?_⟩
    refine ⟨_, rfl, p, C, dx, _, _, rfl, hp, T.cl, T.nW, sf_w n q, _, rfl, p, C, dx, _, _, rfl, hp, T.cl, T.nT, sf_t n q, n, q, l, rfl, h0, S.n5, S.six, S.told, fun H1 p1 ws s1 hw hwl hp1 => ?_⟩
    refine ⟨_, rfl, p1, ws, rfl, hp1, _, rfl, ?_⟩
    unfold aSpare at k
    rw [fits_some hw]
    cases hh : (Krae.fitBy n l).isEmpty with
    | true =>
      rw [hh] at k
      exact iteT ⟨by show 1 ≤ sizeLine; decide, fun r hr1 => k _ r (s1.trans (Same.new hr1)) (s1.free hr1) upd_same⟩
    | false =>
      rw [hh] at k
      have S1 := S.same s1
      obtain ⟨dx1, hpp⟩ := S1.obj
      obtain ⟨ts, ht⟩ := S1.told
      refine iteF ⟨_, rfl, p, C, dx1, _, _, rfl, hpp, T.cl, T.nT, sf_t n q, q, _, rfl, .inl (SqL.of ht.lst), _, rfl, l.length, p1, ws, (by rw [List.length_map, ht.len]; rfl), S.six, hp1, fun H2 r2 s2 _ hr2 => ?_⟩
      rw [spares_ws hw] at hr2
      refine ⟨_, rfl, r2, _, rfl, .inl (SqL.of hr2), by show 1 ≤ sizeLine; decide, fun r3 hr3 => ?_⟩
      have s3 := Same.new (o := .lst [V.int (((ns ((List.range l.length).filter fun i => (Krae.fitBy n (l.eraseIdx i)).length == (Krae.fitBy n l).length)).length : Nat) : Int)]) hr3
      refine ⟨_, rfl, r3, r2, _, _, rfl, rfl, upd_same, s3 _ _ hr2, ?_, fun r hr4 => ?_⟩
      · rw [ns_length]
        have h1 := List.length_filter_le (fun i => (Krae.fitBy n (l.eraseIdx i)).length == (Krae.fitBy n l).length) (List.range l.length)
        rw [List.length_range] at h1
        have := S.six
        show 1 + _ ≤ sizeLine
        have : sizeLine = 16777216 := by decide
        omega
      · refine k _ r (((s1.trans s2).trans s3).trans (Same.new hr4)) (((s1.trans s2).trans s3).free hr4) ?_
        rw [upd_same, ns_length]
        rfl
def aClashes (n : Nat) (l : List Krae.Told) : List Int := if (Krae.fitBy n l).isEmpty then listI (Krae.House.mk n l).clashes else [-33]
theorem ok_clashes {f : Addr} {fd : FuncData} (F : Fun K "clashes" "Session.clashes" s_m_clashes f fd) (T : Txt K mg C) (G : Gs mg) {f_wrong_sets : Addr} {fd_wrong_sets : FuncData} (O_wrong_sets : FnOk P w K mg base CX0 5 f_wrong_sets fd_wrong_sets ["worlds", "told"] spWrongSets) (D_wrong_sets : Df K mg "wrong_sets" f_wrong_sets fd_wrong_sets ["worlds", "told"]) {f_some_fit : Addr} {fd_some_fit : FuncData} (O_some_fit : FnOk P w K mg base CX0 1 f_some_fit fd_some_fit ["wrong"] spSomeFit) (D_some_fit : Df K mg "some_fit" f_some_fit fd_some_fit ["wrong"]) {f_all_clashes : Addr} {fd_all_clashes : FuncData} (O_all_clashes : FnOk P w K mg base CX0 3 f_all_clashes fd_all_clashes ["how_many", "wrong"] spAllClashes) (D_all_clashes : Df K mg "all_clashes" f_all_clashes fd_all_clashes ["how_many", "wrong"]) : FnOk P w K mg base CX0 6 f fd ["self"] (spAsk C aClashes) := by
  refine F.ok sc_m_clashes (fun vs H Q E h => ?_) (fun cdv A outer s H vs Q E hr h => ?_)
  · obtain ⟨p, q, n, l, rfl, _⟩ := h
    rfl
  · obtain ⟨p, q, n, l, rfl, h0, S, k⟩ := h
    obtain ⟨dx, hp⟩ := S.obj
    refine ⟨_, (pss_cons (ps_set (i := 1) sc_m_clashes.nd rfl (Or.inl rfl) (pe_call O_wrong_sets (hr.mono (by decide)) rfl D_wrong_sets.mg D_wrong_sets.kp D_wrong_sets.b .nil pass0 (pa_cons (pe_fld (pv 0) rfl) (pa_cons (pe_fld (pv 0) rfl) pa_nil))))
      (pss_cons (ps_if (pt_val (pe_call O_some_fit (hr.mono (by decide)) rfl D_some_fit.mg D_some_fit.kp D_some_fit.b .nil pass0 (pa_cons (pv 1) pa_nil))) (pss_one (ps_ret (pe_lst (pa_cons (pgi G.SOME_SHARES) pa_nil)))) pss_nil)
      (pss_cons (ps_set (i := 2) sc_m_clashes.nd rfl (Or.inl rfl) (pe_call O_all_clashes (hr.mono (by decide)) rfl D_all_clashes.mg D_all_clashes.kp D_all_clashes.b .nil pass0 (pa_cons (pe_callB (lens (K := K)) (by rfl) G.len PySem.boot_len (pa_cons (pe_fld (pv 0) rfl) pa_nil)) (pa_cons (pv 1) pa_nil))))
      (pss_one (ps_ret (pe_op op_cat (pe_lst (pa_cons (pe_callB (lens (K := K)) (by rfl) G.len PySem.boot_len (pa_cons (pv 2) pa_nil)) pa_nil)) (pv 2))))))), ?_⟩
    refine ⟨_, rfl, p, C, dx, _, _, rfl, hp, T.cl, T.nW, sf_w n q, _, rfl, p, C, dx, _, _, rfl, hp, T.cl, T.nT, sf_t n q, n, q, l, rfl, h0, S.n5, S.six, S.told, fun H1 p1 ws s1 hw hwl hp1 => ?_⟩
    refine ⟨_, rfl, p1, ws, rfl, hp1, _, rfl, ?_⟩
    unfold aClashes at k
    rw [fits_some hw]
    cases hh : (Krae.fitBy n l).isEmpty with
    | false =>
      rw [hh] at k
      exact iteT ⟨by show 1 ≤ sizeLine; decide, fun r hr1 => k _ r (s1.trans (Same.new hr1)) (s1.free hr1) upd_same⟩
    | true =>
      rw [hh] at k
      have S1 := S.same s1
      obtain ⟨dx1, hpp⟩ := S1.obj
      obtain ⟨ts, ht⟩ := S1.told
      refine iteF ⟨_, rfl, p, C, dx1, _, _, rfl, hpp, T.cl, T.nT, sf_t n q, q, _, rfl, .inl (SqL.of ht.lst), _, rfl, l.length, p1, ws, (by rw [List.length_map, ht.len]; rfl), S.six, hwl, hp1, fun H2 r2 s2 _ hr2 => ?_⟩
      have hcl : ((Krae.House.mk n l).clashes).length ≤ 64 := by
        rw [clashes_ws hw]
        refine Nat.le_trans (List.length_filter_le _ _) ?_
        rw [List.length_range]
        exact Nat.pow_le_pow_right (by decide : 0 < 2) S.six
      rw [← clashes_ws hw] at hr2
      refine ⟨_, rfl, r2, _, rfl, .inl (SqL.of hr2), by show 1 ≤ sizeLine; decide, fun r3 hr3 => ?_⟩
      have s3 := Same.new (o := .lst [V.int (((ns (Krae.House.mk n l).clashes).length : Nat) : Int)]) hr3
      refine ⟨_, rfl, r3, r2, _, _, rfl, rfl, upd_same, s3 _ _ hr2, ?_, fun r hr4 => ?_⟩
      · rw [ns_length]
        show 1 + _ ≤ sizeLine
        have : sizeLine = 16777216 := by decide
        omega
      · refine k _ r (((s1.trans s2).trans s3).trans (Same.new hr4)) (((s1.trans s2).trans s3).free hr4) ?_
        rw [upd_same, ns_length]
        rfl
def aWhole (n : Nat) (l : List Krae.Told) : List Int := [if (Krae.disjoint n).all (fun x => decide (0 < Krae.get n (Krae.relOf n l) x.1 x.2) || decide (0 < Krae.get n (Krae.relOf n l) x.2 x.1)) then 1 else 0]
theorem ok_mwhole {f : Addr} {fd : FuncData} (F : Fun K "whole" "Session.whole" s_m_whole f fd) (T : Txt K mg C) (G : Gs mg) {f_table : Addr} {fd_table : FuncData} (O_table : FnOk P w K mg base CX0 5 f_table fd_table ["self"] (spTable C)) (M_table : Meth K C "table" f_table) (B_table : Binds K fd_table ["self"] []) {f_is_whole : Addr} {fd_is_whole : FuncData} (O_is_whole : FnOk P w K mg base CX0 2 f_is_whole fd_is_whole ["table"] spWhole) (D_is_whole : Df K mg "is_whole" f_is_whole fd_is_whole ["table"]) : FnOk P w K mg base CX0 6 f fd ["self"] (spAsk C aWhole) := by
  refine F.ok sc_m_whole (fun vs H Q E h => ?_) (fun cdv A outer s H vs Q E hr h => ?_)
  · obtain ⟨p, q, n, l, rfl, _⟩ := h
    rfl
  · obtain ⟨p, q, n, l, rfl, h0, S, k⟩ := h
    obtain ⟨dx, hp⟩ := S.obj
    refine ⟨_, (pss_one (ps_ret (pe_lst (pa_cons (pe_ifExp (pt_val (pe_call O_is_whole (hr.mono (by decide)) rfl D_is_whole.mg D_is_whole.kp D_is_whole.b .nil pass0 (pa_cons (pe_meth0 (pv 0) T.cl M_table O_table (hr.mono (by decide)) B_table .nil pass0) pa_nil))) pe_int pe_int) pa_nil)))), ?_⟩
    refine ⟨_, rfl, p, dx, _, rfl, hp, rfl, p, q, n, l, rfl, h0, S, fun H1 r1 s1 t1 => ?_⟩
    refine ⟨r1, n, _, rfl, S.n5, t1, fun H2 s2 => ⟨_, rfl, ?_⟩⟩
    unfold aWhole at k
    cases hh : (Krae.disjoint n).all (fun x => decide (0 < Krae.get n (Krae.relOf n l) x.1 x.2) || decide (0 < Krae.get n (Krae.relOf n l) x.2 x.1)) with
    | true =>
      rw [hh] at k
      exact iteT ⟨by show 1 ≤ sizeLine; decide, fun r hr1 => k _ r ((s1.trans s2).trans (Same.new hr1)) ((s1.trans s2).free hr1) upd_same⟩
    | false =>
      rw [hh] at k
      exact iteF ⟨by show 1 ≤ sizeLine; decide, fun r hr1 => k _ r ((s1.trans s2).trans (Same.new hr1)) ((s1.trans s2).free hr1) upd_same⟩
def alikeL (n : Nat) (l : List Krae.Told) : List (Nat × Nat) := (Krae.disjoint n).filter fun x => decide (x.1 < x.2) && (Krae.get n (Krae.relOf n l) x.1 x.2 == 1 && Krae.get n (Krae.relOf n l) x.2 x.1 == 1)
def flat2 (L : List (Nat × Nat)) : List Int := L.flatMap fun x => [(x.1 : Int), (x.2 : Int)]
theorem flat2_len (L : List (Nat × Nat)) : (flat2 L).length = 2 * L.length := by
  unfold flat2
  induction L with
  | nil => rfl
  | cons x L ih =>
    rw [List.flatMap_cons, List.length_append, ih]
    show 2 + 2 * L.length = 2 * (L.length + 1)
    omega
def aAlike (n : Nat) (l : List Krae.Told) : List Int := ((alikeL n l).length : Int) :: flat2 (alikeL n l)
theorem ok_malike {f : Addr} {fd : FuncData} (F : Fun K "alike" "Session.alike" s_m_alike f fd) (T : Txt K mg C) (G : Gs mg) {f_table : Addr} {fd_table : FuncData} (O_table : FnOk P w K mg base CX0 5 f_table fd_table ["self"] (spTable C)) (M_table : Meth K C "table" f_table) (B_table : Binds K fd_table ["self"] []) {f_alike_pairs : Addr} {fd_alike_pairs : FuncData} (O_alike_pairs : FnOk P w K mg base CX0 2 f_alike_pairs fd_alike_pairs ["table"] spAlikes) (D_alike_pairs : Df K mg "alike_pairs" f_alike_pairs fd_alike_pairs ["table"]) : FnOk P w K mg base CX0 6 f fd ["self"] (spAsk C aAlike) := by
  refine F.ok sc_m_alike (fun vs H Q E h => ?_) (fun cdv A outer s H vs Q E hr h => ?_)
  · obtain ⟨p, q, n, l, rfl, _⟩ := h
    rfl
  · obtain ⟨p, q, n, l, rfl, h0, S, k⟩ := h
    obtain ⟨dx, hp⟩ := S.obj
    refine ⟨_, (pss_cons (ps_set (i := 1) sc_m_alike.nd rfl (Or.inl rfl) (pe_call O_alike_pairs (hr.mono (by decide)) rfl D_alike_pairs.mg D_alike_pairs.kp D_alike_pairs.b .nil pass0 (pa_cons (pe_meth0 (pv 0) T.cl M_table O_table (hr.mono (by decide)) B_table .nil pass0) pa_nil)))
      (pss_cons (ps_set (i := 2) sc_m_alike.nd rfl (Or.inl rfl) (pe_lst (pa_cons (pe_callB (lens (K := K)) (by rfl) G.len PySem.boot_len (pa_cons (pv 1) pa_nil)) pa_nil)))
      (pss_cons (ps_for PassesOwn.never rfl (pi_list (pv 1)) (pg_name (i := 3) sc_m_alike.nd rfl (Or.inl rfl))
        (pss_one (ps_expr (pe_bm PySem.F.plainAttrs_list PySem.F.slot_list_extend PySem.F.type_list_extend mt_extend (pv 2) (pa_cons (pe_callTy call_list_of rfl G.list boot_list (pa_cons (pv 3) pa_nil)) pa_nil)))))
      (pss_one (ps_ret (pv 2)))))), ?_⟩
    refine ⟨_, rfl, p, dx, _, rfl, hp, rfl, p, q, n, l, rfl, h0, S, fun H1 r1 s1 t1 => ?_⟩
    refine ⟨r1, n, _, rfl, S.n5, t1, fun H2 r2 s2 hr2 ⟨as, pr⟩ => ?_⟩
    have pr' : PrA H2 r2 as (alikeL n l) := pr
    have hlen : (alikeL n l).length ≤ 1024 := Nat.le_trans (List.length_filter_le _ _) (dj_len S.n5)
    refine ⟨_, rfl, r2, _, rfl, .inl (SqL.of pr'.lst), by show 1 ≤ sizeLine; decide, fun D hD => ?_⟩
    rw [List.length_map, pr'.len]
    have hsl : sizeLine = 16777216 := by decide
    have s3 := Same.new (o := .lst [V.int ((alikeL n l).length : Int)]) hD
    have s13 := s1.trans s2
    have hDr : r2 ≠ D := ne_of_none pr'.lst hD
    refine ⟨_, rfl, r2, rfl, ⟨_, SqL.of (s3 _ _ pr'.lst)⟩, for_list (K := K) (a := r2) (xs := as.map V.ref) (fun i σ H4 => ∃ v3 : Option V, σ = [some (.ref p), some (.ref r2), some (.ref D), v3] ∧ i ≤ (alikeL n l).length ∧ Same H2 H4 ∧ H4 D = some (.lst ((((alikeL n l).length : Int) :: flat2 ((alikeL n l).take i)).map V.int)))
      ⟨none, rfl, Nat.zero_le _, s3, upd_same⟩ (fun i σ H4 _ ⟨_, _, _, s4, _⟩ => SqL.of (s4 _ _ pr'.lst)) ?_ ?_⟩
    · rintro i y σ H4 hi ⟨v3, rfl, hil, s4, hd⟩
      obtain ⟨ta, x, rfl, hx, htu⟩ := (pr'.same s4).get hi
      have hil2 : i < (alikeL n l).length := (List.getElem?_eq_some_iff.mp hx).1
      refine ⟨_, rfl, .inl ⟨rfl, _, SqL.of hd⟩, _, rfl, ta, _, rfl, .inr (SqT.of htu), fun u hu => ?_⟩
      have s5 := Same.new (o := .lst [V.int (x.1 : Nat), V.int (x.2 : Nat)]) hu
      refine ⟨D, u, _, _, rfl, rfl, s5 _ _ hd, upd_same, ?_, ?_⟩
      · rw [List.length_map, List.length_cons, flat2_len, List.length_take]
        show _ + 2 ≤ sizeLine
        omega
      · refine ⟨_, rfl, hil2, Same.put (s4.trans s5) hD, ?_⟩
        rw [upd_same, take_snoc hx]
        have e : flat2 (List.take i (alikeL n l) ++ [x]) = flat2 (List.take i (alikeL n l)) ++ [(x.1 : Int), (x.2 : Int)] := by
          unfold flat2
          rw [List.flatMap_append]
          rfl
        rw [e]
        simp
    · rintro σ H4 ⟨v3, rfl, hil, s4, hd⟩
      rw [List.length_map, pr'.len, List.take_length] at hd
      exact ⟨_, rfl, k H4 D (s13.trans s4) (s13.free hD) hd⟩
def beyondL (n : Nat) (l : List Krae.Told) : List (Nat × Nat) := (Krae.disjoint n).filter fun x => decide (Krae.get n (Krae.relOf n l) x.1 x.2 < Krae.byAll (Krae.fitBy n l) x.1 x.2)
def aBeyond (n : Nat) (l : List Krae.Told) : List Int := match Krae.fitBy n l with
  | [] => [-33]
  | _ :: _ => match beyondL n l with
    | [] => [0]
    | x :: r => [((r.length + 1 : Nat) : Int), (x.1 : Int), (x.2 : Int)]
theorem ok_mbeyond {f : Addr} {fd : FuncData} (F : Fun K "beyond" "Session.beyond" s_m_beyond f fd) (T : Txt K mg C) (G : Gs mg) {f_fitting : Addr} {fd_fitting : FuncData} (O_fitting : FnOk P w K mg base CX0 6 f_fitting fd_fitting ["self"] (spFits0 C)) (M_fitting : Meth K C "fitting" f_fitting) (B_fitting : Binds K fd_fitting ["self"] []) {f_table : Addr} {fd_table : FuncData} (O_table : FnOk P w K mg base CX0 5 f_table fd_table ["self"] (spTable C)) (M_table : Meth K C "table" f_table) (B_table : Binds K fd_table ["self"] []) {f_beyond_pairs : Addr} {fd_beyond_pairs : FuncData} (O_beyond_pairs : FnOk P w K mg base CX0 5 f_beyond_pairs fd_beyond_pairs ["table", "fitting"] spBeyonds) (D_beyond_pairs : Df K mg "beyond_pairs" f_beyond_pairs fd_beyond_pairs ["table", "fitting"]) : FnOk P w K mg base CX0 7 f fd ["self"] (spAsk C aBeyond) := by
  refine F.ok sc_m_beyond (fun vs H Q E h => ?_) (fun cdv A outer s H vs Q E hr h => ?_)
  · obtain ⟨p, q, n, l, rfl, _⟩ := h
    rfl
  · obtain ⟨p, q, n, l, rfl, h0, S, k⟩ := h
    obtain ⟨dx, hp⟩ := S.obj
    refine ⟨_, (pss_cons (ps_set (i := 1) sc_m_beyond.nd rfl (Or.inl rfl) (pe_meth0 (pv 0) T.cl M_fitting O_fitting (hr.mono (by decide)) B_fitting .nil pass0))
      (pss_cons (ps_if (pt_cmpR op_eqn (pe_callB (lens (K := K)) (by rfl) G.len PySem.boot_len (pa_cons (pv 1) pa_nil)) pe_int (nomark _)) (pss_one (ps_ret (pe_lst (pa_cons (pgi G.NO_SHARES) pa_nil)))) pss_nil)
      (pss_cons (ps_set (i := 2) sc_m_beyond.nd rfl (Or.inl rfl) (pe_call O_beyond_pairs (hr.mono (by decide)) rfl D_beyond_pairs.mg D_beyond_pairs.kp D_beyond_pairs.b .nil pass0 (pa_cons (pe_meth0 (pv 0) T.cl M_table O_table (hr.mono (by decide)) B_table .nil pass0) (pa_cons (pv 1) pa_nil))))
      (pss_cons (ps_if (pt_cmpR op_eqn (pe_callB (lens (K := K)) (by rfl) G.len PySem.boot_len (pa_cons (pv 2) pa_nil)) pe_int (nomark _)) (pss_one (ps_ret (pe_lst (pa_cons pe_int pa_nil)))) pss_nil)
      (pss_one (ps_ret (pe_op op_cat (pe_lst (pa_cons (pe_callB (lens (K := K)) (by rfl) G.len PySem.boot_len (pa_cons (pv 2) pa_nil)) pa_nil)) (pe_callTy call_list_of rfl G.list boot_list (pa_cons (pe_ix (ixl (K := K)) (pv 2) pe_int (fun _ _ => rfl)) pa_nil))))))))), ?_⟩
    refine ⟨_, rfl, p, dx, _, rfl, hp, rfl, p, q, n, l, rfl, h0, S, fun H1 r1 s1 _ ⟨as, sh⟩ => ?_⟩
    refine ⟨_, rfl, r1, _, rfl, .inl (SqL.of sh.lst), (Krae.fitBy n l).length, 0, by rw [List.length_map, sh.len], rfl, _, rfl, ?_⟩
    unfold aBeyond at k
    have S1 := S.same s1
    obtain ⟨dx1, hpp⟩ := S1.obj
    refine ite2 (fun z => ?_) (fun z => ?_)
    · have e : Krae.fitBy n l = [] := List.length_eq_zero_iff.mp (of_decide_eq_true z)
      rw [e] at k
      exact ⟨by show 1 ≤ sizeLine; decide, fun r hr1 => k _ r (s1.trans (Same.new hr1)) (s1.free hr1) upd_same⟩
    · have k' : Says H Q (match beyondL n l with
          | [] => [0]
          | x :: r => [((r.length + 1 : Nat) : Int), (x.1 : Int), (x.2 : Int)]) := by
        cases hf : Krae.fitBy n l with
        | nil => exact absurd (decide_eq_true (by rw [hf]; rfl)) z
        | cons x L => rw [hf] at k; exact k
      refine ⟨_, rfl, p, dx1, _, rfl, hpp, rfl, p, q, n, l, rfl, h0, S1, fun H2 r2 s2 t2 => ?_⟩
      refine ⟨_, rfl, r2, r1, n, _, Krae.fitBy n l, rfl, S.n5, t2, ⟨as, sh.same s2⟩, fun H3 r3 s3 _ ⟨bs, pr⟩ => ?_⟩
      have pr' : PrA H3 r3 bs (beyondL n l) := pr
      have s13 := (s1.trans s2).trans s3
      refine ⟨_, rfl, r3, _, rfl, .inl (SqL.of pr'.lst), (beyondL n l).length, 0, by rw [List.length_map, pr'.len], rfl, _, rfl, ?_⟩
      cases hb : beyondL n l with
      | nil =>
        rw [hb] at k'
        exact iteT ⟨by show 1 ≤ sizeLine; decide, fun r hr1 => k' _ r (s13.trans (Same.new hr1)) (s13.free hr1) upd_same⟩
      | cons x L =>
        rw [hb] at k' pr'
        refine ite2 (fun z => ?_) (fun _ => ?_)
        · have := of_decide_eq_true z
          rw [List.length_cons] at this
          omega
        obtain ⟨b0, hb0⟩ : ∃ b0, bs[0]? = some b0 := ⟨_, List.getElem?_eq_getElem (by rw [pr'.len, List.length_cons]; omega)⟩
        have htu := pr'.one 0 b0 x hb0 rfl
        have hm0 : (bs.map V.ref)[0]? = some (V.ref b0) := by rw [List.getElem?_map, hb0]; rfl
        refine ⟨_, rfl, r3, _, rfl, .inl (SqL.of pr'.lst), by show 1 ≤ sizeLine; decide, fun z1 hz1 => ?_⟩
        have s4 := Same.new (o := .lst [V.int (((bs.map V.ref).length : Nat) : Int)]) hz1
        refine ⟨_, rfl, r3, _, _, _, rfl, rfl, SqL.of (s4 _ _ pr'.lst), atI_nat (j := 0) hm0, b0, _, rfl, .inr (SqT.of (s4 _ _ htu)), fun z2 hz2 => ?_⟩
        have s5 := Same.new (o := .lst [V.int (x.1 : Nat), V.int (x.2 : Nat)]) hz2
        refine ⟨z1, z2, _, _, rfl, rfl, s5 _ _ upd_same, upd_same, by show 1 + 2 ≤ sizeLine; decide, fun r hr1 => ?_⟩
        refine k' _ r (((s13.trans s4).trans s5).trans (Same.new hr1)) (((s13.trans s4).trans s5).free hr1) ?_
        rw [upd_same, List.length_map, pr'.len]
        rfl
def aSettled (n : Nat) (l : List Krae.Told) (t : Nat) : List Int := match l[t]? with
  | none => [-2]
  | some x => [if toldBy (Krae.get n (Krae.relOf n (l.eraseIdx t))) x then 1 else 0]
theorem ok_settled {f : Addr} {fd : FuncData} (F : Fun K "settled" "Session.settled" s_m_settled f fd) (T : Txt K mg C) (G : Gs mg) {f_is_told_by : Addr} {fd_is_told_by : FuncData} (O_is_told_by : FnOk P w K mg base CX0 1 f_is_told_by fd_is_told_by ["table", "one"] spToldBy) (D_is_told_by : Df K mg "is_told_by" f_is_told_by fd_is_told_by ["table", "one"]) {f_table_by_rules : Addr} {fd_table_by_rules : FuncData} (O_table_by_rules : FnOk P w K mg base CX0 4 f_table_by_rules fd_table_by_rules ["worlds", "told"] spRules) (D_table_by_rules : Df K mg "table_by_rules" f_table_by_rules fd_table_by_rules ["worlds", "told"]) : FnOk P w K mg base CX0 5 f fd ["self", "number"] (spAsk1 C aSettled) := by
  refine F.ok sc_m_settled (fun vs H Q E h => ?_) (fun cdv A outer s H vs Q E hr h => ?_)
  · obtain ⟨p, q, n, t, l, rfl, _⟩ := h
    rfl
  · obtain ⟨p, q, n, t, l, rfl, h0, S, k⟩ := h
    obtain ⟨dx, hp⟩ := S.obj
    obtain ⟨ts, ht⟩ := S.told
    have h6 := S.six
    have hsl : sizeLine = 16777216 := by decide
    refine ⟨_, (pss_cons (ps_if (pt_cmpR op_ge (pv 1) (pe_callB (lens (K := K)) (by rfl) G.len PySem.boot_len (pa_cons (pe_fld (pv 0) rfl) pa_nil)) (nomark _)) (pss_one (ps_ret (pe_lst (pa_cons (pgi G.NONE_SUCH) pa_nil)))) pss_nil)
      (pss_cons (ps_set (i := 2) sc_m_settled.nd rfl (Or.inl rfl) (pe_op op_cat (pe_slice (sls (K := K)) (pe_fld (pv 0) rfl) po_none (po_some (pv 1))) (pe_slice (sls (K := K)) (pe_fld (pv 0) rfl) (po_some (pe_op op_addn (pv 1) pe_int)) po_none)))
      (pss_one (ps_ret (pe_lst (pa_cons (pe_ifExp (pt_val (pe_call O_is_told_by (hr.mono (by decide)) rfl D_is_told_by.mg D_is_told_by.kp D_is_told_by.b .nil pass0 (pa_cons (pe_call O_table_by_rules (hr.mono (by decide)) rfl D_table_by_rules.mg D_table_by_rules.kp D_table_by_rules.b .nil pass0 (pa_cons (pe_fld (pv 0) rfl) (pa_cons (pv 2) pa_nil))) (pa_cons (pe_ix (ixl (K := K)) (pe_fld (pv 0) rfl) (pv 1) (fun _ _ => rfl)) pa_nil)))) pe_int pe_int) pa_nil)))))), ?_⟩
    refine ⟨_, rfl, _, rfl, p, C, dx, _, _, rfl, hp, T.cl, T.nT, sf_t n q, q, _, rfl, .inl (SqL.of ht.lst), _, _, rfl, rfl, _, rfl, ?_⟩
    rw [List.length_map, ht.len]
    unfold aSettled at k
    refine ite2 (fun h => ⟨by decide, fun r hr => ?_⟩) (fun h => ?_)
    · have : l.length ≤ t := by have := of_decide_eq_true h; omega
      rw [List.getElem?_eq_none this] at k
      exact k _ r (Same.new hr) hr upd_same
    · have hlt : t < l.length := by
        rcases Nat.lt_or_ge t l.length with z | z
        · exact z
        · exact absurd (decide_eq_true (by omega)) h
      have htl : ts.length = l.length := ht.len
      rw [List.getElem?_eq_getElem hlt] at k
      refine ⟨_, rfl, p, C, dx, _, _, rfl, hp, T.cl, T.nT, sf_t n q, _, rfl, _, rfl, q, _, rfl, SqL.of ht.lst, fun z1 hz1 => ?_⟩
      rw [cut_lo (by omega)]
      have s1 := Same.new (o := .lst ((ts.take t).map V.ref)) hz1
      refine ⟨_, rfl, p, C, dx, _, _, rfl, s1 _ _ hp, T.cl, T.nT, sf_t n q, _, rfl, t, 1, rfl, rfl, _, rfl, q, _, rfl, SqL.of (s1 _ _ ht.lst), fun z2 hz2 => ?_⟩
      rw [cut_hi (by omega)]
      have s2 := s1.trans (Same.new (o := .lst ((ts.drop (t + 1)).map V.ref)) hz2)
      have hz1' : (upd (upd H z1 (.lst ((ts.take t).map V.ref))) z2 (.lst ((ts.drop (t + 1)).map V.ref))) z1 = some (.lst ((ts.take t).map V.ref)) := Same.new hz2 _ _ upd_same
      refine ⟨z1, z2, _, _, rfl, rfl, hz1', upd_same, ?_, fun z3 hz3 => ?_⟩
      · rw [List.length_map, List.length_map, List.length_take, List.length_drop]
        omega
      have s3 := s2.trans (Same.new (o := .lst ((ts.take t).map V.ref ++ (ts.drop (t + 1)).map V.ref)) hz3)
      have ht3 := erase_cut (r := z3) (ht.same s3) t upd_same
      have hsets : Sets n (l.eraseIdx t) := fun o ho => S.sets o ((List.eraseIdx_sublist l t).mem ho)
      refine ⟨_, rfl, p, C, dx, _, _, rfl, s3 _ _ hp, T.cl, T.nW, sf_w n q, _, rfl, n, z3, l.eraseIdx t, rfl, S.n5, ⟨_, ht3⟩, hsets, fun H4 r4 g s4 ⟨bs, t4⟩ hg => ?_⟩
      have s34 := s3.trans s4
      obtain ⟨ta, hta⟩ : ∃ y, ts[t]? = some y := ⟨_, List.getElem?_eq_getElem (by omega)⟩
      have hm : (ts.map V.ref)[t]? = some (V.ref ta) := by rw [List.getElem?_map, hta]; rfl
      have htu := ht.one t ta _ hta (List.getElem?_eq_getElem hlt)
      have hs := S.sets _ (List.getElem_mem hlt)
      refine ⟨_, rfl, p, C, dx, _, _, rfl, s34 _ _ hp, T.cl, T.nT, sf_t n q, _, rfl, q, _, _, _, rfl, rfl, SqL.of (s34 _ _ ht.lst), atI_nat hm, r4, ta, 2 ^ n, Krae.get n (Krae.relOf n (l.eraseIdx t)), _, rfl, ⟨bs, t4.congr fun a b ha hb => rules_eq S.n5 hsets hg ha hb⟩, hs.1, hs.2, s34 _ _ htu, _, rfl, ?_⟩
      cases hh : toldBy (Krae.get n (Krae.relOf n (l.eraseIdx t))) l[t] with
      | true =>
        simp only [hh, if_true] at k
        exact iteT ⟨by show 1 ≤ sizeLine; decide, fun r hr1 => k _ r (s34.trans (Same.new hr1)) (s34.free hr1) upd_same⟩
      | false =>
        simp only [hh, Bool.false_eq_true, if_false] at k
        exact iteF ⟨by show 1 ≤ sizeLine; decide, fun r hr1 => k _ r (s34.trans (Same.new hr1)) (s34.free hr1) upd_same⟩
end
end Lk
end
section
set_option Elab.async false
set_option linter.all false
set_option maxRecDepth 100000
set_option maxHeartbeats 4000000
namespace Lk
open PySem PySem.Spec PyProof.Rows L2
abbrev s_end_of_call : Stmt := top 90
theorem sc_end_of_call : FnScope ["calls", "start", "number"] ["calls", "start"] (defScope s_end_of_call) := ⟨rfl, rfl, rfl, by decide +kernel, rfl, by decide +kernel, by decide +kernel⟩
def zs (x : List Nat) : List Int := x.map fun (n : Nat) => (n : Int)
theorem ns_zs (x : List Nat) : ns x = (zs x).map V.int := rfl
theorem zs_length (x : List Nat) : (zs x).length = x.length := List.length_map _
def hmL : List Nat := [1, 3, 1, 0, 0, 0, 0, 0, 2, 2, 0, 0, 0, 1, 3, 0, 0, 0, 1, 1, 0]
def hm (k : Nat) : Nat := hmL.getD k 0
theorem shape_lt : ∀ k : Nat, k < 21 → ¬ (k = 6 ∨ k = 7) → PyKrae.shape (k : Int) = some (hm k, 0) := by decide +kernel
theorem shape_ge {k : Nat} (h : 21 ≤ k) : PyKrae.shape (k : Int) = none := by
  unfold PyKrae.shape
  repeat rw [if_neg (by omega)]
def rawOf (k : Nat) (nl : List Nat) : List (List Int) := if k = 6 ∨ k = 7 then [[(k : Int)], zs nl.tail] else [zs (k :: nl)]
def Fits (k : Nat) (nl : List Nat) : Prop := if k = 6 ∨ k = 7 then ∃ x : List Nat, nl = x.length :: x else nl.length = hm k
theorem call_cons (p : Int) (r : List Int) : PyFlat.call PyKrae.shape (p :: r) = (match PyKrae.shape p with
    | none => none
    | some (n, j) => if r.length < n then none else match PyFlat.rows j (r.drop n) with
      | none => none
      | some (xs, t) => some ((p :: r.take n) :: xs, t)) := rfl
theorem call_parse {ks : List Nat} {c : List (List Int)} {t : List Int} (h : PyFlat.call PyKrae.shape (zs ks) = some (c, t)) :
    ∃ (k : Nat) (r : List Nat) (e : Nat), ks = k :: r ∧ k < 21 ∧ e ≤ r.length ∧ c = rawOf k (r.take e) ∧ t = zs (r.drop e) ∧ Fits k (r.take e) ∧ (if k = 6 ∨ k = 7 then ∃ m, r[0]? = some m ∧ e = 1 + m else e = hm k) := by
  cases ks with
  | nil => simp [zs, PyFlat.call] at h
  | cons k r =>
    by_cases h21 : 21 ≤ k
    · have h' : PyFlat.call PyKrae.shape ((k : Int) :: zs r) = some (c, t) := h
      rw [call_cons] at h'
      rw [shape_ge h21] at h'
      cases h'
    · by_cases h67 : k = 6 ∨ k = 7
      · have hs : PyKrae.shape (k : Int) = some (0, 1) := by rcases h67 with rfl | rfl <;> rfl
        have h' : PyFlat.call PyKrae.shape ((k : Int) :: zs r) = some (c, t) := h
        rw [call_cons] at h'
        rw [hs] at h'
        cases r with
        | nil => simp [zs, PyFlat.rows, PyFlat.row] at h'
        | cons m r' =>
          have e1 : zs (m :: r') = (m : Int) :: zs r' := rfl
          simp only [List.drop_zero, PyFlat.rows, e1, PyFlat.row, List.length_cons, Nat.not_lt_zero, if_false] at h'
          by_cases hml : m ≤ r'.length
          · rw [if_pos ⟨by omega, by rw [Int.toNat_natCast, zs_length]; exact hml⟩] at h'
            simp only [Int.toNat_natCast, Option.some.injEq, Prod.mk.injEq] at h'
            have et : (m :: r').take (1 + m) = m :: r'.take m := by rw [Nat.add_comm, List.take_succ_cons]
            have ed : (m :: r').drop (1 + m) = r'.drop m := by rw [Nat.add_comm, List.drop_succ_cons]
            refine ⟨k, m :: r', 1 + m, rfl, by omega, by rw [List.length_cons]; omega, ?_, ?_, ?_, ?_⟩
            · rw [← h'.1, et]
              unfold rawOf
              rw [if_pos h67]
              show _ = [[(k : Int)], zs (r'.take m)]
              unfold zs
              rw [List.map_take]
              rfl
            · rw [← h'.2, ed]
              unfold zs
              rw [List.map_drop]
            · unfold Fits
              rw [if_pos h67, et]
              exact ⟨r'.take m, by rw [List.length_take, Nat.min_eq_left hml]⟩
            · rw [if_pos h67]
              exact ⟨m, rfl, rfl⟩
          · rw [if_neg (by rw [Int.toNat_natCast, zs_length]; omega)] at h'
            cases h'
      · have hs := shape_lt k (by omega) h67
        have h' : PyFlat.call PyKrae.shape ((k : Int) :: zs r) = some (c, t) := h
        rw [call_cons] at h'
        rw [hs] at h'
        simp only [PyFlat.rows] at h'
        by_cases hl : (zs r).length < hm k
        · rw [if_pos hl] at h'
          cases h'
        · rw [if_neg hl] at h'
          rw [zs_length] at hl
          simp only [Option.some.injEq, Prod.mk.injEq] at h'
          refine ⟨k, r, hm k, rfl, by omega, by omega, ?_, ?_, ?_, ?_⟩
          · rw [← h'.1]
            unfold rawOf
            rw [if_neg h67]
            unfold zs
            rw [List.map_cons, List.map_take]
          · rw [← h'.2]
            unfold zs
            rw [List.map_drop]
          · unfold Fits
            rw [if_neg h67, List.length_take, Nat.min_eq_left (by omega)]
          · rw [if_neg h67]
theorem calls_parse {f : Nat} {ks : List Nat} {raw : List (List (List Int))} (h : PyFlat.calls PyKrae.shape f (zs ks) = some raw) (hk : ks ≠ []) :
    ∃ (f' : Nat) (c : List (List Int)) (t : List Int) (raw' : List (List (List Int))), raw = c :: raw' ∧ PyFlat.call PyKrae.shape (zs ks) = some (c, t) ∧ PyFlat.calls PyKrae.shape f' t = some raw' := by
  cases ks with
  | nil => exact absurd rfl hk
  | cons k r =>
    cases f with
    | zero => simp [zs, PyFlat.calls] at h
    | succ f =>
      have h' : PyFlat.calls PyKrae.shape (f + 1) ((k : Int) :: zs r) = some raw := h
      unfold PyFlat.calls at h'
      cases e : PyFlat.call PyKrae.shape ((k : Int) :: zs r) with
      | none => rw [e] at h'; cases h'
      | some ct =>
        obtain ⟨c, t⟩ := ct
        rw [e] at h'
        simp only at h'
        cases e2 : PyFlat.calls PyKrae.shape f t with
        | none => rw [e2] at h'; cases h'
        | some raw' =>
          rw [e2] at h'
          exact ⟨f, c, t, raw', (Option.some.inj h').symm, e, e2⟩
theorem calls_nil {f : Nat} {raw : List (List (List Int))} (h : PyFlat.calls PyKrae.shape f (zs []) = some raw) : raw = [] := by
  have h' : PyFlat.calls PyKrae.shape f [] = some raw := h
  unfold PyFlat.calls at h'
  exact (Option.some.inj h').symm
theorem whole_eq (c : List (List Int)) : PyKrae.whole c = c := by
  unfold PyKrae.whole
  split <;> rfl
theorem answers_eq {l : List Int} {raw : List (List (List Int))} (h : PyFlat.calls PyKrae.shape l.length l = some raw) : PyKrae.answers l = PyFlat.told (PyFlat.played KraeNeutral.step KraeNeutral.start raw) := by
  unfold PyKrae.answers PyKrae.calls
  rw [h]
  have e : raw.map PyKrae.whole = raw := by
    rw [show PyKrae.whole = id from funext whole_eq]
    exact List.map_id _
  simp only [e]
theorem asked_calls {l : List Int} (h : PyKrae.answers_asked l = true) : ∃ raw, PyFlat.calls PyKrae.shape l.length l = some raw ∧ (PyKrae.answers l).length ≤ 10000000 := by
  unfold PyKrae.answers_asked at h
  cases e : PyFlat.calls PyKrae.shape l.length l with
  | none => rw [e] at h; cases h
  | some raw =>
    rw [e] at h
    simp only [Bool.and_eq_true] at h
    exact ⟨raw, rfl, of_decide_eq_true h.2⟩
section
variable {P : Program} {w : World} {K : PySem.W.Frag} {mg : Str → Option Value} {base : Heap} {C : Addr}
structure Gu (mg : Str → Option Value) : Prop extends Gs mg where
  FITS : ∃ t, mg "FITS" = some (Value.int 6 t)
  WRONG : ∃ t, mg "WRONG" = some (Value.int 7 t)
def spEnd (K : PySem.W.Frag) : Sp := fun vs H Q _ => ∃ (a : Addr) (ks : List Nat) (s k e : Nat), vs = [.ref a, .int s] ∧ SqL K H a (ns ks) ∧ ks[s]? = some k ∧ k < 21 ∧ (if k = 6 ∨ k = 7 then ∃ m, ks[s + 1]? = some m ∧ e = 1 + m else e = hm k) ∧ Q (.int ((s + 1 + e : Nat) : Int)) H
theorem ns_at {x : List Nat} {i m : Nat} (h : x[i]? = some m) : (ns x)[i]? = some (V.int (m : Int)) := by
  unfold ns
  rw [List.getElem?_map, List.getElem?_map, h]
  rfl
theorem hm_at {k : Nat} (h : k < 21) : hmL[k]? = some (hm k) := by
  unfold hm
  rw [List.getD_eq_getElem?_getD, List.getElem?_eq_getElem (show k < hmL.length from h)]
  rfl
theorem ok_end {f : Addr} {fd : FuncData} (F : Fun K "end_of_call" "end_of_call" s_end_of_call f fd) (G : Gu mg) {ha : Addr} (hm1 : mg "HOW_MANY_NUMBERS" = some (.ref ha)) (hm2 : ∀ H : Hp, SqT K H ha (ns hmL)) : FnOk P w K mg base CX0 1 f fd ["calls", "start"] (spEnd K) := by
  refine F.ok sc_end_of_call (fun vs H Q E h => ?_) (fun cdv A outer s H vs Q E hr h => ?_)
  · obtain ⟨a, ks, s, k, e, rfl, _⟩ := h
    rfl
  · obtain ⟨a, ks, i, k, e, rfl, hS, hk, h21, he, kk⟩ := h
    refine ⟨_, (pss_cons (ps_set (i := 2) sc_end_of_call.nd rfl (Or.inl rfl) (pe_ix (ixl (K := K)) (pv 0) (pv 1) (fun _ _ => rfl)))
      (pss_cons (ps_if (pw_or (pt_cmpR op_eqn (pv 2) (pgi G.FITS) (nomark _)) (pw_or1 (pt_cmpR op_eqn (pv 2) (pgi G.WRONG) (nomark _)))).pt (pss_one (ps_ret (pe_op op_addn (pe_op op_addn (pv 1) pe_int) (pe_ix (ixl (K := K)) (pv 0) (pe_op op_addn (pv 1) pe_int) (fun _ _ => rfl))))) pss_nil)
      (pss_one (ps_ret (pe_op op_addn (pe_op op_addn (pv 1) pe_int) (pe_ix (ixt (K := K)) (pe_glob (v := V.ref ha) rfl hm1 rfl) (pv 2) (fun _ _ => rfl))))))), ?_⟩
    have h67 : ∀ e : Nat, (∃ m, ks[i + 1]? = some m ∧ e = 1 + m) → Q (.int ((i + 1 + e : Nat) : Int)) H → tRet (tOp (fun x y H Q => ∃ a b : Nat, x = .int (a : Int) ∧ y = .int (b : Int) ∧ Q (.int ((a + b : Nat) : Int)) H) (tOp (fun x y H Q => ∃ a b : Nat, x = .int (a : Int) ∧ y = .int (b : Int) ∧ Q (.int ((a + b : Nat) : Int)) H) (tVar 1) (tC (.int 2))) (tOp (rIxL K) (tVar 0) (tOp (fun x y H Q => ∃ a b : Nat, x = .int (a : Int) ∧ y = .int (b : Int) ∧ Q (.int ((a + b : Nat) : Int)) H) (tVar 1) (tC (.int 1)))))
        { nx := fun _ H' => Q .non H', rt := Q } [some (.ref a), some (.int (i : Int)), some (.int (k : Int))] H := by
      rintro e ⟨m, hm, rfl⟩ q
      refine ⟨_, rfl, i, 2, rfl, rfl, _, rfl, _, rfl, i, 1, rfl, rfl, a, _, _, _, rfl, rfl, hS, atI_nat (ns_at hm), i + 2, m, rfl, rfl, ?_⟩
      rw [show i + 2 + m = i + 1 + (1 + m) by omega]
      exact q
    refine ⟨_, rfl, _, rfl, a, _, _, _, rfl, rfl, hS, atI_nat (ns_at hk), ?_⟩
    refine ⟨_, rfl, k, 6, rfl, rfl, _, rfl, ?_⟩
    refine ite2 (fun h => iteT ?_) (fun h => ?_)
    · rw [if_pos (.inl (of_decide_eq_true h))] at he
      exact h67 e he kk
    refine ⟨_, rfl, k, 7, rfl, rfl, _, rfl, ?_⟩
    refine ite2 (fun h' => ?_) (fun h' => ?_)
    · rw [if_pos (.inr (of_decide_eq_true h'))] at he
      exact h67 e he kk
    · have hne : ¬ (k = 6 ∨ k = 7) := by
        rintro (z | z)
        · exact h (decide_eq_true z)
        · exact h' (decide_eq_true z)
      rw [if_neg hne] at he
      subst he
      exact ⟨_, rfl, i, 1, rfl, rfl, _, rfl, ha, _, _, _, rfl, rfl, hm2 H, atI_nat (ns_at (hm_at h21)), i + 1, hm k, rfl, rfl, kk⟩
end
end Lk
end
section
set_option Elab.async false
set_option linter.all false
set_option maxRecDepth 100000
set_option maxHeartbeats 4000000
namespace Lk
open PySem PySem.Spec PyProof.Rows L2
abbrev s_answers : Stmt := top 96
theorem sc_answers : FnScope ["calls", "session", "answered", "start", "end", "answer"] ["calls"] (defScope s_answers) := ⟨rfl, rfl, rfl, by decide +kernel, rfl, by decide +kernel, by decide +kernel⟩
abbrev s_answer_to : Stmt := top 95
theorem sc_answer_to : FnScope ["session", "number", "numbers"] ["session", "number", "numbers"] (defScope s_answer_to) := ⟨rfl, rfl, rfl, by decide +kernel, rfl, by decide +kernel, by decide +kernel⟩
abbrev s_answer_about_told : Stmt := top 91
theorem sc_answer_about_told : FnScope ["session", "number", "numbers"] ["session", "number", "numbers"] (defScope s_answer_about_told) := ⟨rfl, rfl, rfl, by decide +kernel, rfl, by decide +kernel, by decide +kernel⟩
abbrev s_answer_about_fitting : Stmt := top 92
theorem sc_answer_about_fitting : FnScope ["session", "number", "numbers"] ["session", "number", "numbers"] (defScope s_answer_about_fitting) := ⟨rfl, rfl, rfl, by decide +kernel, rfl, by decide +kernel, by decide +kernel⟩
abbrev s_answer_by_shares : Stmt := top 93
theorem sc_answer_by_shares : FnScope ["session", "number", "numbers"] ["session", "number", "numbers"] (defScope s_answer_by_shares) := ⟨rfl, rfl, rfl, by decide +kernel, rfl, by decide +kernel, by decide +kernel⟩
abbrev s_answer_by_rules : Stmt := top 94
theorem sc_answer_by_rules : FnScope ["session", "number", "numbers"] ["session", "number", "numbers"] (defScope s_answer_by_rules) := ⟨rfl, rfl, rfl, by decide +kernel, rfl, by decide +kernel, by decide +kernel⟩
def absOf (n : Nat) (l : List Krae.Told) : Krae.Abs := if n = 0 then none else some ⟨n, l⟩
theorem But2.same {H0 H H' : Hp} {p q : Addr} (s : Same H0 H) (hp : H0 p = none) (hq : H0 q = none) (k : But2 p q H H') : Same H0 H' := fun b o e => k b o (s b o e) (ne_of_none e hp) (ne_of_none e hq)
theorem told_cons (a : List Int) (L : List (List Int)) : PyFlat.told (a :: L) = ((a.length : Int) :: a) ++ PyFlat.told L := rfl
section
variable {P : Program} {w : World} {K : PySem.W.Frag} {mg : Str → Option Value} {base : Heap} {C : Addr}
def spAnswerTo (C : Addr) : Sp := fun vs H Q _ => ∃ (p q na : Addr) (n k : Nat) (nl : List Nat) (l : List Krae.Told), vs = [.ref p, .int k, .ref na] ∧ Sess C H p q n l ∧ H na = some (.lst (ns nl)) ∧ k < 21 ∧ Fits k nl ∧ (∀ x ∈ nl, x < 4294967296) ∧
  ∀ (H' : Hp) (r q' : Addr) (n' : Nat) (l' : List Krae.Told), Sess C H' p q' n' l' → absOf n' l' = (KraeNeutral.step (absOf n l) (rawOf k nl)).1 → But2 p q H H' → (q' = q ∨ H q' = none) → H r = none → r ≠ q' →
    H' r = some (.lst ((KraeNeutral.step (absOf n l) (rawOf k nl)).2.map V.int)) → Q (.ref r) H'
def spAns (K : PySem.W.Frag) : Sp := fun vs H Q _ => ∃ (a : Addr) (ks : List Nat), vs = [.ref a] ∧ SqL K H a (ns ks) ∧ (∀ x ∈ ks, x < 4294967296) ∧ PyKrae.answers_asked (zs ks) = true ∧ ∀ (H' : Hp) (p : Addr), H' p = some (.lst ((PyKrae.answers (zs ks)).map V.int)) → Q (.ref p) H'
theorem drop_at {α : Type} {l : List α} {s : Nat} {k : α} {r : List α} (h : l.drop s = k :: r) : l[s]? = some k ∧ l.drop (s + 1) = r ∧ s < l.length ∧ r.length + s + 1 = l.length := by
  have hs : s < l.length := by
    rcases Nat.lt_or_ge s l.length with z | z
    · exact z
    · rw [List.drop_eq_nil_of_le z] at h; cases h
  have h2 := List.drop_eq_getElem_cons hs
  rw [h] at h2
  injection h2 with e1 e2
  refine ⟨by rw [List.getElem?_eq_getElem hs, ← e1], e2.symm, hs, ?_⟩
  rw [e2, List.length_drop]
  omega
theorem ok_answers {f : Addr} {fd : FuncData} (F : Fun K "answers" "answers" s_answers f fd) (T : Txt K mg C) (G : Gu mg) (mgS : mg "Session" = some (.ref C)) {fI : Addr} {fdI : FuncData} (M_Session : Mk K C fI) (O_Session_init : FnOk P w K mg base CX0 1 fI fdI ["self"] (spInit C)) (B_Session_init : Binds K fdI ["self"] [])
    {f_end_of_call : Addr} {fd_end_of_call : FuncData} (O_end_of_call : FnOk P w K mg base CX0 1 f_end_of_call fd_end_of_call ["calls", "start"] (spEnd K)) (D_end_of_call : Df K mg "end_of_call" f_end_of_call fd_end_of_call ["calls", "start"]) {f_answer_to : Addr} {fd_answer_to : FuncData} (O_answer_to : FnOk P w K mg base CX0 10 f_answer_to fd_answer_to ["session", "number", "numbers"] (spAnswerTo C)) (D_answer_to : Df K mg "answer_to" f_answer_to fd_answer_to ["session", "number", "numbers"]) : FnOk P w K mg base CX0 11 f fd ["calls"] (spAns K) := by
  refine F.ok sc_answers (fun vs H Q E h => ?_) (fun cdv A outer s H vs Q E hr h => ?_)
  · obtain ⟨a, ks, rfl, _⟩ := h
    rfl
  · obtain ⟨a, ks, rfl, hS, hsm, hask, k⟩ := h
    obtain ⟨raw0, hraw0, hlen0⟩ := asked_calls hask
    have hans := answers_eq hraw0
    refine ⟨_, (pss_cons (ps_set (i := 1) sc_answers.nd rfl (Or.inl rfl) (pe_make0 M_Session O_Session_init (hr.mono (by decide)) rfl mgS B_Session_init .nil pass0))
      (pss_cons (ps_set (i := 2) sc_answers.nd rfl (Or.inl rfl) (pe_lst pa_nil))
      (pss_cons (ps_set (i := 3) sc_answers.nd rfl (Or.inl rfl) pe_int)
      (pss_cons (ps_while PassesOwn.never (pt_cmpR op_lt (pv 3) (pe_callB (lens (K := K)) (by rfl) G.len PySem.boot_len (pa_cons (pv 0) pa_nil)) (nomark _))
        (pss_cons (ps_set (i := 4) sc_answers.nd rfl (Or.inl rfl) (pe_call O_end_of_call (hr.mono (by decide)) rfl D_end_of_call.mg D_end_of_call.kp D_end_of_call.b .nil pass0 (pa_cons (pv 0) (pa_cons (pv 3) pa_nil))))
      (pss_cons (ps_set (i := 5) sc_answers.nd rfl (Or.inl rfl) (pe_call O_answer_to (hr.mono (by decide)) rfl D_answer_to.mg D_answer_to.kp D_answer_to.b .nil pass0 (pa_cons (pv 1) (pa_cons (pe_ix (ixl (K := K)) (pv 0) (pv 3) (fun _ _ => rfl)) (pa_cons (pe_slice (sls (K := K)) (pv 0) (po_some (pe_op op_addn (pv 3) pe_int)) (po_some (pv 4))) pa_nil)))))
      (pss_cons (ps_expr (pe_bm PySem.F.plainAttrs_list PySem.F.slot_list_append PySem.F.type_list_append mt_append (pv 2) (pa_cons (pe_callB (lens (K := K)) (by rfl) G.len PySem.boot_len (pa_cons (pv 5) pa_nil)) pa_nil)))
      (pss_cons (ps_expr (pe_bm PySem.F.plainAttrs_list PySem.F.slot_list_extend PySem.F.type_list_extend mt_extend (pv 2) (pa_cons (pv 5) pa_nil)))
      (pss_one (ps_set (i := 3) sc_answers.nd rfl (Or.inl rfl) (pv 4))))))))
      (pss_one (ps_ret (pv 2))))))), ?_⟩
    intro p dx hp hdx hne
    refine ⟨p, dx, rfl, upd_same, fun H1 q hq hq1 hobj but => ⟨rfl, ?_⟩⟩
    have s1 : Same H H1 := fun b o e => but b o (by rw [upd_ne (ne_of_none e hp), upd_ne (ne_of_none e hdx)]; exact e) (ne_of_none e hp)
    have hq0 : H q = none := by
      have z : q ≠ p := fun z => by rw [z, upd_same] at hq; cases hq
      have z2 : q ≠ dx := fun z2 => by rw [z2, upd_ne hne, upd_same] at hq; cases hq
      rw [upd_ne z, upd_ne z2] at hq
      exact hq
    have S1 : Sess C H1 p q 0 [] := ⟨hobj, ⟨[], rfl, hq1, fun i t o e => (by simp at e)⟩, by omega, fun t ht => (by cases ht), Nat.zero_le _⟩
    refine ⟨Nat.zero_le _, fun D hD => ?_⟩
    have s2 : Same H1 (upd H1 D (.lst [])) := Same.new hD
    have hD0 : H D = none := s1.free hD
    refine ⟨fun m σ H2 => ∃ (q : Addr) (i n : Nat) (l : List Krae.Told) (fu : Nat) (raw : List (List (List Int))) (out : List Int) (v4 v5 : Option V), σ = [some (.ref a), some (.ref p), some (.ref D), some (.int (i : Int)), v4, v5] ∧ m = raw.length ∧ i ≤ ks.length ∧
        PyFlat.calls PyKrae.shape fu (zs (ks.drop i)) = some raw ∧ Sess C H2 p q n l ∧ H2 D = some (.lst (out.map V.int)) ∧ D ≠ q ∧ H q = none ∧ Same H H2 ∧ out ++ PyFlat.told (PyFlat.played KraeNeutral.step (absOf n l) raw) = PyKrae.answers (zs ks),
      ⟨_, q, 0, 0, [], (zs ks).length, raw0, [], none, none, rfl, rfl, Nat.zero_le _, hraw0, S1.same s2, upd_same, fun z => ?_, hq0, s1.trans s2, hans.symm⟩, ?_⟩
    · rw [z] at hD
      rw [hq1] at hD
      cases hD
    rintro m σ H2 ⟨q, i, n, l, fu, raw, out, v4, v5, rfl, rfl, hi, hraw, S2, hD2, hDq, hq2, s3, hout⟩
    have hS2 := s3.seq hS
    refine ⟨_, rfl, _, rfl, a, _, rfl, .inl hS2, _, _, rfl, rfl, _, rfl, ?_⟩
    rw [ns_length]
    refine ite2 (fun h => ?_) (fun h => ?_)
    · have hlt : i < ks.length := by have := of_decide_eq_true h; omega
      have hdne : ks.drop i ≠ [] := fun z => by
        have := congrArg List.length z
        rw [List.length_drop] at this
        simp at this
        omega
      obtain ⟨fu', c, t, raw', rfl, hcall, hcalls⟩ := calls_parse hraw hdne
      obtain ⟨kk, r, e, hkr, h21, he, rfl, rfl, hfit, hcond⟩ := call_parse hcall
      obtain ⟨hki, hdrop, _, hrl⟩ := drop_at hkr
      have hr0 : r[0]? = ks[i + 1]? := by rw [← hdrop, List.getElem?_drop]
      have hcut : cutV (ns ks) (some ((i + 1 : Nat) : Int)) (some ((i + 1 + e : Nat) : Int)) = ns (r.take e) := by
        unfold cutV
        rw [HT.sIx_nat, HT.sIx_nat, ns_length, Nat.min_eq_left (by omega), Nat.min_eq_left (by omega)]
        unfold ns
        rw [← List.map_drop, ← List.map_drop, ← List.map_take, ← List.map_take, hdrop]
        rw [show i + 1 + e - (i + 1) = e by omega]
      refine ⟨fun σ' H' => ∃ (q : Addr) (i n : Nat) (l : List Krae.Told) (fu : Nat) (raw : List (List (List Int))) (out : List Int) (v4 v5 : Option V), σ' = [some (.ref a), some (.ref p), some (.ref D), some (.int (i : Int)), v4, v5] ∧ raw'.length = raw.length ∧ i ≤ ks.length ∧
          PyFlat.calls PyKrae.shape fu (zs (ks.drop i)) = some raw ∧ Sess C H' p q n l ∧ H' D = some (.lst (out.map V.int)) ∧ D ≠ q ∧ H q = none ∧ Same H H' ∧ out ++ PyFlat.told (PyFlat.played KraeNeutral.step (absOf n l) raw) = PyKrae.answers (zs ks),
        fun σ' H' z => ⟨raw'.length, by rw [List.length_cons]; omega, z⟩, ?_⟩
      refine ⟨_, rfl, _, rfl, a, ks, i, kk, e, rfl, hS2, hki, h21, by rw [← hr0]; exact hcond, ?_⟩
      refine ⟨_, rfl, _, rfl, _, rfl, a, _, _, _, rfl, rfl, hS2, atI_nat (ns_at hki), _, rfl, _, rfl, i, 1, rfl, rfl, _, rfl, _, rfl, _, rfl, a, _, rfl, hS2, fun na hna => ?_⟩
      rw [hcut]
      have s4 : Same H2 (upd H2 na (.lst (ns (r.take e)))) := Same.new hna
      refine ⟨p, q, na, n, kk, r.take e, l, rfl, S2.same s4, upd_same, h21, hfit, fun x hx => ?_, fun H3 rr q' n' l' S3 habs but3 hq' hrr hrq' hans3 => ?_⟩
      · have h1 : x ∈ r := List.mem_of_mem_take hx
        have h2 : x ∈ ks.drop i := by rw [hkr]; exact .tail _ h1
        exact hsm x (List.mem_of_mem_drop h2)
      · have s5 : Same H H3 := But2.same (s3.trans s4) hp hq2 but3
        have hDp : D ≠ p := by
          obtain ⟨dx2, ho⟩ := S2.obj
          exact ne_of hD2 ho (by intro z; cases z)
        have hD3 : H3 D = some (.lst (out.map V.int)) := but3 D _ (s4 _ _ hD2) hDp hDq
        have hrD : rr ≠ D := (ne_of_none (s4 _ _ hD2) hrr).symm
        have hq'0 : H q' = none := by
          rcases hq' with z | z
          · rw [z]; exact hq2
          · exact (s3.trans s4).free z
        have hDq' : D ≠ q' := by
          rcases hq' with z | z
          · rw [z]; exact hDq
          · exact ne_of_none (s4 _ _ hD2) z
        have S3obj := S3.obj
        obtain ⟨dx3, ho3⟩ := S3obj
        have hp3 : p ≠ D := (ne_of hD3 ho3 (by intro z; cases z)).symm
        have hbound : out.length + 1 + (KraeNeutral.step (absOf n l) (rawOf kk (r.take e))).2.length ≤ 10000000 := by
          have z := congrArg List.length hout
          rw [PyFlat.played, told_cons, List.length_append, List.length_append, List.length_cons] at z
          rw [← z] at hlen0
          omega
        have hsl : sizeLine = 16777216 := by decide
        refine ⟨_, rfl, .inl ⟨rfl, _, SqL.of hD3⟩, _, rfl, rr, _, rfl, .inl (SqL.of hans3), D, _, _, rfl, rfl, hD3, by rw [List.length_map]; omega, ?_⟩
        have hans4 : (upd H3 D (.lst (out.map V.int ++ [V.int ((((KraeNeutral.step (absOf n l) (rawOf kk (r.take e))).2.map V.int).length : Nat) : Int)]))) rr = some (.lst ((KraeNeutral.step (absOf n l) (rawOf kk (r.take e))).2.map V.int)) := by rw [upd_ne hrD]; exact hans3
        refine ⟨_, rfl, .inl ⟨rfl, _, SqL.of upd_same⟩, _, rfl, D, rr, _, _, rfl, rfl, upd_same, hans4, by rw [List.length_append, List.length_map, List.length_map]; show out.length + 1 + _ ≤ sizeLine; omega, ?_⟩
        rw [upd_upd]
        have s6 : ∀ o, Same H (upd H3 D o) := fun o => Same.put s5 hD0
        obtain ⟨ts3, ht3⟩ := S3.told
        have tt : ∀ o, ToldAt (upd H3 D o) q' l' := fun o => ⟨ts3, ht3.len, by rw [upd_ne hDq'.symm]; exact ht3.lst, fun j t u e1 e2 => by
          have z := ht3.one j t u e1 e2
          rw [upd_ne (ne_of z hD3 (by intro y; cases y))]
          exact z⟩
        refine ⟨_, rfl, q', i + 1 + e, n', l', fu', raw', out ++ (((KraeNeutral.step (absOf n l) (rawOf kk (r.take e))).2.length : Nat) : Int) :: (KraeNeutral.step (absOf n l) (rawOf kk (r.take e))).2, _, _, rfl, rfl, by omega, ?_, ⟨⟨dx3, by rw [upd_ne hp3]; exact ho3⟩, tt _, S3.n5, S3.sets, S3.six⟩, ?_, hDq', hq'0, s6 _, ?_⟩
        · rw [← List.drop_drop, hdrop]
          exact hcalls
        · rw [upd_same, List.map_append, List.map_cons, List.length_map, List.append_assoc]
          rfl
        · rw [habs, ← hout, PyFlat.played, told_cons, List.append_assoc]
    · have hge : ks.length ≤ i := by
        rcases Nat.lt_or_ge i ks.length with z | z
        · exact absurd (decide_eq_true (by omega)) h
        · exact z
      rw [List.drop_eq_nil_of_le hge] at hraw
      have er := calls_nil hraw
      subst er
      rw [PyFlat.played] at hout
      have eo : out = PyKrae.answers (zs ks) := by rw [← hout]; show out = out ++ []; rw [List.append_nil]
      rw [eo] at hD2
      exact ⟨_, rfl, k H2 D hD2⟩
end
end Lk
namespace Lk
theorem zs_of : ∀ {l : List Int}, (∀ x ∈ l, 0 ≤ x) → l = zs (l.map Int.toNat)
  | [], _ => rfl
  | x :: l, h => by
    have h1 := h x (.head _)
    have h2 := zs_of (l := l) fun y hy => h y (.tail _ hy)
    show x :: l = ((x.toNat : Nat) : Int) :: zs (l.map Int.toNat)
    rw [← h2, Int.toNat_of_nonneg h1]
end Lk
end
section
set_option Elab.async false
set_option linter.all false
set_option maxRecDepth 100000
set_option maxHeartbeats 4000000
namespace Lk
open KraeNeutral (step call told)
theorem toNat_zs : ∀ x : List Nat, (zs x).map Int.toNat = x
  | [] => rfl
  | m :: x => by
    show ((m : Int)).toNat :: (zs x).map Int.toNat = m :: x
    rw [toNat_zs x, Int.toNat_natCast]
theorem c0 (a : Nat) : call (rawOf 0 [a]) = .begin_ a := rfl
theorem c1 (k a b : Nat) : call (rawOf 1 [k, a, b]) = .tell k a b := rfl
theorem c2 (t : Nat) : call (rawOf 2 [t]) = .untell t := rfl
theorem c3 : call (rawOf 3 []) = .can := rfl
theorem c4 : call (rawOf 4 []) = .ways := rfl
theorem c5 : call (rawOf 5 []) = .plainest := rfl
theorem c6 (m : Nat) (x : List Nat) : call (rawOf 6 (m :: x)) = .fits x := by
  show Krae.Call.fits ((zs x).map Int.toNat) = .fits x
  rw [toNat_zs]
theorem c7 (m : Nat) (x : List Nat) : call (rawOf 7 (m :: x)) = .wrong x := by
  show Krae.Call.wrong ((zs x).map Int.toNat) = .wrong x
  rw [toNat_zs]
theorem c8 (a b : Nat) : call (rawOf 8 [a, b]) = .rules a b := rfl
theorem c9 (a b : Nat) : call (rawOf 9 [a, b]) = .all a b := rfl
theorem c10 : call (rawOf 10 []) = .broken := rfl
theorem c11 : call (rawOf 11 []) = .beyond := rfl
theorem c12 : call (rawOf 12 []) = .whole := rfl
theorem c13 (a : Nat) : call (rawOf 13 [a]) = .chance a := rfl
theorem c14 (a b c : Nat) : call (rawOf 14 [a, b, c]) = .given a b c := rfl
theorem c15 : call (rawOf 15 []) = .alike := rfl
theorem c16 : call (rawOf 16 []) = .clashes := rfl
theorem c17 : call (rawOf 17 []) = .spare := rfl
theorem c18 (t : Nat) : call (rawOf 18 [t]) = .settled t := rfl
theorem c19 (t : Nat) : call (rawOf 19 [t]) = .look t := rfl
theorem c20 : call (rawOf 20 []) = .state := rfl
theorem step_of {s : Krae.Abs} {r : List (List Int)} {c : Krae.Call} (h : call r = c) : step s r = ((Krae.act s c).1, told (Krae.act s c).2) := by
  unfold step
  rw [h]
def Asks : Krae.Call → Prop
  | .begin_ _ => False
  | .tell _ _ _ => False
  | .untell _ => False
  | _ => True
def ansQ (n : Nat) (l : List Krae.Told) (c : Krae.Call) : List Int := told (Krae.act (some ⟨n, l⟩) c).2
theorem abs_some {n : Nat} (h : 0 < n) (l : List Krae.Told) : absOf n l = some ⟨n, l⟩ := if_neg (by omega)
theorem abs_none (l : List Krae.Told) : absOf 0 l = none := if_pos rfl
theorem act_asks {n : Nat} {l : List Krae.Told} {c : Krae.Call} (h : Asks c) : (Krae.act (some ⟨n, l⟩) c).1 = some ⟨n, l⟩ := by
  cases c <;> first | exact False.elim h | rfl
theorem step_asks {n : Nat} (h0 : 0 < n) {l : List Krae.Told} {r : List (List Int)} {c : Krae.Call} (h : call r = c) (ha : Asks c) : step (absOf n l) r = (absOf n l, ansQ n l c) := by
  rw [step_of h, abs_some h0, act_asks ha]
  rfl
theorem step_not {l : List Krae.Told} {r : List (List Int)} {c : Krae.Call} (h : call r = c) (hb : ∀ m, c ≠ .begin_ m) : step (absOf 0 l) r = (absOf 0 l, [-11]) := by
  rw [step_of h, abs_none]
  cases c <;> first | exact absurd rfl (hb _) | rfl
theorem step_begin {n m : Nat} {l : List Krae.Told} : step (absOf n l) (rawOf 0 [m]) = if m = 0 ∨ 5 < m then (absOf n l, [-22]) else (absOf m [], [0]) := by
  rw [step_of (c0 m)]
  show ((Krae.act (absOf n l) (.begin_ m)).1, told (Krae.act (absOf n l) (.begin_ m)).2) = _
  unfold Krae.act
  by_cases e : m = 0 ∨ 5 < m
  · have e' : m = 0 ∨ Krae.mostWorlds < m := e
    simp only [if_pos e', if_pos e]
    rfl
  · have e' : ¬ (m = 0 ∨ Krae.mostWorlds < m) := e
    simp only [if_neg e', if_neg e]
    rw [abs_some (by omega)]
    rfl
theorem step_tell {n k a b : Nat} (h0 : 0 < n) {l : List Krae.Told} : step (absOf n l) (rawOf 1 [k, a, b]) = if 2 < k ∨ 2 ^ n ≤ a ∨ 2 ^ n ≤ b then (absOf n l, [-22]) else if 6 ≤ l.length then (absOf n l, [-28]) else (absOf n (l ++ [⟨a, b, k⟩]), [(l.length : Int)]) := by
  rw [step_of (c1 k a b), abs_some h0, abs_some h0]
  unfold Krae.act
  simp only [decide_eq_true_eq]
  by_cases e : 2 < k ∨ 2 ^ n ≤ a ∨ 2 ^ n ≤ b
  · have e' : 2 < k ∨ Krae.sets n ≤ a ∨ Krae.sets n ≤ b := e
    rw [if_pos e', if_pos e]
    rfl
  · have e' : ¬ (2 < k ∨ Krae.sets n ≤ a ∨ Krae.sets n ≤ b) := e
    rw [if_neg e', if_neg e]
    by_cases e2 : 6 ≤ l.length
    · have e2' : Krae.mostTold ≤ l.length := e2
      rw [if_pos e2', if_pos e2]
      rfl
    · have e2' : ¬ Krae.mostTold ≤ l.length := e2
      rw [if_neg e2', if_neg e2]
      rfl
theorem step_untell {n t : Nat} (h0 : 0 < n) {l : List Krae.Told} : step (absOf n l) (rawOf 2 [t]) = if l.length ≤ t then (absOf n l, [-2]) else (absOf n (l.eraseIdx t), [((l.eraseIdx t).length : Int)]) := by
  rw [step_of (c2 t), abs_some h0, abs_some h0]
  unfold Krae.act
  simp only
  by_cases e : l.length ≤ t
  · rw [if_pos e, if_pos e]
    rfl
  · rw [if_neg e, if_neg e]
    rfl
theorem q_can (n : Nat) (l : List Krae.Told) : ansQ n l .can = aCan n l := rfl
theorem q_ways (n : Nat) (l : List Krae.Told) : ansQ n l .ways = aWays n l := rfl
theorem q_plainest (n : Nat) (l : List Krae.Told) : ansQ n l .plainest = aPlain n l := by
  unfold ansQ Krae.act aPlain
  simp only [Krae.House.fit]
  cases Krae.fitBy n l <;> rfl
theorem q_fits (n : Nat) (l : List Krae.Told) (x : List Nat) : ansQ n l (.fits x) = [if (x.length == n && (decide (1 ≤ Krae.total x) && decide (Krae.total x ≤ 10))) = false then -22 else if (l.all fun t => t.holds x) then 1 else 0] := by
  show told (if (x.length == n && (decide (1 ≤ Krae.total x) && decide (Krae.total x ≤ 10))) = false then Krae.say (-22) else Krae.say (if (l.all fun t => t.holds x) then 1 else 0)) = _
  by_cases e : (x.length == n && (decide (1 ≤ Krae.total x) && decide (Krae.total x ≤ 10))) = false
  · rw [if_pos e, if_pos e]; rfl
  · rw [if_neg e, if_neg e]; rfl
theorem told_list (x : List Nat) : told (Krae.list x) = listI x := rfl
theorem q_wrong (n : Nat) (l : List Krae.Told) (x : List Nat) : ansQ n l (.wrong x) = if (x.length == n && (decide (1 ≤ Krae.total x) && decide (Krae.total x ≤ 10))) = false then [-22] else listI ((List.range l.length).filter fun i => !((l.getD i ⟨0, 0, 2⟩).holds x)) := by
  show told (if (x.length == n && (decide (1 ≤ Krae.total x) && decide (Krae.total x ≤ 10))) = false then Krae.say (-22) else Krae.list ((List.range l.length).filter fun i => !((l.getD i ⟨0, 0, 2⟩).holds x))) = _
  by_cases e : (x.length == n && (decide (1 ≤ Krae.total x) && decide (Krae.total x ≤ 10))) = false
  · rw [if_pos e, if_pos e]; rfl
  · rw [if_neg e, if_neg e]; rfl
theorem bad2 (n a b : Nat) : (decide (Krae.sets n ≤ a) || decide (Krae.sets n ≤ b)) = decide (2 ^ n ≤ a ∨ 2 ^ n ≤ b) := by
  show (decide (2 ^ n ≤ a) || decide (2 ^ n ≤ b)) = _
  rw [Bool.eq_iff_iff]
  simp
theorem q_rules (n : Nat) (l : List Krae.Told) (a b : Nat) : ansQ n l (.rules a b) = if 2 ^ n ≤ a ∨ 2 ^ n ≤ b then [-22] else aRules n l a b := by
  show told (if (decide (Krae.sets n ≤ a) || decide (Krae.sets n ≤ b)) = true then Krae.say (-22) else Krae.say (Krae.own n (Krae.relOf n l) a b : Nat)) = _
  rw [bad2]
  by_cases e : 2 ^ n ≤ a ∨ 2 ^ n ≤ b
  · rw [if_pos e, if_pos (decide_eq_true e)]; rfl
  · rw [if_neg e, if_neg (fun z => e (of_decide_eq_true z))]; rfl
theorem q_all (n : Nat) (l : List Krae.Told) (a b : Nat) : ansQ n l (.all a b) = if 2 ^ n ≤ a ∨ 2 ^ n ≤ b then [-22] else aAll n l a b := by
  show told (if (decide (Krae.sets n ≤ a) || decide (Krae.sets n ≤ b)) = true then Krae.say (-22) else (match Krae.fitBy n l with
    | [] => Krae.say (-33)
    | x :: L => Krae.say (Krae.byAll (Krae.fitBy n l) a b : Nat))) = _
  rw [bad2]
  by_cases e : 2 ^ n ≤ a ∨ 2 ^ n ≤ b
  · rw [if_pos e, if_pos (decide_eq_true e)]; rfl
  · rw [if_neg e, if_neg (fun z => e (of_decide_eq_true z))]
    unfold aAll
    cases Krae.fitBy n l <;> rfl
theorem q_broken (n : Nat) (l : List Krae.Told) : ansQ n l .broken = aBroken n l := rfl
end Lk
end
section
set_option Elab.async false
set_option linter.all false
set_option maxRecDepth 100000
set_option maxHeartbeats 4000000
namespace Lk
open PySem PySem.Spec PyProof.Rows L2
open KraeNeutral (step)
section
open KraeNeutral (told)
theorem q_look (n : Nat) (l : List Krae.Told) (t : Nat) : ansQ n l (.look t) = aLook n l t := by
  show told (match l[t]? with
    | none => Krae.say (-2)
    | some x => { num := x.kind, nums := Krae.ints [x.a, x.b] }) = _
  unfold aLook
  cases l[t]? <;> rfl
theorem q_state (n : Nat) (l : List Krae.Told) : ansQ n l .state = aState n l := rfl
theorem q_settled {n : Nat} (hn : n ≤ 5) {l : List Krae.Told} (hs : Sets n l) {t : Nat} : ansQ n l (.settled t) = aSettled n l t := by
  show told (match l[t]? with
    | none => Krae.say (-2)
    | some x => Krae.say (if (match x.kind with
      | 0 => Krae.own n (Krae.relOf n (l.eraseIdx t)) x.a x.b == 2
      | 1 => decide (0 < Krae.own n (Krae.relOf n (l.eraseIdx t)) x.a x.b)
      | _ => decide (0 < Krae.own n (Krae.relOf n (l.eraseIdx t)) x.a x.b) && decide (0 < Krae.own n (Krae.relOf n (l.eraseIdx t)) x.b x.a)) then 1 else 0)) = _
  unfold aSettled
  cases e : l[t]? with
  | none => rfl
  | some x =>
    have hx := hs x (List.mem_of_getElem? e)
    have hs2 : Sets n (l.eraseIdx t) := fun o ho => hs o ((List.eraseIdx_sublist l t).mem ho)
    simp only [own_eq hn hs2 hx.1 hx.2, own_eq hn hs2 hx.2 hx.1]
    rfl
theorem q_whole (n : Nat) (l : List Krae.Told) : ansQ n l .whole = aWhole n l := rfl
theorem q_alike (n : Nat) (l : List Krae.Told) : ansQ n l .alike = aAlike n l := rfl
theorem q_beyond (n : Nat) (l : List Krae.Told) : ansQ n l .beyond = aBeyond n l := by
  show told (match Krae.fitBy n l with
    | [] => Krae.say (-33)
    | _ :: _ => match beyondL n l with
      | [] => Krae.say 0
      | x :: r => { num := r.length + 1, nums := Krae.ints [x.1, x.2] }) = _
  unfold aBeyond
  generalize beyondL n l = B
  cases Krae.fitBy n l with
  | nil => rfl
  | cons x L => cases B <;> rfl
theorem q_chance (n : Nat) (l : List Krae.Told) (a : Nat) : ansQ n l (.chance a) = aChance n l a := by
  show told (if decide (2 ^ n ≤ a) = true then Krae.say (-22) else (match Krae.fitBy n l with
    | [] => Krae.say (-33)
    | _ :: _ => { num := 0, nums := Krae.ints [(Krae.leastForm (loOf ((Krae.fitBy n l).map (ch a))).1 (loOf ((Krae.fitBy n l).map (ch a))).2).1, (Krae.leastForm (loOf ((Krae.fitBy n l).map (ch a))).1 (loOf ((Krae.fitBy n l).map (ch a))).2).2, (Krae.leastForm (hiOf ((Krae.fitBy n l).map (ch a))).1 (hiOf ((Krae.fitBy n l).map (ch a))).2).1, (Krae.leastForm (hiOf ((Krae.fitBy n l).map (ch a))).1 (hiOf ((Krae.fitBy n l).map (ch a))).2).2] })) = _
  unfold aChance
  by_cases e : 2 ^ n ≤ a
  · rw [if_pos e, if_pos (decide_eq_true e)]; rfl
  · rw [if_neg e, if_neg (fun z => e (of_decide_eq_true z))]
    cases Krae.fitBy n l <;> rfl
theorem q_given (n : Nat) (l : List Krae.Told) (a b c : Nat) : ansQ n l (.given a b c) = if 2 ^ n ≤ a ∨ 2 ^ n ≤ b ∨ 2 ^ n ≤ c then [-22] else aGiven n l a b c := by
  show told (if (decide (2 ^ n ≤ a) || (decide (2 ^ n ≤ b) || decide (2 ^ n ≤ c))) = true then Krae.say (-22) else (match Krae.fitBy n l with
    | [] => Krae.say (-33)
    | _ :: _ => if ((Krae.fitBy n l).any fun s => Krae.of s c == 0) = true then Krae.say (-62) else Krae.say (Krae.byAll (Krae.fitBy n l) (a &&& c) (b &&& c) : Nat))) = _
  have eb : (decide (2 ^ n ≤ a) || (decide (2 ^ n ≤ b) || decide (2 ^ n ≤ c))) = decide (2 ^ n ≤ a ∨ 2 ^ n ≤ b ∨ 2 ^ n ≤ c) := by
    rw [Bool.eq_iff_iff]
    simp
  rw [eb]
  by_cases e : 2 ^ n ≤ a ∨ 2 ^ n ≤ b ∨ 2 ^ n ≤ c
  · rw [if_pos e, if_pos (decide_eq_true e)]; rfl
  · rw [if_neg e, if_neg (fun z => e (of_decide_eq_true z))]
    unfold aGiven
    cases Krae.fitBy n l with
    | nil => rfl
    | cons x L =>
      show told (if ((x :: L).any fun s => Krae.of s c == 0) = true then Krae.say (-62) else Krae.say (Krae.byAll (x :: L) (a &&& c) (b &&& c) : Nat)) = if ((x :: L).any fun s => Krae.of s c == 0) = true then [-62] else [((Krae.byAll (x :: L) (a &&& c) (b &&& c) : Nat) : Int)]
      cases ((x :: L).any fun s => Krae.of s c == 0) <;> rfl
theorem q_spare (n : Nat) (l : List Krae.Told) : ansQ n l .spare = aSpare n l := by
  show told (match Krae.fitBy n l with
    | [] => Krae.say (-33)
    | _ :: _ => Krae.list ((List.range l.length).filter fun i => (Krae.fitBy n (l.eraseIdx i)).length == (Krae.fitBy n l).length)) = _
  unfold aSpare
  cases Krae.fitBy n l <;> rfl
theorem q_clashes (n : Nat) (l : List Krae.Told) : ansQ n l .clashes = aClashes n l := by
  show told (if (Krae.fitBy n l).isEmpty = true then Krae.list (Krae.House.mk n l).clashes else Krae.say (-33)) = _
  unfold aClashes
  cases (Krae.fitBy n l).isEmpty <;> rfl
end
def Turned (C : Addr) (H : Hp) (Q : VK) (p q : Addr) (n : Nat) (l : List Krae.Told) (k : Nat) (nl : List Nat) : Prop :=
  ∀ (H' : Hp) (r q' : Addr) (n' : Nat) (l' : List Krae.Told), Sess C H' p q' n' l' → absOf n' l' = (step (absOf n l) (rawOf k nl)).1 → But2 p q H H' → (q' = q ∨ H q' = none) → H r = none → r ≠ q' →
    H' r = some (.lst ((step (absOf n l) (rawOf k nl)).2.map V.int)) → Q (.ref r) H'
def spSome (C : Addr) (ok : Nat → Prop) : Sp := fun vs H Q _ => ∃ (p q na : Addr) (n k : Nat) (nl : List Nat) (l : List Krae.Told), vs = [.ref p, .int k, .ref na] ∧ Sess C H p q n l ∧ H na = some (.lst (ns nl)) ∧ ok k ∧ Fits k nl ∧ (∀ x ∈ nl, x < 4294967296) ∧ (k = 0 ∨ 0 < n) ∧ Turned C H Q p q n l k nl
theorem Turned.says {C : Addr} {H : Hp} {Q : VK} {p q : Addr} {n k : Nat} {l : List Krae.Told} {nl : List Nat} {ans : List Int} (t : Turned C H Q p q n l k nl) (S : Sess C H p q n l) (e : step (absOf n l) (rawOf k nl) = (absOf n l, ans)) : Says H Q ans := fun H' r s hr hans => by
  obtain ⟨ts, ht⟩ := S.told
  exact t H' r q n l (S.same s) (by rw [e]) (fun b o h _ _ => s b o h) (.inl rfl) hr (ne_of_none ht.lst hr).symm (by rw [e]; exact hans)
theorem Turned.turns {C : Addr} {H : Hp} {Q : VK} {p q : Addr} {n k : Nat} {l l' : List Krae.Told} {nl : List Nat} {ans : Int} (t : Turned C H Q p q n l k nl) (S : Sess C H p q n l) (e : step (absOf n l) (rawOf k nl) = (absOf n l', [ans])) : Turns C H Q p q n l' ans := fun H' r S' but hr hans => by
  obtain ⟨ts, ht⟩ := S.told
  exact t H' r q n l' S' (by rw [e]) (fun b o h _ h2 => but b o h h2) (.inl rfl) hr (ne_of_none ht.lst hr).symm (by rw [e]; exact hans)
theorem Turned.up {C : Addr} {H H2 : Hp} {Q : VK} {p q : Addr} {n k : Nat} {l : List Krae.Told} {nl : List Nat} (s : Same H H2) (t : Turned C H Q p q n l k nl) : Turned C H2 Q p q n l k nl := fun H' r q' n' l' S e but hq hr hne hans =>
  t H' r q' n' l' S e (fun b o h h1 h2 => but b o (s b o h) h1 h2) (hq.imp id s.free) (s.free hr) hne hans
theorem len0 {l : List Nat} (h : l.length = 0) : l = [] := List.length_eq_zero_iff.mp h
theorem len1 {l : List Nat} (h : l.length = 1) : ∃ a, l = [a] := by
  match l, h with
  | [a], _ => exact ⟨a, rfl⟩
theorem len2 {l : List Nat} (h : l.length = 2) : ∃ a b, l = [a, b] := by
  match l, h with
  | [a, b], _ => exact ⟨a, b, rfl⟩
theorem len3 {l : List Nat} (h : l.length = 3) : ∃ a b c, l = [a, b, c] := by
  match l, h with
  | [a, b, c], _ => exact ⟨a, b, c, rfl⟩
theorem cut_tail {m : Nat} {x : List Nat} : cutV (ns (m :: x)) (some 1) none = ns x := by
  have e : cutV (ns (m :: x)) (some ((1 : Nat) : Int)) none = ns x := by
    unfold cutV
    rw [HT.sIx_nat, ns_length, Nat.min_eq_left (by rw [List.length_cons]; omega), show HT.sIx (m :: x).length (m :: x).length none = (m :: x).length from rfl]
    show List.take ((m :: x).length - 1) (ns x) = ns x
    exact List.take_of_length_le (by rw [ns_length, List.length_cons]; exact Nat.le_refl _)
  exact e
structure Gd (mg : Str → Option Value) : Prop extends Gu mg where
  NOT_BEGUN : ∃ t, mg "NOT_BEGUN" = some (Value.int (-11) t)
  BEGIN : ∃ t, mg "BEGIN" = some (Value.int 0 t)
  TELL : ∃ t, mg "TELL" = some (Value.int 1 t)
  UNTELL : ∃ t, mg "UNTELL" = some (Value.int 2 t)
  CAN : ∃ t, mg "CAN" = some (Value.int 3 t)
  WAYS : ∃ t, mg "WAYS" = some (Value.int 4 t)
  PLAINEST : ∃ t, mg "PLAINEST" = some (Value.int 5 t)
  RULES : ∃ t, mg "RULES" = some (Value.int 8 t)
  ALL_SHARES : ∃ t, mg "ALL_SHARES" = some (Value.int 9 t)
  BROKEN : ∃ t, mg "BROKEN" = some (Value.int 10 t)
  BEYOND : ∃ t, mg "BEYOND" = some (Value.int 11 t)
  WHOLE : ∃ t, mg "WHOLE" = some (Value.int 12 t)
  CHANCE : ∃ t, mg "CHANCE" = some (Value.int 13 t)
  GIVEN : ∃ t, mg "GIVEN" = some (Value.int 14 t)
  ALIKE : ∃ t, mg "ALIKE" = some (Value.int 15 t)
  CLASHES : ∃ t, mg "CLASHES" = some (Value.int 16 t)
  SPARE : ∃ t, mg "SPARE" = some (Value.int 17 t)
  LOOK : ∃ t, mg "LOOK" = some (Value.int 19 t)
  STATE : ∃ t, mg "STATE" = some (Value.int 20 t)
section
variable {P : Program} {w : World} {K : PySem.W.Frag} {mg : Str → Option Value} {base : Heap} {C : Addr}
theorem ok_about {f : Addr} {fd : FuncData} (F : Fun K "answer_about_told" "answer_about_told" s_answer_about_told f fd) (T : Txt K mg C) (G : Gd mg) {f_begin : Addr} {fd_begin : FuncData} (O_begin : FnOk P w K mg base CX0 1 f_begin fd_begin ["self", "worlds"] (spBegin C)) (M_begin : Meth K C "begin" f_begin) (B_begin : Binds K fd_begin ["self", "worlds"] []) {f_tell : Addr} {fd_tell : FuncData} (O_tell : FnOk P w K mg base CX0 2 f_tell fd_tell ["self", "kind", "first", "second"] (spTell C)) (M_tell : Meth K C "tell" f_tell) (B_tell : Binds K fd_tell ["self", "kind", "first", "second"] []) {f_untell : Addr} {fd_untell : FuncData} (O_untell : FnOk P w K mg base CX0 1 f_untell fd_untell ["self", "number"] (spUntell C)) (M_untell : Meth K C "untell" f_untell) (B_untell : Binds K fd_untell ["self", "number"] []) {f_look : Addr} {fd_look : FuncData} (O_look : FnOk P w K mg base CX0 1 f_look fd_look ["self", "number"] (spAsk1 C aLook)) (M_look : Meth K C "look" f_look) (B_look : Binds K fd_look ["self", "number"] []) {f_state : Addr} {fd_state : FuncData} (O_state : FnOk P w K mg base CX0 1 f_state fd_state ["self"] (spAsk C aState)) (M_state : Meth K C "state" f_state) (B_state : Binds K fd_state ["self"] []) : FnOk P w K mg base CX0 8 f fd ["session", "number", "numbers"] (spSome C fun k => k ∈ [0, 1, 2, 19, 20]) := by
  refine F.ok sc_answer_about_told (fun vs H Q E h => ?_) (fun cdv A outer s H vs Q E hr h => ?_)
  · obtain ⟨p, q, na, n, k, nl, l, rfl, _⟩ := h
    rfl
  · obtain ⟨p, q, na, n, k, nl, l, rfl, S, hna, hk, hfit, hsm, h0, tu⟩ := h
    obtain ⟨dx, hp⟩ := S.obj
    refine ⟨_, (pss_cons (ps_if (pt_cmpR op_eqn (pv 1) (pgi G.BEGIN) (nomark _)) (pss_one (ps_ret (pe_meth (pv 0) T.cl M_begin O_begin (hr.mono (by decide)) B_begin .nil pass0 (pa_cons (pe_ix (ixl (K := K)) (pv 2) pe_int (fun _ _ => rfl)) pa_nil)))) pss_nil)
      (pss_cons (ps_if (pt_cmpR op_eqn (pv 1) (pgi G.TELL) (nomark _)) (pss_one (ps_ret (pe_meth (pv 0) T.cl M_tell O_tell (hr.mono (by decide)) B_tell .nil pass0 (pa_cons (pe_ix (ixl (K := K)) (pv 2) pe_int (fun _ _ => rfl)) (pa_cons (pe_ix (ixl (K := K)) (pv 2) pe_int (fun _ _ => rfl)) (pa_cons (pe_ix (ixl (K := K)) (pv 2) pe_int (fun _ _ => rfl)) pa_nil)))))) pss_nil)
      (pss_cons (ps_if (pt_cmpR op_eqn (pv 1) (pgi G.UNTELL) (nomark _)) (pss_one (ps_ret (pe_meth (pv 0) T.cl M_untell O_untell (hr.mono (by decide)) B_untell .nil pass0 (pa_cons (pe_ix (ixl (K := K)) (pv 2) pe_int (fun _ _ => rfl)) pa_nil)))) pss_nil)
      (pss_cons (ps_if (pt_cmpR op_eqn (pv 1) (pgi G.LOOK) (nomark _)) (pss_one (ps_ret (pe_meth (pv 0) T.cl M_look O_look (hr.mono (by decide)) B_look .nil pass0 (pa_cons (pe_ix (ixl (K := K)) (pv 2) pe_int (fun _ _ => rfl)) pa_nil)))) pss_nil)
      (pss_one (ps_ret (pe_meth0 (pv 0) T.cl M_state O_state (hr.mono (by decide)) B_state .nil pass0))))))), ?_⟩
    simp only [List.mem_cons, List.not_mem_nil, or_false] at hk
    rcases hk with rfl | rfl | rfl | rfl | rfl
    · obtain ⟨a, rfl⟩ := len1 (show nl.length = 1 from hfit)
      refine ⟨_, rfl, 0, 0, rfl, rfl, _, rfl, iteT ?_⟩
      refine ⟨_, rfl, p, dx, _, rfl, hp, rfl, _, rfl, na, _, _, _, rfl, rfl, SqL.of hna, rfl, p, q, n, a, l, rfl, S, fun h => ?_, fun h H' r q' S' but hq' hr' hrq hans => ?_⟩
      · exact tu.says S (by rw [step_begin, if_pos h])
      · have e := step_begin (n := n) (l := l) (m := a)
        rw [if_neg h] at e
        exact tu H' r q' a [] S' (by rw [e]) but (.inr hq') hr' hrq (by rw [e]; exact hans)
    · obtain ⟨a, b, c, rfl⟩ := len3 (show nl.length = 3 from hfit)
      have hn : 0 < n := by omega
      refine ⟨_, rfl, 1, 0, rfl, rfl, _, rfl, iteF ⟨_, rfl, 1, 1, rfl, rfl, _, rfl, iteT ?_⟩⟩
      have e := step_tell (k := a) (a := b) (b := c) hn (l := l)
      refine ⟨_, rfl, p, dx, _, rfl, hp, rfl, _, rfl, na, _, _, _, rfl, rfl, SqL.of hna, rfl, _, rfl, na, _, _, _, rfl, rfl, SqL.of hna, rfl, _, rfl, na, _, _, _, rfl, rfl, SqL.of hna, rfl, p, q, n, a, b, c, l, rfl, S, fun h => ?_, fun h h6 => ?_, fun h h6 => ?_⟩
      · exact tu.says S (by rw [e, if_pos h])
      · exact tu.says S (by rw [e, if_neg h, if_pos h6])
      · exact tu.turns S (by rw [e, if_neg h, if_neg h6])
    · obtain ⟨a, rfl⟩ := len1 (show nl.length = 1 from hfit)
      have hn : 0 < n := by omega
      refine ⟨_, rfl, 2, 0, rfl, rfl, _, rfl, iteF ⟨_, rfl, 2, 1, rfl, rfl, _, rfl, iteF ⟨_, rfl, 2, 2, rfl, rfl, _, rfl, iteT ?_⟩⟩⟩
      have e := step_untell (t := a) hn (l := l)
      refine ⟨_, rfl, p, dx, _, rfl, hp, rfl, _, rfl, na, _, _, _, rfl, rfl, SqL.of hna, rfl, p, q, n, a, l, rfl, hsm a (.head _), S, fun h => ?_, fun h => ?_⟩
      · exact tu.says S (by rw [e, if_pos h])
      · exact tu.turns S (by rw [e, if_neg h])
    · obtain ⟨a, rfl⟩ := len1 (show nl.length = 1 from hfit)
      have hn : 0 < n := by omega
      refine ⟨_, rfl, 19, 0, rfl, rfl, _, rfl, iteF ⟨_, rfl, 19, 1, rfl, rfl, _, rfl, iteF ⟨_, rfl, 19, 2, rfl, rfl, _, rfl, iteF ⟨_, rfl, 19, 19, rfl, rfl, _, rfl, iteT ?_⟩⟩⟩⟩
      exact ⟨_, rfl, p, dx, _, rfl, hp, rfl, _, rfl, na, _, _, _, rfl, rfl, SqL.of hna, rfl, p, q, n, a, l, rfl, hn, S, tu.says S ((step_asks hn (c19 a) trivial).trans (by rw [q_look]))⟩
    · obtain rfl := len0 (show nl.length = 0 from hfit)
      have hn : 0 < n := by omega
      refine ⟨_, rfl, 20, 0, rfl, rfl, _, rfl, iteF ⟨_, rfl, 20, 1, rfl, rfl, _, rfl, iteF ⟨_, rfl, 20, 2, rfl, rfl, _, rfl, iteF ⟨_, rfl, 20, 19, rfl, rfl, _, rfl, iteF ?_⟩⟩⟩⟩
      exact ⟨_, rfl, p, dx, _, rfl, hp, rfl, p, q, n, l, rfl, hn, S, tu.says S ((step_asks hn c20 trivial).trans (by rw [q_state]))⟩
theorem ok_aboutFit {f : Addr} {fd : FuncData} (F : Fun K "answer_about_fitting" "answer_about_fitting" s_answer_about_fitting f fd) (T : Txt K mg C) (G : Gd mg) {f_can : Addr} {fd_can : FuncData} (O_can : FnOk P w K mg base CX0 7 f_can fd_can ["self"] (spAsk C aCan)) (M_can : Meth K C "can" f_can) (B_can : Binds K fd_can ["self"] []) {f_ways : Addr} {fd_ways : FuncData} (O_ways : FnOk P w K mg base CX0 7 f_ways fd_ways ["self"] (spAsk C aWays)) (M_ways : Meth K C "ways" f_ways) (B_ways : Binds K fd_ways ["self"] []) {f_plainest : Addr} {fd_plainest : FuncData} (O_plainest : FnOk P w K mg base CX0 7 f_plainest fd_plainest ["self"] (spAsk C aPlain)) (M_plainest : Meth K C "plainest" f_plainest) (B_plainest : Binds K fd_plainest ["self"] []) {f_fits : Addr} {fd_fits : FuncData} (O_fits : FnOk P w K mg base CX0 5 f_fits fd_fits ["self", "shares"] (spFitsX C)) (M_fits : Meth K C "fits" f_fits) (B_fits : Binds K fd_fits ["self", "shares"] []) {f_wrong : Addr} {fd_wrong : FuncData} (O_wrong : FnOk P w K mg base CX0 5 f_wrong fd_wrong ["self", "shares"] (spWrongX C)) (M_wrong : Meth K C "wrong" f_wrong) (B_wrong : Binds K fd_wrong ["self", "shares"] []) : FnOk P w K mg base CX0 8 f fd ["session", "number", "numbers"] (spSome C fun k => k ∈ [3, 4, 5, 6, 7]) := by
  refine F.ok sc_answer_about_fitting (fun vs H Q E h => ?_) (fun cdv A outer s H vs Q E hr h => ?_)
  · obtain ⟨p, q, na, n, k, nl, l, rfl, _⟩ := h
    rfl
  · obtain ⟨p, q, na, n, k, nl, l, rfl, S, hna, hk, hfit, hsm, h0, tu⟩ := h
    obtain ⟨dx, hp⟩ := S.obj
    refine ⟨_, (pss_cons (ps_if (pt_cmpR op_eqn (pv 1) (pgi G.CAN) (nomark _)) (pss_one (ps_ret (pe_meth0 (pv 0) T.cl M_can O_can (hr.mono (by decide)) B_can .nil pass0))) pss_nil)
      (pss_cons (ps_if (pt_cmpR op_eqn (pv 1) (pgi G.WAYS) (nomark _)) (pss_one (ps_ret (pe_meth0 (pv 0) T.cl M_ways O_ways (hr.mono (by decide)) B_ways .nil pass0))) pss_nil)
      (pss_cons (ps_if (pt_cmpR op_eqn (pv 1) (pgi G.PLAINEST) (nomark _)) (pss_one (ps_ret (pe_meth0 (pv 0) T.cl M_plainest O_plainest (hr.mono (by decide)) B_plainest .nil pass0))) pss_nil)
      (pss_cons (ps_if (pt_cmpR op_eqn (pv 1) (pgi G.FITS) (nomark _)) (pss_one (ps_ret (pe_meth (pv 0) T.cl M_fits O_fits (hr.mono (by decide)) B_fits .nil pass0 (pa_cons (pe_slice (sls (K := K)) (pv 2) (po_some pe_int) po_none) pa_nil)))) pss_nil)
      (pss_one (ps_ret (pe_meth (pv 0) T.cl M_wrong O_wrong (hr.mono (by decide)) B_wrong .nil pass0 (pa_cons (pe_slice (sls (K := K)) (pv 2) (po_some pe_int) po_none) pa_nil)))))))), ?_⟩
    simp only [List.mem_cons, List.not_mem_nil, or_false] at hk
    rcases hk with rfl | rfl | rfl | rfl | rfl
    · obtain rfl := len0 (show nl.length = 0 from hfit)
      have hn : 0 < n := by omega
      refine ⟨_, rfl, 3, 3, rfl, rfl, _, rfl, iteT ?_⟩
      exact ⟨_, rfl, p, dx, _, rfl, hp, rfl, p, q, n, l, rfl, hn, S, tu.says S ((step_asks hn c3 trivial).trans (by rw [q_can]))⟩
    · obtain rfl := len0 (show nl.length = 0 from hfit)
      have hn : 0 < n := by omega
      refine ⟨_, rfl, 4, 3, rfl, rfl, _, rfl, iteF ⟨_, rfl, 4, 4, rfl, rfl, _, rfl, iteT ?_⟩⟩
      exact ⟨_, rfl, p, dx, _, rfl, hp, rfl, p, q, n, l, rfl, hn, S, tu.says S ((step_asks hn c4 trivial).trans (by rw [q_ways]))⟩
    · obtain rfl := len0 (show nl.length = 0 from hfit)
      have hn : 0 < n := by omega
      refine ⟨_, rfl, 5, 3, rfl, rfl, _, rfl, iteF ⟨_, rfl, 5, 4, rfl, rfl, _, rfl, iteF ⟨_, rfl, 5, 5, rfl, rfl, _, rfl, iteT ?_⟩⟩⟩
      exact ⟨_, rfl, p, dx, _, rfl, hp, rfl, p, q, n, l, rfl, hn, S, tu.says S ((step_asks hn c5 trivial).trans (by rw [q_plainest]))⟩
    · obtain ⟨x, rfl⟩ := (show ∃ x : List Nat, nl = x.length :: x from hfit)
      have hn : 0 < n := by omega
      refine ⟨_, rfl, 6, 3, rfl, rfl, _, rfl, iteF ⟨_, rfl, 6, 4, rfl, rfl, _, rfl, iteF ⟨_, rfl, 6, 5, rfl, rfl, _, rfl, iteF ⟨_, rfl, 6, 6, rfl, rfl, _, rfl, iteT ?_⟩⟩⟩⟩
      have tu2 := tu.says S ((step_asks hn (c6 x.length x) trivial).trans (by rw [q_fits]))
      refine ⟨_, rfl, p, dx, _, rfl, hp, rfl, _, rfl, _, rfl, na, _, rfl, SqL.of hna, fun z hz => ?_⟩
      rw [cut_tail]
      exact ⟨p, q, z, n, l, x, rfl, hn, S.same (Same.new hz), upd_same, fun H' r s hr hans => tu2 H' r ((Same.new hz).trans s) ((Same.new hz).free hr) hans⟩
    · obtain ⟨x, rfl⟩ := (show ∃ x : List Nat, nl = x.length :: x from hfit)
      have hn : 0 < n := by omega
      refine ⟨_, rfl, 7, 3, rfl, rfl, _, rfl, iteF ⟨_, rfl, 7, 4, rfl, rfl, _, rfl, iteF ⟨_, rfl, 7, 5, rfl, rfl, _, rfl, iteF ⟨_, rfl, 7, 6, rfl, rfl, _, rfl, iteF ?_⟩⟩⟩⟩
      have tu2 := tu.says S ((step_asks hn (c7 x.length x) trivial).trans (by rw [q_wrong]))
      refine ⟨_, rfl, p, dx, _, rfl, hp, rfl, _, rfl, _, rfl, na, _, rfl, SqL.of hna, fun z hz => ?_⟩
      rw [cut_tail]
      exact ⟨p, q, z, n, l, x, rfl, hn, S.same (Same.new hz), upd_same, fun H' r s hr hans => tu2 H' r ((Same.new hz).trans s) ((Same.new hz).free hr) hans⟩
theorem ok_byShares {f : Addr} {fd : FuncData} (F : Fun K "answer_by_shares" "answer_by_shares" s_answer_by_shares f fd) (T : Txt K mg C) (G : Gd mg) {f_all_shares : Addr} {fd_all_shares : FuncData} (O_all_shares : FnOk P w K mg base CX0 7 f_all_shares fd_all_shares ["self", "first", "second"] (spAsk2 C aAll)) (M_all_shares : Meth K C "all_shares" f_all_shares) (B_all_shares : Binds K fd_all_shares ["self", "first", "second"] []) {f_given : Addr} {fd_given : FuncData} (O_given : FnOk P w K mg base CX0 7 f_given fd_given ["self", "first", "second", "within"] (spAsk3 C aGiven)) (M_given : Meth K C "given" f_given) (B_given : Binds K fd_given ["self", "first", "second", "within"] []) {f_chance : Addr} {fd_chance : FuncData} (O_chance : FnOk P w K mg base CX0 7 f_chance fd_chance ["self", "chosen"] (spAsk1 C aChance)) (M_chance : Meth K C "chance" f_chance) (B_chance : Binds K fd_chance ["self", "chosen"] []) {f_spare : Addr} {fd_spare : FuncData} (O_spare : FnOk P w K mg base CX0 6 f_spare fd_spare ["self"] (spAsk C aSpare)) (M_spare : Meth K C "spare" f_spare) (B_spare : Binds K fd_spare ["self"] []) {f_clashes : Addr} {fd_clashes : FuncData} (O_clashes : FnOk P w K mg base CX0 6 f_clashes fd_clashes ["self"] (spAsk C aClashes)) (M_clashes : Meth K C "clashes" f_clashes) (B_clashes : Binds K fd_clashes ["self"] []) : FnOk P w K mg base CX0 8 f fd ["session", "number", "numbers"] (spSome C fun k => k ∈ [9, 14, 13, 17, 16]) := by
  refine F.ok sc_answer_by_shares (fun vs H Q E h => ?_) (fun cdv A outer s H vs Q E hr h => ?_)
  · obtain ⟨p, q, na, n, k, nl, l, rfl, _⟩ := h
    rfl
  · obtain ⟨p, q, na, n, k, nl, l, rfl, S, hna, hk, hfit, hsm, h0, tu⟩ := h
    obtain ⟨dx, hp⟩ := S.obj
    refine ⟨_, (pss_cons (ps_if (pt_cmpR op_eqn (pv 1) (pgi G.ALL_SHARES) (nomark _)) (pss_one (ps_ret (pe_meth (pv 0) T.cl M_all_shares O_all_shares (hr.mono (by decide)) B_all_shares .nil pass0 (pa_cons (pe_ix (ixl (K := K)) (pv 2) pe_int (fun _ _ => rfl)) (pa_cons (pe_ix (ixl (K := K)) (pv 2) pe_int (fun _ _ => rfl)) pa_nil))))) pss_nil)
      (pss_cons (ps_if (pt_cmpR op_eqn (pv 1) (pgi G.GIVEN) (nomark _)) (pss_one (ps_ret (pe_meth (pv 0) T.cl M_given O_given (hr.mono (by decide)) B_given .nil pass0 (pa_cons (pe_ix (ixl (K := K)) (pv 2) pe_int (fun _ _ => rfl)) (pa_cons (pe_ix (ixl (K := K)) (pv 2) pe_int (fun _ _ => rfl)) (pa_cons (pe_ix (ixl (K := K)) (pv 2) pe_int (fun _ _ => rfl)) pa_nil)))))) pss_nil)
      (pss_cons (ps_if (pt_cmpR op_eqn (pv 1) (pgi G.CHANCE) (nomark _)) (pss_one (ps_ret (pe_meth (pv 0) T.cl M_chance O_chance (hr.mono (by decide)) B_chance .nil pass0 (pa_cons (pe_ix (ixl (K := K)) (pv 2) pe_int (fun _ _ => rfl)) pa_nil)))) pss_nil)
      (pss_cons (ps_if (pt_cmpR op_eqn (pv 1) (pgi G.SPARE) (nomark _)) (pss_one (ps_ret (pe_meth0 (pv 0) T.cl M_spare O_spare (hr.mono (by decide)) B_spare .nil pass0))) pss_nil)
      (pss_one (ps_ret (pe_meth0 (pv 0) T.cl M_clashes O_clashes (hr.mono (by decide)) B_clashes .nil pass0))))))), ?_⟩
    simp only [List.mem_cons, List.not_mem_nil, or_false] at hk
    rcases hk with rfl | rfl | rfl | rfl | rfl
    · obtain ⟨a, b, rfl⟩ := len2 (show nl.length = 2 from hfit)
      have hn : 0 < n := by omega
      refine ⟨_, rfl, 9, 9, rfl, rfl, _, rfl, iteT ?_⟩
      exact ⟨_, rfl, p, dx, _, rfl, hp, rfl, _, rfl, na, _, _, _, rfl, rfl, SqL.of hna, rfl, _, rfl, na, _, _, _, rfl, rfl, SqL.of hna, rfl, p, q, n, a, b, l, rfl, hn, S, tu.says S ((step_asks hn (c9 a b) trivial).trans (by rw [q_all]))⟩
    · obtain ⟨a, b, c, rfl⟩ := len3 (show nl.length = 3 from hfit)
      have hn : 0 < n := by omega
      refine ⟨_, rfl, 14, 9, rfl, rfl, _, rfl, iteF ⟨_, rfl, 14, 14, rfl, rfl, _, rfl, iteT ?_⟩⟩
      exact ⟨_, rfl, p, dx, _, rfl, hp, rfl, _, rfl, na, _, _, _, rfl, rfl, SqL.of hna, rfl, _, rfl, na, _, _, _, rfl, rfl, SqL.of hna, rfl, _, rfl, na, _, _, _, rfl, rfl, SqL.of hna, rfl, p, q, n, a, b, c, l, rfl, hn, S, tu.says S ((step_asks hn (c14 a b c) trivial).trans (by rw [q_given]))⟩
    · obtain ⟨a, rfl⟩ := len1 (show nl.length = 1 from hfit)
      have hn : 0 < n := by omega
      refine ⟨_, rfl, 13, 9, rfl, rfl, _, rfl, iteF ⟨_, rfl, 13, 14, rfl, rfl, _, rfl, iteF ⟨_, rfl, 13, 13, rfl, rfl, _, rfl, iteT ?_⟩⟩⟩
      exact ⟨_, rfl, p, dx, _, rfl, hp, rfl, _, rfl, na, _, _, _, rfl, rfl, SqL.of hna, rfl, p, q, n, a, l, rfl, hn, S, tu.says S ((step_asks hn (c13 a) trivial).trans (by rw [q_chance]))⟩
    · obtain rfl := len0 (show nl.length = 0 from hfit)
      have hn : 0 < n := by omega
      refine ⟨_, rfl, 17, 9, rfl, rfl, _, rfl, iteF ⟨_, rfl, 17, 14, rfl, rfl, _, rfl, iteF ⟨_, rfl, 17, 13, rfl, rfl, _, rfl, iteF ⟨_, rfl, 17, 17, rfl, rfl, _, rfl, iteT ?_⟩⟩⟩⟩
      exact ⟨_, rfl, p, dx, _, rfl, hp, rfl, p, q, n, l, rfl, hn, S, tu.says S ((step_asks hn c17 trivial).trans (by rw [q_spare]))⟩
    · obtain rfl := len0 (show nl.length = 0 from hfit)
      have hn : 0 < n := by omega
      refine ⟨_, rfl, 16, 9, rfl, rfl, _, rfl, iteF ⟨_, rfl, 16, 14, rfl, rfl, _, rfl, iteF ⟨_, rfl, 16, 13, rfl, rfl, _, rfl, iteF ⟨_, rfl, 16, 17, rfl, rfl, _, rfl, iteF ?_⟩⟩⟩⟩
      exact ⟨_, rfl, p, dx, _, rfl, hp, rfl, p, q, n, l, rfl, hn, S, tu.says S ((step_asks hn c16 trivial).trans (by rw [q_clashes]))⟩
theorem ok_byRules {f : Addr} {fd : FuncData} (F : Fun K "answer_by_rules" "answer_by_rules" s_answer_by_rules f fd) (T : Txt K mg C) (G : Gd mg) {f_rules : Addr} {fd_rules : FuncData} (O_rules : FnOk P w K mg base CX0 6 f_rules fd_rules ["self", "first", "second"] (spAsk2 C aRules)) (M_rules : Meth K C "rules" f_rules) (B_rules : Binds K fd_rules ["self", "first", "second"] []) {f_broken : Addr} {fd_broken : FuncData} (O_broken : FnOk P w K mg base CX0 6 f_broken fd_broken ["self"] (spAsk C aBroken)) (M_broken : Meth K C "broken" f_broken) (B_broken : Binds K fd_broken ["self"] []) {f_whole : Addr} {fd_whole : FuncData} (O_whole : FnOk P w K mg base CX0 6 f_whole fd_whole ["self"] (spAsk C aWhole)) (M_whole : Meth K C "whole" f_whole) (B_whole : Binds K fd_whole ["self"] []) {f_alike : Addr} {fd_alike : FuncData} (O_alike : FnOk P w K mg base CX0 6 f_alike fd_alike ["self"] (spAsk C aAlike)) (M_alike : Meth K C "alike" f_alike) (B_alike : Binds K fd_alike ["self"] []) {f_beyond : Addr} {fd_beyond : FuncData} (O_beyond : FnOk P w K mg base CX0 7 f_beyond fd_beyond ["self"] (spAsk C aBeyond)) (M_beyond : Meth K C "beyond" f_beyond) (B_beyond : Binds K fd_beyond ["self"] []) {f_settled : Addr} {fd_settled : FuncData} (O_settled : FnOk P w K mg base CX0 5 f_settled fd_settled ["self", "number"] (spAsk1 C aSettled)) (M_settled : Meth K C "settled" f_settled) (B_settled : Binds K fd_settled ["self", "number"] []) : FnOk P w K mg base CX0 8 f fd ["session", "number", "numbers"] (spSome C fun k => k ∈ [8, 10, 12, 15, 11, 18]) := by
  refine F.ok sc_answer_by_rules (fun vs H Q E h => ?_) (fun cdv A outer s H vs Q E hr h => ?_)
  · obtain ⟨p, q, na, n, k, nl, l, rfl, _⟩ := h
    rfl
  · obtain ⟨p, q, na, n, k, nl, l, rfl, S, hna, hk, hfit, hsm, h0, tu⟩ := h
    obtain ⟨dx, hp⟩ := S.obj
    refine ⟨_, (pss_cons (ps_if (pt_cmpR op_eqn (pv 1) (pgi G.RULES) (nomark _)) (pss_one (ps_ret (pe_meth (pv 0) T.cl M_rules O_rules (hr.mono (by decide)) B_rules .nil pass0 (pa_cons (pe_ix (ixl (K := K)) (pv 2) pe_int (fun _ _ => rfl)) (pa_cons (pe_ix (ixl (K := K)) (pv 2) pe_int (fun _ _ => rfl)) pa_nil))))) pss_nil)
      (pss_cons (ps_if (pt_cmpR op_eqn (pv 1) (pgi G.BROKEN) (nomark _)) (pss_one (ps_ret (pe_meth0 (pv 0) T.cl M_broken O_broken (hr.mono (by decide)) B_broken .nil pass0))) pss_nil)
      (pss_cons (ps_if (pt_cmpR op_eqn (pv 1) (pgi G.WHOLE) (nomark _)) (pss_one (ps_ret (pe_meth0 (pv 0) T.cl M_whole O_whole (hr.mono (by decide)) B_whole .nil pass0))) pss_nil)
      (pss_cons (ps_if (pt_cmpR op_eqn (pv 1) (pgi G.ALIKE) (nomark _)) (pss_one (ps_ret (pe_meth0 (pv 0) T.cl M_alike O_alike (hr.mono (by decide)) B_alike .nil pass0))) pss_nil)
      (pss_cons (ps_if (pt_cmpR op_eqn (pv 1) (pgi G.BEYOND) (nomark _)) (pss_one (ps_ret (pe_meth0 (pv 0) T.cl M_beyond O_beyond (hr.mono (by decide)) B_beyond .nil pass0))) pss_nil)
      (pss_one (ps_ret (pe_meth (pv 0) T.cl M_settled O_settled (hr.mono (by decide)) B_settled .nil pass0 (pa_cons (pe_ix (ixl (K := K)) (pv 2) pe_int (fun _ _ => rfl)) pa_nil))))))))), ?_⟩
    simp only [List.mem_cons, List.not_mem_nil, or_false] at hk
    rcases hk with rfl | rfl | rfl | rfl | rfl | rfl
    · obtain ⟨a, b, rfl⟩ := len2 (show nl.length = 2 from hfit)
      have hn : 0 < n := by omega
      refine ⟨_, rfl, 8, 8, rfl, rfl, _, rfl, iteT ?_⟩
      exact ⟨_, rfl, p, dx, _, rfl, hp, rfl, _, rfl, na, _, _, _, rfl, rfl, SqL.of hna, rfl, _, rfl, na, _, _, _, rfl, rfl, SqL.of hna, rfl, p, q, n, a, b, l, rfl, hn, S, tu.says S ((step_asks hn (c8 a b) trivial).trans (by rw [q_rules]))⟩
    · obtain rfl := len0 (show nl.length = 0 from hfit)
      have hn : 0 < n := by omega
      refine ⟨_, rfl, 10, 8, rfl, rfl, _, rfl, iteF ⟨_, rfl, 10, 10, rfl, rfl, _, rfl, iteT ?_⟩⟩
      exact ⟨_, rfl, p, dx, _, rfl, hp, rfl, p, q, n, l, rfl, hn, S, tu.says S ((step_asks hn c10 trivial).trans (by rw [q_broken]))⟩
    · obtain rfl := len0 (show nl.length = 0 from hfit)
      have hn : 0 < n := by omega
      refine ⟨_, rfl, 12, 8, rfl, rfl, _, rfl, iteF ⟨_, rfl, 12, 10, rfl, rfl, _, rfl, iteF ⟨_, rfl, 12, 12, rfl, rfl, _, rfl, iteT ?_⟩⟩⟩
      exact ⟨_, rfl, p, dx, _, rfl, hp, rfl, p, q, n, l, rfl, hn, S, tu.says S ((step_asks hn c12 trivial).trans (by rw [q_whole]))⟩
    · obtain rfl := len0 (show nl.length = 0 from hfit)
      have hn : 0 < n := by omega
      refine ⟨_, rfl, 15, 8, rfl, rfl, _, rfl, iteF ⟨_, rfl, 15, 10, rfl, rfl, _, rfl, iteF ⟨_, rfl, 15, 12, rfl, rfl, _, rfl, iteF ⟨_, rfl, 15, 15, rfl, rfl, _, rfl, iteT ?_⟩⟩⟩⟩
      exact ⟨_, rfl, p, dx, _, rfl, hp, rfl, p, q, n, l, rfl, hn, S, tu.says S ((step_asks hn c15 trivial).trans (by rw [q_alike]))⟩
    · obtain rfl := len0 (show nl.length = 0 from hfit)
      have hn : 0 < n := by omega
      refine ⟨_, rfl, 11, 8, rfl, rfl, _, rfl, iteF ⟨_, rfl, 11, 10, rfl, rfl, _, rfl, iteF ⟨_, rfl, 11, 12, rfl, rfl, _, rfl, iteF ⟨_, rfl, 11, 15, rfl, rfl, _, rfl, iteF ⟨_, rfl, 11, 11, rfl, rfl, _, rfl, iteT ?_⟩⟩⟩⟩⟩
      exact ⟨_, rfl, p, dx, _, rfl, hp, rfl, p, q, n, l, rfl, hn, S, tu.says S ((step_asks hn c11 trivial).trans (by rw [q_beyond]))⟩
    · obtain ⟨a, rfl⟩ := len1 (show nl.length = 1 from hfit)
      have hn : 0 < n := by omega
      refine ⟨_, rfl, 18, 8, rfl, rfl, _, rfl, iteF ⟨_, rfl, 18, 10, rfl, rfl, _, rfl, iteF ⟨_, rfl, 18, 12, rfl, rfl, _, rfl, iteF ⟨_, rfl, 18, 15, rfl, rfl, _, rfl, iteF ⟨_, rfl, 18, 11, rfl, rfl, _, rfl, iteF ?_⟩⟩⟩⟩⟩
      exact ⟨_, rfl, p, dx, _, rfl, hp, rfl, _, rfl, na, _, _, _, rfl, rfl, SqL.of hna, rfl, p, q, n, a, l, rfl, hn, S, tu.says S ((step_asks hn (c18 a) trivial).trans (by rw [q_settled S.n5 S.sets]))⟩
theorem not_begun {n k : Nat} {nl : List Nat} {l : List Krae.Told} (h21 : k < 21) (hk : k ≠ 0) (hn : n = 0) (hfit : Fits k nl) : step (absOf n l) (rawOf k nl) = (absOf n l, [-11]) := by
  subst hn
  refine step_not (c := KraeNeutral.call (rawOf k nl)) rfl fun m => ?_
  have h67 : k = 6 ∨ k = 7 ∨ (k ≠ 6 ∧ k ≠ 7) := by omega
  rcases h67 with rfl | rfl | ⟨h6, h7⟩
  · obtain ⟨x, rfl⟩ := (show ∃ x : List Nat, nl = x.length :: x from hfit)
    rw [c6]; intro z; cases z
  · obtain ⟨x, rfl⟩ := (show ∃ x : List Nat, nl = x.length :: x from hfit)
    rw [c7]; intro z; cases z
  · unfold Fits at hfit
    rw [if_neg (by omega)] at hfit
    match k, h21, hk, h6, h7, hfit with
    | 1, _, _, _, _, hfit => obtain ⟨a, b, c, rfl⟩ := len3 hfit; rw [c1]; intro z; cases z
    | 2, _, _, _, _, hfit => obtain ⟨a, rfl⟩ := len1 hfit; rw [c2]; intro z; cases z
    | 3, _, _, _, _, hfit => obtain rfl := len0 hfit; rw [c3]; intro z; cases z
    | 4, _, _, _, _, hfit => obtain rfl := len0 hfit; rw [c4]; intro z; cases z
    | 5, _, _, _, _, hfit => obtain rfl := len0 hfit; rw [c5]; intro z; cases z
    | 8, _, _, _, _, hfit => obtain ⟨a, b, rfl⟩ := len2 hfit; rw [c8]; intro z; cases z
    | 9, _, _, _, _, hfit => obtain ⟨a, b, rfl⟩ := len2 hfit; rw [c9]; intro z; cases z
    | 10, _, _, _, _, hfit => obtain rfl := len0 hfit; rw [c10]; intro z; cases z
    | 11, _, _, _, _, hfit => obtain rfl := len0 hfit; rw [c11]; intro z; cases z
    | 12, _, _, _, _, hfit => obtain rfl := len0 hfit; rw [c12]; intro z; cases z
    | 13, _, _, _, _, hfit => obtain ⟨a, rfl⟩ := len1 hfit; rw [c13]; intro z; cases z
    | 14, _, _, _, _, hfit => obtain ⟨a, b, c, rfl⟩ := len3 hfit; rw [c14]; intro z; cases z
    | 15, _, _, _, _, hfit => obtain rfl := len0 hfit; rw [c15]; intro z; cases z
    | 16, _, _, _, _, hfit => obtain rfl := len0 hfit; rw [c16]; intro z; cases z
    | 17, _, _, _, _, hfit => obtain rfl := len0 hfit; rw [c17]; intro z; cases z
    | 18, _, _, _, _, hfit => obtain ⟨a, rfl⟩ := len1 hfit; rw [c18]; intro z; cases z
    | 19, _, _, _, _, hfit => obtain ⟨a, rfl⟩ := len1 hfit; rw [c19]; intro z; cases z
    | 20, _, _, _, _, hfit => obtain rfl := len0 hfit; rw [c20]; intro z; cases z
    | k + 21, h, _, _, _, _ => exact absurd h (by omega)
theorem ok_answerTo {f : Addr} {fd : FuncData} (F : Fun K "answer_to" "answer_to" s_answer_to f fd) (T : Txt K mg C) (G : Gd mg) {f_has_begun : Addr} {fd_has_begun : FuncData} (O_has_begun : FnOk P w K mg base CX0 1 f_has_begun fd_has_begun ["self"] (spBegun C)) (M_has_begun : Meth K C "has_begun" f_has_begun) (B_has_begun : Binds K fd_has_begun ["self"] []) {f_answer_about_told : Addr} {fd_answer_about_told : FuncData} (O_answer_about_told : FnOk P w K mg base CX0 8 f_answer_about_told fd_answer_about_told ["session", "number", "numbers"] (spSome C fun k => k ∈ [0, 1, 2, 19, 20])) (D_answer_about_told : Df K mg "answer_about_told" f_answer_about_told fd_answer_about_told ["session", "number", "numbers"]) {f_answer_about_fitting : Addr} {fd_answer_about_fitting : FuncData} (O_answer_about_fitting : FnOk P w K mg base CX0 8 f_answer_about_fitting fd_answer_about_fitting ["session", "number", "numbers"] (spSome C fun k => k ∈ [3, 4, 5, 6, 7])) (D_answer_about_fitting : Df K mg "answer_about_fitting" f_answer_about_fitting fd_answer_about_fitting ["session", "number", "numbers"]) {f_answer_by_shares : Addr} {fd_answer_by_shares : FuncData} (O_answer_by_shares : FnOk P w K mg base CX0 8 f_answer_by_shares fd_answer_by_shares ["session", "number", "numbers"] (spSome C fun k => k ∈ [9, 14, 13, 17, 16])) (D_answer_by_shares : Df K mg "answer_by_shares" f_answer_by_shares fd_answer_by_shares ["session", "number", "numbers"]) {f_answer_by_rules : Addr} {fd_answer_by_rules : FuncData} (O_answer_by_rules : FnOk P w K mg base CX0 8 f_answer_by_rules fd_answer_by_rules ["session", "number", "numbers"] (spSome C fun k => k ∈ [8, 10, 12, 15, 11, 18])) (D_answer_by_rules : Df K mg "answer_by_rules" f_answer_by_rules fd_answer_by_rules ["session", "number", "numbers"]) : FnOk P w K mg base CX0 10 f fd ["session", "number", "numbers"] (spAnswerTo C) := by
  refine F.ok sc_answer_to (fun vs H Q E h => ?_) (fun cdv A outer s H vs Q E hr h => ?_)
  · obtain ⟨p, q, na, n, k, nl, l, rfl, _⟩ := h
    rfl
  · obtain ⟨p, q, na, n, k, nl, l, rfl, S, hna, h21, hfit, hsm, tu0⟩ := h
    have tu : Turned C H Q p q n l k nl := tu0
    obtain ⟨dx, hp⟩ := S.obj
    refine ⟨_, (pss_cons (ps_if (pw_and (pt_cmpR op_nen (pv 1) (pgi G.BEGIN) (nomark _)) (pw_and1 (pt_not (pt_val (pe_meth0 (pv 0) T.cl M_has_begun O_has_begun (hr.mono (by decide)) B_has_begun .nil pass0))))).pt (pss_one (ps_ret (pe_lst (pa_cons (pgi G.NOT_BEGUN) pa_nil)))) pss_nil)
      (pss_cons (ps_if (pt_cmpR (ins_ (K := K)) (pv 1) (pe_tup (pa_cons (pgi G.BEGIN) (pa_cons (pgi G.TELL) (pa_cons (pgi G.UNTELL) (pa_cons (pgi G.LOOK) (pa_cons (pgi G.STATE) pa_nil)))))) rfl) (pss_one (ps_ret (pe_call O_answer_about_told (hr.mono (by decide)) rfl D_answer_about_told.mg D_answer_about_told.kp D_answer_about_told.b .nil pass0 (pa_cons (pv 0) (pa_cons (pv 1) (pa_cons (pv 2) pa_nil)))))) pss_nil)
      (pss_cons (ps_if (pt_cmpR (ins_ (K := K)) (pv 1) (pe_tup (pa_cons (pgi G.CAN) (pa_cons (pgi G.WAYS) (pa_cons (pgi G.PLAINEST) (pa_cons (pgi G.FITS) (pa_cons (pgi G.WRONG) pa_nil)))))) rfl) (pss_one (ps_ret (pe_call O_answer_about_fitting (hr.mono (by decide)) rfl D_answer_about_fitting.mg D_answer_about_fitting.kp D_answer_about_fitting.b .nil pass0 (pa_cons (pv 0) (pa_cons (pv 1) (pa_cons (pv 2) pa_nil)))))) pss_nil)
      (pss_cons (ps_if (pt_cmpR (ins_ (K := K)) (pv 1) (pe_tup (pa_cons (pgi G.ALL_SHARES) (pa_cons (pgi G.GIVEN) (pa_cons (pgi G.CHANCE) (pa_cons (pgi G.SPARE) (pa_cons (pgi G.CLASHES) pa_nil)))))) rfl) (pss_one (ps_ret (pe_call O_answer_by_shares (hr.mono (by decide)) rfl D_answer_by_shares.mg D_answer_by_shares.kp D_answer_by_shares.b .nil pass0 (pa_cons (pv 0) (pa_cons (pv 1) (pa_cons (pv 2) pa_nil)))))) pss_nil)
      (pss_one (ps_ret (pe_call O_answer_by_rules (hr.mono (by decide)) rfl D_answer_by_rules.mg D_answer_by_rules.kp D_answer_by_rules.b .nil pass0 (pa_cons (pv 0) (pa_cons (pv 1) (pa_cons (pv 2) pa_nil)))))))))), ?_⟩
    refine ⟨_, rfl, k, 0, rfl, rfl, _, rfl, ?_⟩
    have hcase : (k ≠ 0 ∧ n = 0) ∨ k = 0 ∨ (k ≠ 0 ∧ 0 < n) := by omega
    rcases hcase with ⟨hk, hn⟩ | hk | ⟨hk, hn⟩
    · rw [decide_eq_false hk]
      refine iteT ⟨_, rfl, p, dx, _, rfl, hp, rfl, p, q, dx, n, rfl, hp, _, rfl, ?_⟩
      rw [decide_eq_false (by omega)]
      refine iteT ⟨by show 1 ≤ sizeLine; decide, fun r hr1 => ?_⟩
      exact tu.says S (not_begun h21 hk hn hfit) _ r (Same.new hr1) hr1 upd_same
    · rw [decide_eq_true hk]
      refine iteF (iteF ?_)
      have h0 : k = 0 ∨ 0 < n := .inl hk
      refine ⟨_, rfl, by show 5 ≤ sizeLine; decide, fun z1 hz1 => ⟨z1, _, rfl, .inr (SqT.of upd_same), rfl, rfl, _, rfl, ?_⟩⟩
      have s1 := Same.new (o := .tup [V.int 0, V.int 1, V.int 2, V.int 19, V.int 20]) hz1
      have e1 := inN k [0, 1, 2, 19, 20]
      show if inV (.int (k : Int)) (ns [0, 1, 2, 19, 20]) = true then _ else _
      rw [e1]
      refine ite2 (fun hin => ?_) (fun hin => ?_)
      · exact ⟨_, rfl, _, rfl, _, rfl, p, q, na, n, k, nl, l, rfl, S.same s1, s1 _ _ hna, of_decide_eq_true hin, hfit, hsm, h0, tu.up s1⟩
      have n1 : ¬ k ∈ [0, 1, 2, 19, 20] := fun y => hin (decide_eq_true y)
      refine ⟨_, rfl, by show 5 ≤ sizeLine; decide, fun z2 hz2 => ⟨z2, _, rfl, .inr (SqT.of upd_same), rfl, rfl, _, rfl, ?_⟩⟩
      have s2 := s1.trans (Same.new (o := .tup [V.int 3, V.int 4, V.int 5, V.int 6, V.int 7]) hz2)
      have e2 := inN k [3, 4, 5, 6, 7]
      show if inV (.int (k : Int)) (ns [3, 4, 5, 6, 7]) = true then _ else _
      rw [e2]
      refine ite2 (fun hin2 => ?_) (fun hin2 => ?_)
      · exact ⟨_, rfl, _, rfl, _, rfl, p, q, na, n, k, nl, l, rfl, S.same s2, s2 _ _ hna, of_decide_eq_true hin2, hfit, hsm, h0, tu.up s2⟩
      have n2 : ¬ k ∈ [3, 4, 5, 6, 7] := fun y => hin2 (decide_eq_true y)
      refine ⟨_, rfl, by show 5 ≤ sizeLine; decide, fun z3 hz3 => ⟨z3, _, rfl, .inr (SqT.of upd_same), rfl, rfl, _, rfl, ?_⟩⟩
      have s3 := s2.trans (Same.new (o := .tup [V.int 9, V.int 14, V.int 13, V.int 17, V.int 16]) hz3)
      have e3 := inN k [9, 14, 13, 17, 16]
      show if inV (.int (k : Int)) (ns [9, 14, 13, 17, 16]) = true then _ else _
      rw [e3]
      refine ite2 (fun hin3 => ?_) (fun hin3 => ?_)
      · exact ⟨_, rfl, _, rfl, _, rfl, p, q, na, n, k, nl, l, rfl, S.same s3, s3 _ _ hna, of_decide_eq_true hin3, hfit, hsm, h0, tu.up s3⟩
      have n3 : ¬ k ∈ [9, 14, 13, 17, 16] := fun y => hin3 (decide_eq_true y)
      have n4 : k ∈ [8, 10, 12, 15, 11, 18] := by
        simp only [List.mem_cons, List.not_mem_nil, or_false] at n1 n2 n3 ⊢
        omega
      exact ⟨_, rfl, _, rfl, _, rfl, p, q, na, n, k, nl, l, rfl, S.same s3, s3 _ _ hna, n4, hfit, hsm, h0, tu.up s3⟩
    · rw [decide_eq_false hk]
      refine iteT ⟨_, rfl, p, dx, _, rfl, hp, rfl, p, q, dx, n, rfl, hp, _, rfl, ?_⟩
      rw [decide_eq_true hn]
      refine iteF ?_
      have h0 : k = 0 ∨ 0 < n := .inr hn
      refine ⟨_, rfl, by show 5 ≤ sizeLine; decide, fun z1 hz1 => ⟨z1, _, rfl, .inr (SqT.of upd_same), rfl, rfl, _, rfl, ?_⟩⟩
      have s1 := Same.new (o := .tup [V.int 0, V.int 1, V.int 2, V.int 19, V.int 20]) hz1
      have e1 := inN k [0, 1, 2, 19, 20]
      show if inV (.int (k : Int)) (ns [0, 1, 2, 19, 20]) = true then _ else _
      rw [e1]
      refine ite2 (fun hin => ?_) (fun hin => ?_)
      · exact ⟨_, rfl, _, rfl, _, rfl, p, q, na, n, k, nl, l, rfl, S.same s1, s1 _ _ hna, of_decide_eq_true hin, hfit, hsm, h0, tu.up s1⟩
      have n1 : ¬ k ∈ [0, 1, 2, 19, 20] := fun y => hin (decide_eq_true y)
      refine ⟨_, rfl, by show 5 ≤ sizeLine; decide, fun z2 hz2 => ⟨z2, _, rfl, .inr (SqT.of upd_same), rfl, rfl, _, rfl, ?_⟩⟩
      have s2 := s1.trans (Same.new (o := .tup [V.int 3, V.int 4, V.int 5, V.int 6, V.int 7]) hz2)
      have e2 := inN k [3, 4, 5, 6, 7]
      show if inV (.int (k : Int)) (ns [3, 4, 5, 6, 7]) = true then _ else _
      rw [e2]
      refine ite2 (fun hin2 => ?_) (fun hin2 => ?_)
      · exact ⟨_, rfl, _, rfl, _, rfl, p, q, na, n, k, nl, l, rfl, S.same s2, s2 _ _ hna, of_decide_eq_true hin2, hfit, hsm, h0, tu.up s2⟩
      have n2 : ¬ k ∈ [3, 4, 5, 6, 7] := fun y => hin2 (decide_eq_true y)
      refine ⟨_, rfl, by show 5 ≤ sizeLine; decide, fun z3 hz3 => ⟨z3, _, rfl, .inr (SqT.of upd_same), rfl, rfl, _, rfl, ?_⟩⟩
      have s3 := s2.trans (Same.new (o := .tup [V.int 9, V.int 14, V.int 13, V.int 17, V.int 16]) hz3)
      have e3 := inN k [9, 14, 13, 17, 16]
      show if inV (.int (k : Int)) (ns [9, 14, 13, 17, 16]) = true then _ else _
      rw [e3]
      refine ite2 (fun hin3 => ?_) (fun hin3 => ?_)
      · exact ⟨_, rfl, _, rfl, _, rfl, p, q, na, n, k, nl, l, rfl, S.same s3, s3 _ _ hna, of_decide_eq_true hin3, hfit, hsm, h0, tu.up s3⟩
      have n3 : ¬ k ∈ [9, 14, 13, 17, 16] := fun y => hin3 (decide_eq_true y)
      have n4 : k ∈ [8, 10, 12, 15, 11, 18] := by
        simp only [List.mem_cons, List.not_mem_nil, or_false] at n1 n2 n3 ⊢
        omega
      exact ⟨_, rfl, _, rfl, _, rfl, p, q, na, n, k, nl, l, rfl, S.same s3, s3 _ _ hna, n4, hfit, hsm, h0, tu.up s3⟩
end
end Lk
end
section
set_option Elab.async false
set_option linter.all false
set_option maxRecDepth 100000
set_option maxHeartbeats 4000000
namespace Lk
open PySem PySem.Spec PyProof.Rows L2
theorem all_mk {P : Program} {w : World} {K : PySem.W.Frag} {h : Heap} {mg : Str → Option Value} {fa C : Addr} (X : K.In h) (G0 : h.Ns mainGlobals mg) (hfa : mg "answers" = some (.ref fa))
    {oc_row_of_parts kV_row_of_parts dc_row_of_parts pm_row_of_parts cd_row_of_parts ct_row_of_parts : Value} {od_row_of_parts an_row_of_parts : Option Addr} {sl_row_of_parts : Array (Option Value)} {f_row_of_parts : Addr}
    {oc_raise_to kV_raise_to dc_raise_to pm_raise_to cd_raise_to ct_raise_to : Value} {od_raise_to an_raise_to : Option Addr} {sl_raise_to : Array (Option Value)} {f_raise_to : Addr}
    {oc_table_at_first kV_table_at_first dc_table_at_first pm_table_at_first cd_table_at_first ct_table_at_first : Value} {od_table_at_first an_table_at_first : Option Addr} {sl_table_at_first : Array (Option Value)} {f_table_at_first : Addr}
    {oc_without kV_without dc_without pm_without cd_without ct_without : Value} {od_without an_without : Option Addr} {sl_without : Array (Option Value)} {f_without : Addr}
    {oc_highest_apart kV_highest_apart dc_highest_apart pm_highest_apart cd_highest_apart ct_highest_apart : Value} {od_highest_apart an_highest_apart : Option Addr} {sl_highest_apart : Array (Option Value)} {f_highest_apart : Addr}
    {oc_row_with_common kV_row_with_common dc_row_with_common pm_row_with_common cd_row_with_common ct_row_with_common : Value} {od_row_with_common an_row_with_common : Option Addr} {sl_row_with_common : Array (Option Value)} {f_row_with_common : Addr}
    {oc_same_with_any_put_to_both kV_same_with_any_put_to_both dc_same_with_any_put_to_both pm_same_with_any_put_to_both cd_same_with_any_put_to_both ct_same_with_any_put_to_both : Value} {od_same_with_any_put_to_both an_same_with_any_put_to_both : Option Addr} {sl_same_with_any_put_to_both : Array (Option Value)} {f_same_with_any_put_to_both : Addr}
    {oc_row_through kV_row_through dc_row_through pm_row_through cd_row_through ct_row_through : Value} {od_row_through an_row_through : Option Addr} {sl_row_through : Array (Option Value)} {f_row_through : Addr}
    {oc_from_one_to_the_next kV_from_one_to_the_next dc_from_one_to_the_next pm_from_one_to_the_next cd_from_one_to_the_next ct_from_one_to_the_next : Value} {od_from_one_to_the_next an_from_one_to_the_next : Option Addr} {sl_from_one_to_the_next : Array (Option Value)} {f_from_one_to_the_next : Addr}
    {oc_table_by_rules kV_table_by_rules dc_table_by_rules pm_table_by_rules cd_table_by_rules ct_table_by_rules : Value} {od_table_by_rules an_table_by_rules : Option Addr} {sl_table_by_rules : Array (Option Value)} {f_table_by_rules : Addr}
    {oc_is_broken kV_is_broken dc_is_broken pm_is_broken cd_is_broken ct_is_broken : Value} {od_is_broken an_is_broken : Option Addr} {sl_is_broken : Array (Option Value)} {f_is_broken : Addr}
    {oc_is_told_by kV_is_told_by dc_is_told_by pm_is_told_by cd_is_told_by ct_is_told_by : Value} {od_is_told_by an_is_told_by : Option Addr} {sl_is_told_by : Array (Option Value)} {f_is_told_by : Addr}
    {oc_is_shares kV_is_shares dc_is_shares pm_is_shares cd_is_shares ct_is_shares : Value} {od_is_shares an_is_shares : Option Addr} {sl_is_shares : Array (Option Value)} {f_is_shares : Addr}
    {oc_share_of kV_share_of dc_share_of pm_share_of cd_share_of ct_share_of : Value} {od_share_of an_share_of : Option Addr} {sl_share_of : Array (Option Value)} {f_share_of : Addr}
    {oc_lead kV_lead dc_lead pm_lead cd_lead ct_lead : Value} {od_lead an_lead : Option Addr} {sl_lead : Array (Option Value)} {f_lead : Addr}
    {oc_agree kV_agree dc_agree pm_agree cd_agree ct_agree : Value} {od_agree an_agree : Option Addr} {sl_agree : Array (Option Value)} {f_agree : Addr}
    {oc_disagreed kV_disagreed dc_disagreed pm_disagreed cd_disagreed ct_disagreed : Value} {od_disagreed an_disagreed : Option Addr} {sl_disagreed : Array (Option Value)} {f_disagreed : Addr}
    {oc_fit kV_fit dc_fit pm_fit cd_fit ct_fit : Value} {od_fit an_fit : Option Addr} {sl_fit : Array (Option Value)} {f_fit : Addr}
    {oc_one_world_more kV_one_world_more dc_one_world_more pm_one_world_more cd_one_world_more ct_one_world_more : Value} {od_one_world_more an_one_world_more : Option Addr} {sl_one_world_more : Array (Option Value)} {f_one_world_more : Addr}
    {oc_shares_together kV_shares_together dc_shares_together pm_shares_together cd_shares_together ct_shares_together : Value} {od_shares_together an_shares_together : Option Addr} {sl_shares_together : Array (Option Value)} {f_shares_together : Addr}
    {oc_shares_in_order kV_shares_in_order dc_shares_in_order pm_shares_in_order cd_shares_in_order ct_shares_in_order : Value} {od_shares_in_order an_shares_in_order : Option Addr} {sl_shares_in_order : Array (Option Value)} {f_shares_in_order : Addr}
    {oc_some_have_none kV_some_have_none dc_some_have_none pm_some_have_none cd_some_have_none ct_some_have_none : Value} {od_some_have_none an_some_have_none : Option Addr} {sl_some_have_none : Array (Option Value)} {f_some_have_none : Addr}
    {oc_fitting_shares kV_fitting_shares dc_fitting_shares pm_fitting_shares cd_fitting_shares ct_fitting_shares : Value} {od_fitting_shares an_fitting_shares : Option Addr} {sl_fitting_shares : Array (Option Value)} {f_fitting_shares : Addr}
    {oc_told_by_all kV_told_by_all dc_told_by_all pm_told_by_all cd_told_by_all ct_told_by_all : Value} {od_told_by_all an_told_by_all : Option Addr} {sl_told_by_all : Array (Option Value)} {f_told_by_all : Addr}
    {oc_chance_by kV_chance_by dc_chance_by pm_chance_by cd_chance_by ct_chance_by : Value} {od_chance_by an_chance_by : Option Addr} {sl_chance_by : Array (Option Value)} {f_chance_by : Addr}
    {oc_is_less kV_is_less dc_is_less pm_is_less cd_is_less ct_is_less : Value} {od_is_less an_is_less : Option Addr} {sl_is_less : Array (Option Value)} {f_is_less : Addr}
    {oc_least_chance kV_least_chance dc_least_chance pm_least_chance cd_least_chance ct_least_chance : Value} {od_least_chance an_least_chance : Option Addr} {sl_least_chance : Array (Option Value)} {f_least_chance : Addr}
    {oc_greatest_chance kV_greatest_chance dc_greatest_chance pm_greatest_chance cd_greatest_chance ct_greatest_chance : Value} {od_greatest_chance an_greatest_chance : Option Addr} {sl_greatest_chance : Array (Option Value)} {f_greatest_chance : Addr}
    {oc_greatest_common_divisor kV_greatest_common_divisor dc_greatest_common_divisor pm_greatest_common_divisor cd_greatest_common_divisor ct_greatest_common_divisor : Value} {od_greatest_common_divisor an_greatest_common_divisor : Option Addr} {sl_greatest_common_divisor : Array (Option Value)} {f_greatest_common_divisor : Addr}
    {oc_as_fraction kV_as_fraction dc_as_fraction pm_as_fraction cd_as_fraction ct_as_fraction : Value} {od_as_fraction an_as_fraction : Option Addr} {sl_as_fraction : Array (Option Value)} {f_as_fraction : Addr}
    {oc_set_of kV_set_of dc_set_of pm_set_of cd_set_of ct_set_of : Value} {od_set_of an_set_of : Option Addr} {sl_set_of : Array (Option Value)} {f_set_of : Addr}
    {oc_wrong_sets kV_wrong_sets dc_wrong_sets pm_wrong_sets cd_wrong_sets ct_wrong_sets : Value} {od_wrong_sets an_wrong_sets : Option Addr} {sl_wrong_sets : Array (Option Value)} {f_wrong_sets : Addr}
    {oc_some_fit kV_some_fit dc_some_fit pm_some_fit cd_some_fit ct_some_fit : Value} {od_some_fit an_some_fit : Option Addr} {sl_some_fit : Array (Option Value)} {f_some_fit : Addr}
    {oc_some_agree kV_some_agree dc_some_agree pm_some_agree cd_some_agree ct_some_agree : Value} {od_some_agree an_some_agree : Option Addr} {sl_some_agree : Array (Option Value)} {f_some_agree : Addr}
    {oc_one_left_out kV_one_left_out dc_one_left_out pm_one_left_out cd_one_left_out ct_one_left_out : Value} {od_one_left_out an_one_left_out : Option Addr} {sl_one_left_out : Array (Option Value)} {f_one_left_out : Addr}
    {oc_is_clash kV_is_clash dc_is_clash pm_is_clash cd_is_clash ct_is_clash : Value} {od_is_clash an_is_clash : Option Addr} {sl_is_clash : Array (Option Value)} {f_is_clash : Addr}
    {oc_all_clashes kV_all_clashes dc_all_clashes pm_all_clashes cd_all_clashes ct_all_clashes : Value} {od_all_clashes an_all_clashes : Option Addr} {sl_all_clashes : Array (Option Value)} {f_all_clashes : Addr}
    {oc_all_spare kV_all_spare dc_all_spare pm_all_spare cd_all_spare ct_all_spare : Value} {od_all_spare an_all_spare : Option Addr} {sl_all_spare : Array (Option Value)} {f_all_spare : Addr}
    {oc_pairs_apart kV_pairs_apart dc_pairs_apart pm_pairs_apart cd_pairs_apart ct_pairs_apart : Value} {od_pairs_apart an_pairs_apart : Option Addr} {sl_pairs_apart : Array (Option Value)} {f_pairs_apart : Addr}
    {oc_is_told_of kV_is_told_of dc_is_told_of pm_is_told_of cd_is_told_of ct_is_told_of : Value} {od_is_told_of an_is_told_of : Option Addr} {sl_is_told_of : Array (Option Value)} {f_is_told_of : Addr}
    {oc_is_whole kV_is_whole dc_is_whole pm_is_whole cd_is_whole ct_is_whole : Value} {od_is_whole an_is_whole : Option Addr} {sl_is_whole : Array (Option Value)} {f_is_whole : Addr}
    {oc_is_alike kV_is_alike dc_is_alike pm_is_alike cd_is_alike ct_is_alike : Value} {od_is_alike an_is_alike : Option Addr} {sl_is_alike : Array (Option Value)} {f_is_alike : Addr}
    {oc_alike_pairs kV_alike_pairs dc_alike_pairs pm_alike_pairs cd_alike_pairs ct_alike_pairs : Value} {od_alike_pairs an_alike_pairs : Option Addr} {sl_alike_pairs : Array (Option Value)} {f_alike_pairs : Addr}
    {oc_is_beyond kV_is_beyond dc_is_beyond pm_is_beyond cd_is_beyond ct_is_beyond : Value} {od_is_beyond an_is_beyond : Option Addr} {sl_is_beyond : Array (Option Value)} {f_is_beyond : Addr}
    {oc_beyond_pairs kV_beyond_pairs dc_beyond_pairs pm_beyond_pairs cd_beyond_pairs ct_beyond_pairs : Value} {od_beyond_pairs an_beyond_pairs : Option Addr} {sl_beyond_pairs : Array (Option Value)} {f_beyond_pairs : Addr}
    {oc_end_of_call kV_end_of_call dc_end_of_call pm_end_of_call cd_end_of_call ct_end_of_call : Value} {od_end_of_call an_end_of_call : Option Addr} {sl_end_of_call : Array (Option Value)} {f_end_of_call : Addr}
    {oc_answer_about_told kV_answer_about_told dc_answer_about_told pm_answer_about_told cd_answer_about_told ct_answer_about_told : Value} {od_answer_about_told an_answer_about_told : Option Addr} {sl_answer_about_told : Array (Option Value)} {f_answer_about_told : Addr}
    {oc_answer_about_fitting kV_answer_about_fitting dc_answer_about_fitting pm_answer_about_fitting cd_answer_about_fitting ct_answer_about_fitting : Value} {od_answer_about_fitting an_answer_about_fitting : Option Addr} {sl_answer_about_fitting : Array (Option Value)} {f_answer_about_fitting : Addr}
    {oc_answer_by_shares kV_answer_by_shares dc_answer_by_shares pm_answer_by_shares cd_answer_by_shares ct_answer_by_shares : Value} {od_answer_by_shares an_answer_by_shares : Option Addr} {sl_answer_by_shares : Array (Option Value)} {f_answer_by_shares : Addr}
    {oc_answer_by_rules kV_answer_by_rules dc_answer_by_rules pm_answer_by_rules cd_answer_by_rules ct_answer_by_rules : Value} {od_answer_by_rules an_answer_by_rules : Option Addr} {sl_answer_by_rules : Array (Option Value)} {f_answer_by_rules : Addr}
    {oc_answer_to kV_answer_to dc_answer_to pm_answer_to cd_answer_to ct_answer_to : Value} {od_answer_to an_answer_to : Option Addr} {sl_answer_to : Array (Option Value)} {f_answer_to : Addr}
    {oc_answers kV_answers dc_answers pm_answers cd_answers ct_answers : Value} {od_answers an_answers : Option Addr} {sl_answers : Array (Option Value)} {f_answers : Addr}
    {oc_m___init__ kV_m___init__ dc_m___init__ pm_m___init__ cd_m___init__ ct_m___init__ : Value} {od_m___init__ an_m___init__ : Option Addr} {sl_m___init__ : Array (Option Value)} {f_m___init__ : Addr}
    {oc_m_has_begun kV_m_has_begun dc_m_has_begun pm_m_has_begun cd_m_has_begun ct_m_has_begun : Value} {od_m_has_begun an_m_has_begun : Option Addr} {sl_m_has_begun : Array (Option Value)} {f_m_has_begun : Addr}
    {oc_m_is_set kV_m_is_set dc_m_is_set pm_m_is_set cd_m_is_set ct_m_is_set : Value} {od_m_is_set an_m_is_set : Option Addr} {sl_m_is_set : Array (Option Value)} {f_m_is_set : Addr}
    {oc_m_begin kV_m_begin dc_m_begin pm_m_begin cd_m_begin ct_m_begin : Value} {od_m_begin an_m_begin : Option Addr} {sl_m_begin : Array (Option Value)} {f_m_begin : Addr}
    {oc_m_tell kV_m_tell dc_m_tell pm_m_tell cd_m_tell ct_m_tell : Value} {od_m_tell an_m_tell : Option Addr} {sl_m_tell : Array (Option Value)} {f_m_tell : Addr}
    {oc_m_untell kV_m_untell dc_m_untell pm_m_untell cd_m_untell ct_m_untell : Value} {od_m_untell an_m_untell : Option Addr} {sl_m_untell : Array (Option Value)} {f_m_untell : Addr}
    {oc_m_look kV_m_look dc_m_look pm_m_look cd_m_look ct_m_look : Value} {od_m_look an_m_look : Option Addr} {sl_m_look : Array (Option Value)} {f_m_look : Addr}
    {oc_m_state kV_m_state dc_m_state pm_m_state cd_m_state ct_m_state : Value} {od_m_state an_m_state : Option Addr} {sl_m_state : Array (Option Value)} {f_m_state : Addr}
    {oc_m_fitting kV_m_fitting dc_m_fitting pm_m_fitting cd_m_fitting ct_m_fitting : Value} {od_m_fitting an_m_fitting : Option Addr} {sl_m_fitting : Array (Option Value)} {f_m_fitting : Addr}
    {oc_m_can kV_m_can dc_m_can pm_m_can cd_m_can ct_m_can : Value} {od_m_can an_m_can : Option Addr} {sl_m_can : Array (Option Value)} {f_m_can : Addr}
    {oc_m_ways kV_m_ways dc_m_ways pm_m_ways cd_m_ways ct_m_ways : Value} {od_m_ways an_m_ways : Option Addr} {sl_m_ways : Array (Option Value)} {f_m_ways : Addr}
    {oc_m_plainest kV_m_plainest dc_m_plainest pm_m_plainest cd_m_plainest ct_m_plainest : Value} {od_m_plainest an_m_plainest : Option Addr} {sl_m_plainest : Array (Option Value)} {f_m_plainest : Addr}
    {oc_m_fits kV_m_fits dc_m_fits pm_m_fits cd_m_fits ct_m_fits : Value} {od_m_fits an_m_fits : Option Addr} {sl_m_fits : Array (Option Value)} {f_m_fits : Addr}
    {oc_m_wrong kV_m_wrong dc_m_wrong pm_m_wrong cd_m_wrong ct_m_wrong : Value} {od_m_wrong an_m_wrong : Option Addr} {sl_m_wrong : Array (Option Value)} {f_m_wrong : Addr}
    {oc_m_all_shares kV_m_all_shares dc_m_all_shares pm_m_all_shares cd_m_all_shares ct_m_all_shares : Value} {od_m_all_shares an_m_all_shares : Option Addr} {sl_m_all_shares : Array (Option Value)} {f_m_all_shares : Addr}
    {oc_m_given kV_m_given dc_m_given pm_m_given cd_m_given ct_m_given : Value} {od_m_given an_m_given : Option Addr} {sl_m_given : Array (Option Value)} {f_m_given : Addr}
    {oc_m_chance kV_m_chance dc_m_chance pm_m_chance cd_m_chance ct_m_chance : Value} {od_m_chance an_m_chance : Option Addr} {sl_m_chance : Array (Option Value)} {f_m_chance : Addr}
    {oc_m_spare kV_m_spare dc_m_spare pm_m_spare cd_m_spare ct_m_spare : Value} {od_m_spare an_m_spare : Option Addr} {sl_m_spare : Array (Option Value)} {f_m_spare : Addr}
    {oc_m_clashes kV_m_clashes dc_m_clashes pm_m_clashes cd_m_clashes ct_m_clashes : Value} {od_m_clashes an_m_clashes : Option Addr} {sl_m_clashes : Array (Option Value)} {f_m_clashes : Addr}
    {oc_m_table kV_m_table dc_m_table pm_m_table cd_m_table ct_m_table : Value} {od_m_table an_m_table : Option Addr} {sl_m_table : Array (Option Value)} {f_m_table : Addr}
    {oc_m_rules kV_m_rules dc_m_rules pm_m_rules cd_m_rules ct_m_rules : Value} {od_m_rules an_m_rules : Option Addr} {sl_m_rules : Array (Option Value)} {f_m_rules : Addr}
    {oc_m_broken kV_m_broken dc_m_broken pm_m_broken cd_m_broken ct_m_broken : Value} {od_m_broken an_m_broken : Option Addr} {sl_m_broken : Array (Option Value)} {f_m_broken : Addr}
    {oc_m_whole kV_m_whole dc_m_whole pm_m_whole cd_m_whole ct_m_whole : Value} {od_m_whole an_m_whole : Option Addr} {sl_m_whole : Array (Option Value)} {f_m_whole : Addr}
    {oc_m_alike kV_m_alike dc_m_alike pm_m_alike cd_m_alike ct_m_alike : Value} {od_m_alike an_m_alike : Option Addr} {sl_m_alike : Array (Option Value)} {f_m_alike : Addr}
    {oc_m_beyond kV_m_beyond dc_m_beyond pm_m_beyond cd_m_beyond ct_m_beyond : Value} {od_m_beyond an_m_beyond : Option Addr} {sl_m_beyond : Array (Option Value)} {f_m_beyond : Addr}
    {oc_m_settled kV_m_settled dc_m_settled pm_m_settled cd_m_settled ct_m_settled : Value} {od_m_settled an_m_settled : Option Addr} {sl_m_settled : Array (Option Value)} {f_m_settled : Addr}
    {t_KIND_LIKELIER : Tok}
    {t_KIND_NO_LESS : Tok}
    {t_KIND_AS_LIKELY : Tok}
    {t_NOTHING : Tok}
    {t_NO_LESS : Tok}
    {t_LIKELIER : Tok}
    {t_MOST_TOGETHER : Tok}
    {t_MOST_WORLDS : Tok}
    {t_MOST_TOLD : Tok}
    {t_NONE_SUCH : Tok}
    {t_NOT_RIGHT : Tok}
    {t_TOO_MANY : Tok}
    {t_NO_SHARES : Tok}
    {t_SOME_SHARES : Tok}
    {t_MAY_HAVE_NONE : Tok}
    {t_FITS : Tok}
    {t_WRONG : Tok}
    {t_NOT_BEGUN : Tok}
    {t_BEGIN : Tok}
    {t_TELL : Tok}
    {t_UNTELL : Tok}
    {t_CAN : Tok}
    {t_WAYS : Tok}
    {t_PLAINEST : Tok}
    {t_RULES : Tok}
    {t_ALL_SHARES : Tok}
    {t_BROKEN : Tok}
    {t_BEYOND : Tok}
    {t_WHOLE : Tok}
    {t_CHANCE : Tok}
    {t_GIVEN : Tok}
    {t_ALIKE : Tok}
    {t_CLASHES : Tok}
    {t_SPARE : Tok}
    {t_LOOK : Tok}
    {t_STATE : Tok}
    {ha : Addr} {oh : Obj} {nh : Nat} {ih : Array Value}
    (aC : PySem.W.nsIn K mainGlobals "Session" = some (some (.ref C)))
    (a_row_of_parts : PySem.W.nsIn K mainGlobals "row_of_parts" = some (some (.ref f_row_of_parts)))
    (l_row_of_parts : K.lookup f_row_of_parts = some ⟨oc_row_of_parts, od_row_of_parts, .func (PySem.W.fnOf "row_of_parts" "row_of_parts" (defArgs sRowOfParts) (defBody sRowOfParts) (defScope sRowOfParts) .none kV_row_of_parts dc_row_of_parts pm_row_of_parts an_row_of_parts cd_row_of_parts ct_row_of_parts), sl_row_of_parts⟩)
    (c_row_of_parts : PySem.W.codeIn K cd_row_of_parts "row_of_parts" = true)
    (k_row_of_parts : PySem.W.keepIn K (.ref f_row_of_parts) = true)
    (a_raise_to : PySem.W.nsIn K mainGlobals "raise_to" = some (some (.ref f_raise_to)))
    (l_raise_to : K.lookup f_raise_to = some ⟨oc_raise_to, od_raise_to, .func (PySem.W.fnOf "raise_to" "raise_to" (defArgs sRaise) (defBody sRaise) (defScope sRaise) .none kV_raise_to dc_raise_to pm_raise_to an_raise_to cd_raise_to ct_raise_to), sl_raise_to⟩)
    (c_raise_to : PySem.W.codeIn K cd_raise_to "raise_to" = true)
    (k_raise_to : PySem.W.keepIn K (.ref f_raise_to) = true)
    (a_table_at_first : PySem.W.nsIn K mainGlobals "table_at_first" = some (some (.ref f_table_at_first)))
    (l_table_at_first : K.lookup f_table_at_first = some ⟨oc_table_at_first, od_table_at_first, .func (PySem.W.fnOf "table_at_first" "table_at_first" (defArgs sTabFirst) (defBody sTabFirst) (defScope sTabFirst) .none kV_table_at_first dc_table_at_first pm_table_at_first an_table_at_first cd_table_at_first ct_table_at_first), sl_table_at_first⟩)
    (c_table_at_first : PySem.W.codeIn K cd_table_at_first "table_at_first" = true)
    (k_table_at_first : PySem.W.keepIn K (.ref f_table_at_first) = true)
    (a_without : PySem.W.nsIn K mainGlobals "without" = some (some (.ref f_without)))
    (l_without : K.lookup f_without = some ⟨oc_without, od_without, .func (PySem.W.fnOf "without" "without" (defArgs sWithout) (defBody sWithout) (defScope sWithout) .none kV_without dc_without pm_without an_without cd_without ct_without), sl_without⟩)
    (c_without : PySem.W.codeIn K cd_without "without" = true)
    (k_without : PySem.W.keepIn K (.ref f_without) = true)
    (a_highest_apart : PySem.W.nsIn K mainGlobals "highest_apart" = some (some (.ref f_highest_apart)))
    (l_highest_apart : K.lookup f_highest_apart = some ⟨oc_highest_apart, od_highest_apart, .func (PySem.W.fnOf "highest_apart" "highest_apart" (defArgs s_highest_apart) (defBody s_highest_apart) (defScope s_highest_apart) .none kV_highest_apart dc_highest_apart pm_highest_apart an_highest_apart cd_highest_apart ct_highest_apart), sl_highest_apart⟩)
    (c_highest_apart : PySem.W.codeIn K cd_highest_apart "highest_apart" = true)
    (k_highest_apart : PySem.W.keepIn K (.ref f_highest_apart) = true)
    (a_row_with_common : PySem.W.nsIn K mainGlobals "row_with_common" = some (some (.ref f_row_with_common)))
    (l_row_with_common : K.lookup f_row_with_common = some ⟨oc_row_with_common, od_row_with_common, .func (PySem.W.fnOf "row_with_common" "row_with_common" (defArgs s_row_with_common) (defBody s_row_with_common) (defScope s_row_with_common) .none kV_row_with_common dc_row_with_common pm_row_with_common an_row_with_common cd_row_with_common ct_row_with_common), sl_row_with_common⟩)
    (c_row_with_common : PySem.W.codeIn K cd_row_with_common "row_with_common" = true)
    (k_row_with_common : PySem.W.keepIn K (.ref f_row_with_common) = true)
    (a_same_with_any_put_to_both : PySem.W.nsIn K mainGlobals "same_with_any_put_to_both" = some (some (.ref f_same_with_any_put_to_both)))
    (l_same_with_any_put_to_both : K.lookup f_same_with_any_put_to_both = some ⟨oc_same_with_any_put_to_both, od_same_with_any_put_to_both, .func (PySem.W.fnOf "same_with_any_put_to_both" "same_with_any_put_to_both" (defArgs s_same_with_any_put_to_both) (defBody s_same_with_any_put_to_both) (defScope s_same_with_any_put_to_both) .none kV_same_with_any_put_to_both dc_same_with_any_put_to_both pm_same_with_any_put_to_both an_same_with_any_put_to_both cd_same_with_any_put_to_both ct_same_with_any_put_to_both), sl_same_with_any_put_to_both⟩)
    (c_same_with_any_put_to_both : PySem.W.codeIn K cd_same_with_any_put_to_both "same_with_any_put_to_both" = true)
    (k_same_with_any_put_to_both : PySem.W.keepIn K (.ref f_same_with_any_put_to_both) = true)
    (a_row_through : PySem.W.nsIn K mainGlobals "row_through" = some (some (.ref f_row_through)))
    (l_row_through : K.lookup f_row_through = some ⟨oc_row_through, od_row_through, .func (PySem.W.fnOf "row_through" "row_through" (defArgs s_row_through) (defBody s_row_through) (defScope s_row_through) .none kV_row_through dc_row_through pm_row_through an_row_through cd_row_through ct_row_through), sl_row_through⟩)
    (c_row_through : PySem.W.codeIn K cd_row_through "row_through" = true)
    (k_row_through : PySem.W.keepIn K (.ref f_row_through) = true)
    (a_from_one_to_the_next : PySem.W.nsIn K mainGlobals "from_one_to_the_next" = some (some (.ref f_from_one_to_the_next)))
    (l_from_one_to_the_next : K.lookup f_from_one_to_the_next = some ⟨oc_from_one_to_the_next, od_from_one_to_the_next, .func (PySem.W.fnOf "from_one_to_the_next" "from_one_to_the_next" (defArgs s_from_one_to_the_next) (defBody s_from_one_to_the_next) (defScope s_from_one_to_the_next) .none kV_from_one_to_the_next dc_from_one_to_the_next pm_from_one_to_the_next an_from_one_to_the_next cd_from_one_to_the_next ct_from_one_to_the_next), sl_from_one_to_the_next⟩)
    (c_from_one_to_the_next : PySem.W.codeIn K cd_from_one_to_the_next "from_one_to_the_next" = true)
    (k_from_one_to_the_next : PySem.W.keepIn K (.ref f_from_one_to_the_next) = true)
    (a_table_by_rules : PySem.W.nsIn K mainGlobals "table_by_rules" = some (some (.ref f_table_by_rules)))
    (l_table_by_rules : K.lookup f_table_by_rules = some ⟨oc_table_by_rules, od_table_by_rules, .func (PySem.W.fnOf "table_by_rules" "table_by_rules" (defArgs s_table_by_rules) (defBody s_table_by_rules) (defScope s_table_by_rules) .none kV_table_by_rules dc_table_by_rules pm_table_by_rules an_table_by_rules cd_table_by_rules ct_table_by_rules), sl_table_by_rules⟩)
    (c_table_by_rules : PySem.W.codeIn K cd_table_by_rules "table_by_rules" = true)
    (k_table_by_rules : PySem.W.keepIn K (.ref f_table_by_rules) = true)
    (a_is_broken : PySem.W.nsIn K mainGlobals "is_broken" = some (some (.ref f_is_broken)))
    (l_is_broken : K.lookup f_is_broken = some ⟨oc_is_broken, od_is_broken, .func (PySem.W.fnOf "is_broken" "is_broken" (defArgs s_is_broken) (defBody s_is_broken) (defScope s_is_broken) .none kV_is_broken dc_is_broken pm_is_broken an_is_broken cd_is_broken ct_is_broken), sl_is_broken⟩)
    (c_is_broken : PySem.W.codeIn K cd_is_broken "is_broken" = true)
    (k_is_broken : PySem.W.keepIn K (.ref f_is_broken) = true)
    (a_is_told_by : PySem.W.nsIn K mainGlobals "is_told_by" = some (some (.ref f_is_told_by)))
    (l_is_told_by : K.lookup f_is_told_by = some ⟨oc_is_told_by, od_is_told_by, .func (PySem.W.fnOf "is_told_by" "is_told_by" (defArgs s_is_told_by) (defBody s_is_told_by) (defScope s_is_told_by) .none kV_is_told_by dc_is_told_by pm_is_told_by an_is_told_by cd_is_told_by ct_is_told_by), sl_is_told_by⟩)
    (c_is_told_by : PySem.W.codeIn K cd_is_told_by "is_told_by" = true)
    (k_is_told_by : PySem.W.keepIn K (.ref f_is_told_by) = true)
    (a_is_shares : PySem.W.nsIn K mainGlobals "is_shares" = some (some (.ref f_is_shares)))
    (l_is_shares : K.lookup f_is_shares = some ⟨oc_is_shares, od_is_shares, .func (PySem.W.fnOf "is_shares" "is_shares" (defArgs s_is_shares) (defBody s_is_shares) (defScope s_is_shares) .none kV_is_shares dc_is_shares pm_is_shares an_is_shares cd_is_shares ct_is_shares), sl_is_shares⟩)
    (c_is_shares : PySem.W.codeIn K cd_is_shares "is_shares" = true)
    (k_is_shares : PySem.W.keepIn K (.ref f_is_shares) = true)
    (a_share_of : PySem.W.nsIn K mainGlobals "share_of" = some (some (.ref f_share_of)))
    (l_share_of : K.lookup f_share_of = some ⟨oc_share_of, od_share_of, .func (PySem.W.fnOf "share_of" "share_of" (defArgs s_share_of) (defBody s_share_of) (defScope s_share_of) .none kV_share_of dc_share_of pm_share_of an_share_of cd_share_of ct_share_of), sl_share_of⟩)
    (c_share_of : PySem.W.codeIn K cd_share_of "share_of" = true)
    (k_share_of : PySem.W.keepIn K (.ref f_share_of) = true)
    (a_lead : PySem.W.nsIn K mainGlobals "lead" = some (some (.ref f_lead)))
    (l_lead : K.lookup f_lead = some ⟨oc_lead, od_lead, .func (PySem.W.fnOf "lead" "lead" (defArgs s_lead) (defBody s_lead) (defScope s_lead) .none kV_lead dc_lead pm_lead an_lead cd_lead ct_lead), sl_lead⟩)
    (c_lead : PySem.W.codeIn K cd_lead "lead" = true)
    (k_lead : PySem.W.keepIn K (.ref f_lead) = true)
    (a_agree : PySem.W.nsIn K mainGlobals "agree" = some (some (.ref f_agree)))
    (l_agree : K.lookup f_agree = some ⟨oc_agree, od_agree, .func (PySem.W.fnOf "agree" "agree" (defArgs s_agree) (defBody s_agree) (defScope s_agree) .none kV_agree dc_agree pm_agree an_agree cd_agree ct_agree), sl_agree⟩)
    (c_agree : PySem.W.codeIn K cd_agree "agree" = true)
    (k_agree : PySem.W.keepIn K (.ref f_agree) = true)
    (a_disagreed : PySem.W.nsIn K mainGlobals "disagreed" = some (some (.ref f_disagreed)))
    (l_disagreed : K.lookup f_disagreed = some ⟨oc_disagreed, od_disagreed, .func (PySem.W.fnOf "disagreed" "disagreed" (defArgs s_disagreed) (defBody s_disagreed) (defScope s_disagreed) .none kV_disagreed dc_disagreed pm_disagreed an_disagreed cd_disagreed ct_disagreed), sl_disagreed⟩)
    (c_disagreed : PySem.W.codeIn K cd_disagreed "disagreed" = true)
    (k_disagreed : PySem.W.keepIn K (.ref f_disagreed) = true)
    (a_fit : PySem.W.nsIn K mainGlobals "fit" = some (some (.ref f_fit)))
    (l_fit : K.lookup f_fit = some ⟨oc_fit, od_fit, .func (PySem.W.fnOf "fit" "fit" (defArgs s_fit) (defBody s_fit) (defScope s_fit) .none kV_fit dc_fit pm_fit an_fit cd_fit ct_fit), sl_fit⟩)
    (c_fit : PySem.W.codeIn K cd_fit "fit" = true)
    (k_fit : PySem.W.keepIn K (.ref f_fit) = true)
    (a_one_world_more : PySem.W.nsIn K mainGlobals "one_world_more" = some (some (.ref f_one_world_more)))
    (l_one_world_more : K.lookup f_one_world_more = some ⟨oc_one_world_more, od_one_world_more, .func (PySem.W.fnOf "one_world_more" "one_world_more" (defArgs s_one_world_more) (defBody s_one_world_more) (defScope s_one_world_more) .none kV_one_world_more dc_one_world_more pm_one_world_more an_one_world_more cd_one_world_more ct_one_world_more), sl_one_world_more⟩)
    (c_one_world_more : PySem.W.codeIn K cd_one_world_more "one_world_more" = true)
    (k_one_world_more : PySem.W.keepIn K (.ref f_one_world_more) = true)
    (a_shares_together : PySem.W.nsIn K mainGlobals "shares_together" = some (some (.ref f_shares_together)))
    (l_shares_together : K.lookup f_shares_together = some ⟨oc_shares_together, od_shares_together, .func (PySem.W.fnOf "shares_together" "shares_together" (defArgs s_shares_together) (defBody s_shares_together) (defScope s_shares_together) .none kV_shares_together dc_shares_together pm_shares_together an_shares_together cd_shares_together ct_shares_together), sl_shares_together⟩)
    (c_shares_together : PySem.W.codeIn K cd_shares_together "shares_together" = true)
    (k_shares_together : PySem.W.keepIn K (.ref f_shares_together) = true)
    (a_shares_in_order : PySem.W.nsIn K mainGlobals "shares_in_order" = some (some (.ref f_shares_in_order)))
    (l_shares_in_order : K.lookup f_shares_in_order = some ⟨oc_shares_in_order, od_shares_in_order, .func (PySem.W.fnOf "shares_in_order" "shares_in_order" (defArgs s_shares_in_order) (defBody s_shares_in_order) (defScope s_shares_in_order) .none kV_shares_in_order dc_shares_in_order pm_shares_in_order an_shares_in_order cd_shares_in_order ct_shares_in_order), sl_shares_in_order⟩)
    (c_shares_in_order : PySem.W.codeIn K cd_shares_in_order "shares_in_order" = true)
    (k_shares_in_order : PySem.W.keepIn K (.ref f_shares_in_order) = true)
    (a_some_have_none : PySem.W.nsIn K mainGlobals "some_have_none" = some (some (.ref f_some_have_none)))
    (l_some_have_none : K.lookup f_some_have_none = some ⟨oc_some_have_none, od_some_have_none, .func (PySem.W.fnOf "some_have_none" "some_have_none" (defArgs s_some_have_none) (defBody s_some_have_none) (defScope s_some_have_none) .none kV_some_have_none dc_some_have_none pm_some_have_none an_some_have_none cd_some_have_none ct_some_have_none), sl_some_have_none⟩)
    (c_some_have_none : PySem.W.codeIn K cd_some_have_none "some_have_none" = true)
    (k_some_have_none : PySem.W.keepIn K (.ref f_some_have_none) = true)
    (a_fitting_shares : PySem.W.nsIn K mainGlobals "fitting_shares" = some (some (.ref f_fitting_shares)))
    (l_fitting_shares : K.lookup f_fitting_shares = some ⟨oc_fitting_shares, od_fitting_shares, .func (PySem.W.fnOf "fitting_shares" "fitting_shares" (defArgs s_fitting_shares) (defBody s_fitting_shares) (defScope s_fitting_shares) .none kV_fitting_shares dc_fitting_shares pm_fitting_shares an_fitting_shares cd_fitting_shares ct_fitting_shares), sl_fitting_shares⟩)
    (c_fitting_shares : PySem.W.codeIn K cd_fitting_shares "fitting_shares" = true)
    (k_fitting_shares : PySem.W.keepIn K (.ref f_fitting_shares) = true)
    (a_told_by_all : PySem.W.nsIn K mainGlobals "told_by_all" = some (some (.ref f_told_by_all)))
    (l_told_by_all : K.lookup f_told_by_all = some ⟨oc_told_by_all, od_told_by_all, .func (PySem.W.fnOf "told_by_all" "told_by_all" (defArgs s_told_by_all) (defBody s_told_by_all) (defScope s_told_by_all) .none kV_told_by_all dc_told_by_all pm_told_by_all an_told_by_all cd_told_by_all ct_told_by_all), sl_told_by_all⟩)
    (c_told_by_all : PySem.W.codeIn K cd_told_by_all "told_by_all" = true)
    (k_told_by_all : PySem.W.keepIn K (.ref f_told_by_all) = true)
    (a_chance_by : PySem.W.nsIn K mainGlobals "chance_by" = some (some (.ref f_chance_by)))
    (l_chance_by : K.lookup f_chance_by = some ⟨oc_chance_by, od_chance_by, .func (PySem.W.fnOf "chance_by" "chance_by" (defArgs s_chance_by) (defBody s_chance_by) (defScope s_chance_by) .none kV_chance_by dc_chance_by pm_chance_by an_chance_by cd_chance_by ct_chance_by), sl_chance_by⟩)
    (c_chance_by : PySem.W.codeIn K cd_chance_by "chance_by" = true)
    (k_chance_by : PySem.W.keepIn K (.ref f_chance_by) = true)
    (a_is_less : PySem.W.nsIn K mainGlobals "is_less" = some (some (.ref f_is_less)))
    (l_is_less : K.lookup f_is_less = some ⟨oc_is_less, od_is_less, .func (PySem.W.fnOf "is_less" "is_less" (defArgs s_is_less) (defBody s_is_less) (defScope s_is_less) .none kV_is_less dc_is_less pm_is_less an_is_less cd_is_less ct_is_less), sl_is_less⟩)
    (c_is_less : PySem.W.codeIn K cd_is_less "is_less" = true)
    (k_is_less : PySem.W.keepIn K (.ref f_is_less) = true)
    (a_least_chance : PySem.W.nsIn K mainGlobals "least_chance" = some (some (.ref f_least_chance)))
    (l_least_chance : K.lookup f_least_chance = some ⟨oc_least_chance, od_least_chance, .func (PySem.W.fnOf "least_chance" "least_chance" (defArgs s_least_chance) (defBody s_least_chance) (defScope s_least_chance) .none kV_least_chance dc_least_chance pm_least_chance an_least_chance cd_least_chance ct_least_chance), sl_least_chance⟩)
    (c_least_chance : PySem.W.codeIn K cd_least_chance "least_chance" = true)
    (k_least_chance : PySem.W.keepIn K (.ref f_least_chance) = true)
    (a_greatest_chance : PySem.W.nsIn K mainGlobals "greatest_chance" = some (some (.ref f_greatest_chance)))
    (l_greatest_chance : K.lookup f_greatest_chance = some ⟨oc_greatest_chance, od_greatest_chance, .func (PySem.W.fnOf "greatest_chance" "greatest_chance" (defArgs s_greatest_chance) (defBody s_greatest_chance) (defScope s_greatest_chance) .none kV_greatest_chance dc_greatest_chance pm_greatest_chance an_greatest_chance cd_greatest_chance ct_greatest_chance), sl_greatest_chance⟩)
    (c_greatest_chance : PySem.W.codeIn K cd_greatest_chance "greatest_chance" = true)
    (k_greatest_chance : PySem.W.keepIn K (.ref f_greatest_chance) = true)
    (a_greatest_common_divisor : PySem.W.nsIn K mainGlobals "greatest_common_divisor" = some (some (.ref f_greatest_common_divisor)))
    (l_greatest_common_divisor : K.lookup f_greatest_common_divisor = some ⟨oc_greatest_common_divisor, od_greatest_common_divisor, .func (PySem.W.fnOf "greatest_common_divisor" "greatest_common_divisor" (defArgs s_greatest_common_divisor) (defBody s_greatest_common_divisor) (defScope s_greatest_common_divisor) .none kV_greatest_common_divisor dc_greatest_common_divisor pm_greatest_common_divisor an_greatest_common_divisor cd_greatest_common_divisor ct_greatest_common_divisor), sl_greatest_common_divisor⟩)
    (c_greatest_common_divisor : PySem.W.codeIn K cd_greatest_common_divisor "greatest_common_divisor" = true)
    (k_greatest_common_divisor : PySem.W.keepIn K (.ref f_greatest_common_divisor) = true)
    (a_as_fraction : PySem.W.nsIn K mainGlobals "as_fraction" = some (some (.ref f_as_fraction)))
    (l_as_fraction : K.lookup f_as_fraction = some ⟨oc_as_fraction, od_as_fraction, .func (PySem.W.fnOf "as_fraction" "as_fraction" (defArgs s_as_fraction) (defBody s_as_fraction) (defScope s_as_fraction) .none kV_as_fraction dc_as_fraction pm_as_fraction an_as_fraction cd_as_fraction ct_as_fraction), sl_as_fraction⟩)
    (c_as_fraction : PySem.W.codeIn K cd_as_fraction "as_fraction" = true)
    (k_as_fraction : PySem.W.keepIn K (.ref f_as_fraction) = true)
    (a_set_of : PySem.W.nsIn K mainGlobals "set_of" = some (some (.ref f_set_of)))
    (l_set_of : K.lookup f_set_of = some ⟨oc_set_of, od_set_of, .func (PySem.W.fnOf "set_of" "set_of" (defArgs s_set_of) (defBody s_set_of) (defScope s_set_of) .none kV_set_of dc_set_of pm_set_of an_set_of cd_set_of ct_set_of), sl_set_of⟩)
    (c_set_of : PySem.W.codeIn K cd_set_of "set_of" = true)
    (k_set_of : PySem.W.keepIn K (.ref f_set_of) = true)
    (a_wrong_sets : PySem.W.nsIn K mainGlobals "wrong_sets" = some (some (.ref f_wrong_sets)))
    (l_wrong_sets : K.lookup f_wrong_sets = some ⟨oc_wrong_sets, od_wrong_sets, .func (PySem.W.fnOf "wrong_sets" "wrong_sets" (defArgs s_wrong_sets) (defBody s_wrong_sets) (defScope s_wrong_sets) .none kV_wrong_sets dc_wrong_sets pm_wrong_sets an_wrong_sets cd_wrong_sets ct_wrong_sets), sl_wrong_sets⟩)
    (c_wrong_sets : PySem.W.codeIn K cd_wrong_sets "wrong_sets" = true)
    (k_wrong_sets : PySem.W.keepIn K (.ref f_wrong_sets) = true)
    (a_some_fit : PySem.W.nsIn K mainGlobals "some_fit" = some (some (.ref f_some_fit)))
    (l_some_fit : K.lookup f_some_fit = some ⟨oc_some_fit, od_some_fit, .func (PySem.W.fnOf "some_fit" "some_fit" (defArgs s_some_fit) (defBody s_some_fit) (defScope s_some_fit) .none kV_some_fit dc_some_fit pm_some_fit an_some_fit cd_some_fit ct_some_fit), sl_some_fit⟩)
    (c_some_fit : PySem.W.codeIn K cd_some_fit "some_fit" = true)
    (k_some_fit : PySem.W.keepIn K (.ref f_some_fit) = true)
    (a_some_agree : PySem.W.nsIn K mainGlobals "some_agree" = some (some (.ref f_some_agree)))
    (l_some_agree : K.lookup f_some_agree = some ⟨oc_some_agree, od_some_agree, .func (PySem.W.fnOf "some_agree" "some_agree" (defArgs s_some_agree) (defBody s_some_agree) (defScope s_some_agree) .none kV_some_agree dc_some_agree pm_some_agree an_some_agree cd_some_agree ct_some_agree), sl_some_agree⟩)
    (c_some_agree : PySem.W.codeIn K cd_some_agree "some_agree" = true)
    (k_some_agree : PySem.W.keepIn K (.ref f_some_agree) = true)
    (a_one_left_out : PySem.W.nsIn K mainGlobals "one_left_out" = some (some (.ref f_one_left_out)))
    (l_one_left_out : K.lookup f_one_left_out = some ⟨oc_one_left_out, od_one_left_out, .func (PySem.W.fnOf "one_left_out" "one_left_out" (defArgs s_one_left_out) (defBody s_one_left_out) (defScope s_one_left_out) .none kV_one_left_out dc_one_left_out pm_one_left_out an_one_left_out cd_one_left_out ct_one_left_out), sl_one_left_out⟩)
    (c_one_left_out : PySem.W.codeIn K cd_one_left_out "one_left_out" = true)
    (k_one_left_out : PySem.W.keepIn K (.ref f_one_left_out) = true)
    (a_is_clash : PySem.W.nsIn K mainGlobals "is_clash" = some (some (.ref f_is_clash)))
    (l_is_clash : K.lookup f_is_clash = some ⟨oc_is_clash, od_is_clash, .func (PySem.W.fnOf "is_clash" "is_clash" (defArgs s_is_clash) (defBody s_is_clash) (defScope s_is_clash) .none kV_is_clash dc_is_clash pm_is_clash an_is_clash cd_is_clash ct_is_clash), sl_is_clash⟩)
    (c_is_clash : PySem.W.codeIn K cd_is_clash "is_clash" = true)
    (k_is_clash : PySem.W.keepIn K (.ref f_is_clash) = true)
    (a_all_clashes : PySem.W.nsIn K mainGlobals "all_clashes" = some (some (.ref f_all_clashes)))
    (l_all_clashes : K.lookup f_all_clashes = some ⟨oc_all_clashes, od_all_clashes, .func (PySem.W.fnOf "all_clashes" "all_clashes" (defArgs s_all_clashes) (defBody s_all_clashes) (defScope s_all_clashes) .none kV_all_clashes dc_all_clashes pm_all_clashes an_all_clashes cd_all_clashes ct_all_clashes), sl_all_clashes⟩)
    (c_all_clashes : PySem.W.codeIn K cd_all_clashes "all_clashes" = true)
    (k_all_clashes : PySem.W.keepIn K (.ref f_all_clashes) = true)
    (a_all_spare : PySem.W.nsIn K mainGlobals "all_spare" = some (some (.ref f_all_spare)))
    (l_all_spare : K.lookup f_all_spare = some ⟨oc_all_spare, od_all_spare, .func (PySem.W.fnOf "all_spare" "all_spare" (defArgs s_all_spare) (defBody s_all_spare) (defScope s_all_spare) .none kV_all_spare dc_all_spare pm_all_spare an_all_spare cd_all_spare ct_all_spare), sl_all_spare⟩)
    (c_all_spare : PySem.W.codeIn K cd_all_spare "all_spare" = true)
    (k_all_spare : PySem.W.keepIn K (.ref f_all_spare) = true)
    (a_pairs_apart : PySem.W.nsIn K mainGlobals "pairs_apart" = some (some (.ref f_pairs_apart)))
    (l_pairs_apart : K.lookup f_pairs_apart = some ⟨oc_pairs_apart, od_pairs_apart, .func (PySem.W.fnOf "pairs_apart" "pairs_apart" (defArgs s_pairs_apart) (defBody s_pairs_apart) (defScope s_pairs_apart) .none kV_pairs_apart dc_pairs_apart pm_pairs_apart an_pairs_apart cd_pairs_apart ct_pairs_apart), sl_pairs_apart⟩)
    (c_pairs_apart : PySem.W.codeIn K cd_pairs_apart "pairs_apart" = true)
    (k_pairs_apart : PySem.W.keepIn K (.ref f_pairs_apart) = true)
    (a_is_told_of : PySem.W.nsIn K mainGlobals "is_told_of" = some (some (.ref f_is_told_of)))
    (l_is_told_of : K.lookup f_is_told_of = some ⟨oc_is_told_of, od_is_told_of, .func (PySem.W.fnOf "is_told_of" "is_told_of" (defArgs s_is_told_of) (defBody s_is_told_of) (defScope s_is_told_of) .none kV_is_told_of dc_is_told_of pm_is_told_of an_is_told_of cd_is_told_of ct_is_told_of), sl_is_told_of⟩)
    (c_is_told_of : PySem.W.codeIn K cd_is_told_of "is_told_of" = true)
    (k_is_told_of : PySem.W.keepIn K (.ref f_is_told_of) = true)
    (a_is_whole : PySem.W.nsIn K mainGlobals "is_whole" = some (some (.ref f_is_whole)))
    (l_is_whole : K.lookup f_is_whole = some ⟨oc_is_whole, od_is_whole, .func (PySem.W.fnOf "is_whole" "is_whole" (defArgs s_is_whole) (defBody s_is_whole) (defScope s_is_whole) .none kV_is_whole dc_is_whole pm_is_whole an_is_whole cd_is_whole ct_is_whole), sl_is_whole⟩)
    (c_is_whole : PySem.W.codeIn K cd_is_whole "is_whole" = true)
    (k_is_whole : PySem.W.keepIn K (.ref f_is_whole) = true)
    (a_is_alike : PySem.W.nsIn K mainGlobals "is_alike" = some (some (.ref f_is_alike)))
    (l_is_alike : K.lookup f_is_alike = some ⟨oc_is_alike, od_is_alike, .func (PySem.W.fnOf "is_alike" "is_alike" (defArgs s_is_alike) (defBody s_is_alike) (defScope s_is_alike) .none kV_is_alike dc_is_alike pm_is_alike an_is_alike cd_is_alike ct_is_alike), sl_is_alike⟩)
    (c_is_alike : PySem.W.codeIn K cd_is_alike "is_alike" = true)
    (k_is_alike : PySem.W.keepIn K (.ref f_is_alike) = true)
    (a_alike_pairs : PySem.W.nsIn K mainGlobals "alike_pairs" = some (some (.ref f_alike_pairs)))
    (l_alike_pairs : K.lookup f_alike_pairs = some ⟨oc_alike_pairs, od_alike_pairs, .func (PySem.W.fnOf "alike_pairs" "alike_pairs" (defArgs s_alike_pairs) (defBody s_alike_pairs) (defScope s_alike_pairs) .none kV_alike_pairs dc_alike_pairs pm_alike_pairs an_alike_pairs cd_alike_pairs ct_alike_pairs), sl_alike_pairs⟩)
    (c_alike_pairs : PySem.W.codeIn K cd_alike_pairs "alike_pairs" = true)
    (k_alike_pairs : PySem.W.keepIn K (.ref f_alike_pairs) = true)
    (a_is_beyond : PySem.W.nsIn K mainGlobals "is_beyond" = some (some (.ref f_is_beyond)))
    (l_is_beyond : K.lookup f_is_beyond = some ⟨oc_is_beyond, od_is_beyond, .func (PySem.W.fnOf "is_beyond" "is_beyond" (defArgs s_is_beyond) (defBody s_is_beyond) (defScope s_is_beyond) .none kV_is_beyond dc_is_beyond pm_is_beyond an_is_beyond cd_is_beyond ct_is_beyond), sl_is_beyond⟩)
    (c_is_beyond : PySem.W.codeIn K cd_is_beyond "is_beyond" = true)
    (k_is_beyond : PySem.W.keepIn K (.ref f_is_beyond) = true)
    (a_beyond_pairs : PySem.W.nsIn K mainGlobals "beyond_pairs" = some (some (.ref f_beyond_pairs)))
    (l_beyond_pairs : K.lookup f_beyond_pairs = some ⟨oc_beyond_pairs, od_beyond_pairs, .func (PySem.W.fnOf "beyond_pairs" "beyond_pairs" (defArgs s_beyond_pairs) (defBody s_beyond_pairs) (defScope s_beyond_pairs) .none kV_beyond_pairs dc_beyond_pairs pm_beyond_pairs an_beyond_pairs cd_beyond_pairs ct_beyond_pairs), sl_beyond_pairs⟩)
    (c_beyond_pairs : PySem.W.codeIn K cd_beyond_pairs "beyond_pairs" = true)
    (k_beyond_pairs : PySem.W.keepIn K (.ref f_beyond_pairs) = true)
    (a_end_of_call : PySem.W.nsIn K mainGlobals "end_of_call" = some (some (.ref f_end_of_call)))
    (l_end_of_call : K.lookup f_end_of_call = some ⟨oc_end_of_call, od_end_of_call, .func (PySem.W.fnOf "end_of_call" "end_of_call" (defArgs s_end_of_call) (defBody s_end_of_call) (defScope s_end_of_call) .none kV_end_of_call dc_end_of_call pm_end_of_call an_end_of_call cd_end_of_call ct_end_of_call), sl_end_of_call⟩)
    (c_end_of_call : PySem.W.codeIn K cd_end_of_call "end_of_call" = true)
    (k_end_of_call : PySem.W.keepIn K (.ref f_end_of_call) = true)
    (a_answer_about_told : PySem.W.nsIn K mainGlobals "answer_about_told" = some (some (.ref f_answer_about_told)))
    (l_answer_about_told : K.lookup f_answer_about_told = some ⟨oc_answer_about_told, od_answer_about_told, .func (PySem.W.fnOf "answer_about_told" "answer_about_told" (defArgs s_answer_about_told) (defBody s_answer_about_told) (defScope s_answer_about_told) .none kV_answer_about_told dc_answer_about_told pm_answer_about_told an_answer_about_told cd_answer_about_told ct_answer_about_told), sl_answer_about_told⟩)
    (c_answer_about_told : PySem.W.codeIn K cd_answer_about_told "answer_about_told" = true)
    (k_answer_about_told : PySem.W.keepIn K (.ref f_answer_about_told) = true)
    (a_answer_about_fitting : PySem.W.nsIn K mainGlobals "answer_about_fitting" = some (some (.ref f_answer_about_fitting)))
    (l_answer_about_fitting : K.lookup f_answer_about_fitting = some ⟨oc_answer_about_fitting, od_answer_about_fitting, .func (PySem.W.fnOf "answer_about_fitting" "answer_about_fitting" (defArgs s_answer_about_fitting) (defBody s_answer_about_fitting) (defScope s_answer_about_fitting) .none kV_answer_about_fitting dc_answer_about_fitting pm_answer_about_fitting an_answer_about_fitting cd_answer_about_fitting ct_answer_about_fitting), sl_answer_about_fitting⟩)
    (c_answer_about_fitting : PySem.W.codeIn K cd_answer_about_fitting "answer_about_fitting" = true)
    (k_answer_about_fitting : PySem.W.keepIn K (.ref f_answer_about_fitting) = true)
    (a_answer_by_shares : PySem.W.nsIn K mainGlobals "answer_by_shares" = some (some (.ref f_answer_by_shares)))
    (l_answer_by_shares : K.lookup f_answer_by_shares = some ⟨oc_answer_by_shares, od_answer_by_shares, .func (PySem.W.fnOf "answer_by_shares" "answer_by_shares" (defArgs s_answer_by_shares) (defBody s_answer_by_shares) (defScope s_answer_by_shares) .none kV_answer_by_shares dc_answer_by_shares pm_answer_by_shares an_answer_by_shares cd_answer_by_shares ct_answer_by_shares), sl_answer_by_shares⟩)
    (c_answer_by_shares : PySem.W.codeIn K cd_answer_by_shares "answer_by_shares" = true)
    (k_answer_by_shares : PySem.W.keepIn K (.ref f_answer_by_shares) = true)
    (a_answer_by_rules : PySem.W.nsIn K mainGlobals "answer_by_rules" = some (some (.ref f_answer_by_rules)))
    (l_answer_by_rules : K.lookup f_answer_by_rules = some ⟨oc_answer_by_rules, od_answer_by_rules, .func (PySem.W.fnOf "answer_by_rules" "answer_by_rules" (defArgs s_answer_by_rules) (defBody s_answer_by_rules) (defScope s_answer_by_rules) .none kV_answer_by_rules dc_answer_by_rules pm_answer_by_rules an_answer_by_rules cd_answer_by_rules ct_answer_by_rules), sl_answer_by_rules⟩)
    (c_answer_by_rules : PySem.W.codeIn K cd_answer_by_rules "answer_by_rules" = true)
    (k_answer_by_rules : PySem.W.keepIn K (.ref f_answer_by_rules) = true)
    (a_answer_to : PySem.W.nsIn K mainGlobals "answer_to" = some (some (.ref f_answer_to)))
    (l_answer_to : K.lookup f_answer_to = some ⟨oc_answer_to, od_answer_to, .func (PySem.W.fnOf "answer_to" "answer_to" (defArgs s_answer_to) (defBody s_answer_to) (defScope s_answer_to) .none kV_answer_to dc_answer_to pm_answer_to an_answer_to cd_answer_to ct_answer_to), sl_answer_to⟩)
    (c_answer_to : PySem.W.codeIn K cd_answer_to "answer_to" = true)
    (k_answer_to : PySem.W.keepIn K (.ref f_answer_to) = true)
    (a_answers : PySem.W.nsIn K mainGlobals "answers" = some (some (.ref f_answers)))
    (l_answers : K.lookup f_answers = some ⟨oc_answers, od_answers, .func (PySem.W.fnOf "answers" "answers" (defArgs s_answers) (defBody s_answers) (defScope s_answers) .none kV_answers dc_answers pm_answers an_answers cd_answers ct_answers), sl_answers⟩)
    (c_answers : PySem.W.codeIn K cd_answers "answers" = true)
    (k_answers : PySem.W.keepIn K (.ref f_answers) = true)
    (a_m___init__ : PySem.W.findIn K (.ref C) "__init__" = some (some (.ref f_m___init__)))
    (i_m___init__ : PySem.W.isFn K (.ref f_m___init__) = true)
    (l_m___init__ : K.lookup f_m___init__ = some ⟨oc_m___init__, od_m___init__, .func (PySem.W.fnOf "__init__" "Session.__init__" (defArgs s_m___init__) (defBody s_m___init__) (defScope s_m___init__) .none kV_m___init__ dc_m___init__ pm_m___init__ an_m___init__ cd_m___init__ ct_m___init__), sl_m___init__⟩)
    (c_m___init__ : PySem.W.codeIn K cd_m___init__ "Session.__init__" = true)
    (k_m___init__ : PySem.W.keepIn K (.ref f_m___init__) = true)
    (a_m_has_begun : PySem.W.findIn K (.ref C) "has_begun" = some (some (.ref f_m_has_begun)))
    (i_m_has_begun : PySem.W.isFn K (.ref f_m_has_begun) = true)
    (l_m_has_begun : K.lookup f_m_has_begun = some ⟨oc_m_has_begun, od_m_has_begun, .func (PySem.W.fnOf "has_begun" "Session.has_begun" (defArgs s_m_has_begun) (defBody s_m_has_begun) (defScope s_m_has_begun) .none kV_m_has_begun dc_m_has_begun pm_m_has_begun an_m_has_begun cd_m_has_begun ct_m_has_begun), sl_m_has_begun⟩)
    (c_m_has_begun : PySem.W.codeIn K cd_m_has_begun "Session.has_begun" = true)
    (k_m_has_begun : PySem.W.keepIn K (.ref f_m_has_begun) = true)
    (a_m_is_set : PySem.W.findIn K (.ref C) "is_set" = some (some (.ref f_m_is_set)))
    (i_m_is_set : PySem.W.isFn K (.ref f_m_is_set) = true)
    (l_m_is_set : K.lookup f_m_is_set = some ⟨oc_m_is_set, od_m_is_set, .func (PySem.W.fnOf "is_set" "Session.is_set" (defArgs s_m_is_set) (defBody s_m_is_set) (defScope s_m_is_set) .none kV_m_is_set dc_m_is_set pm_m_is_set an_m_is_set cd_m_is_set ct_m_is_set), sl_m_is_set⟩)
    (c_m_is_set : PySem.W.codeIn K cd_m_is_set "Session.is_set" = true)
    (k_m_is_set : PySem.W.keepIn K (.ref f_m_is_set) = true)
    (a_m_begin : PySem.W.findIn K (.ref C) "begin" = some (some (.ref f_m_begin)))
    (i_m_begin : PySem.W.isFn K (.ref f_m_begin) = true)
    (l_m_begin : K.lookup f_m_begin = some ⟨oc_m_begin, od_m_begin, .func (PySem.W.fnOf "begin" "Session.begin" (defArgs s_m_begin) (defBody s_m_begin) (defScope s_m_begin) .none kV_m_begin dc_m_begin pm_m_begin an_m_begin cd_m_begin ct_m_begin), sl_m_begin⟩)
    (c_m_begin : PySem.W.codeIn K cd_m_begin "Session.begin" = true)
    (k_m_begin : PySem.W.keepIn K (.ref f_m_begin) = true)
    (a_m_tell : PySem.W.findIn K (.ref C) "tell" = some (some (.ref f_m_tell)))
    (i_m_tell : PySem.W.isFn K (.ref f_m_tell) = true)
    (l_m_tell : K.lookup f_m_tell = some ⟨oc_m_tell, od_m_tell, .func (PySem.W.fnOf "tell" "Session.tell" (defArgs s_m_tell) (defBody s_m_tell) (defScope s_m_tell) .none kV_m_tell dc_m_tell pm_m_tell an_m_tell cd_m_tell ct_m_tell), sl_m_tell⟩)
    (c_m_tell : PySem.W.codeIn K cd_m_tell "Session.tell" = true)
    (k_m_tell : PySem.W.keepIn K (.ref f_m_tell) = true)
    (a_m_untell : PySem.W.findIn K (.ref C) "untell" = some (some (.ref f_m_untell)))
    (i_m_untell : PySem.W.isFn K (.ref f_m_untell) = true)
    (l_m_untell : K.lookup f_m_untell = some ⟨oc_m_untell, od_m_untell, .func (PySem.W.fnOf "untell" "Session.untell" (defArgs s_m_untell) (defBody s_m_untell) (defScope s_m_untell) .none kV_m_untell dc_m_untell pm_m_untell an_m_untell cd_m_untell ct_m_untell), sl_m_untell⟩)
    (c_m_untell : PySem.W.codeIn K cd_m_untell "Session.untell" = true)
    (k_m_untell : PySem.W.keepIn K (.ref f_m_untell) = true)
    (a_m_look : PySem.W.findIn K (.ref C) "look" = some (some (.ref f_m_look)))
    (i_m_look : PySem.W.isFn K (.ref f_m_look) = true)
    (l_m_look : K.lookup f_m_look = some ⟨oc_m_look, od_m_look, .func (PySem.W.fnOf "look" "Session.look" (defArgs s_m_look) (defBody s_m_look) (defScope s_m_look) .none kV_m_look dc_m_look pm_m_look an_m_look cd_m_look ct_m_look), sl_m_look⟩)
    (c_m_look : PySem.W.codeIn K cd_m_look "Session.look" = true)
    (k_m_look : PySem.W.keepIn K (.ref f_m_look) = true)
    (a_m_state : PySem.W.findIn K (.ref C) "state" = some (some (.ref f_m_state)))
    (i_m_state : PySem.W.isFn K (.ref f_m_state) = true)
    (l_m_state : K.lookup f_m_state = some ⟨oc_m_state, od_m_state, .func (PySem.W.fnOf "state" "Session.state" (defArgs s_m_state) (defBody s_m_state) (defScope s_m_state) .none kV_m_state dc_m_state pm_m_state an_m_state cd_m_state ct_m_state), sl_m_state⟩)
    (c_m_state : PySem.W.codeIn K cd_m_state "Session.state" = true)
    (k_m_state : PySem.W.keepIn K (.ref f_m_state) = true)
    (a_m_fitting : PySem.W.findIn K (.ref C) "fitting" = some (some (.ref f_m_fitting)))
    (i_m_fitting : PySem.W.isFn K (.ref f_m_fitting) = true)
    (l_m_fitting : K.lookup f_m_fitting = some ⟨oc_m_fitting, od_m_fitting, .func (PySem.W.fnOf "fitting" "Session.fitting" (defArgs s_m_fitting) (defBody s_m_fitting) (defScope s_m_fitting) .none kV_m_fitting dc_m_fitting pm_m_fitting an_m_fitting cd_m_fitting ct_m_fitting), sl_m_fitting⟩)
    (c_m_fitting : PySem.W.codeIn K cd_m_fitting "Session.fitting" = true)
    (k_m_fitting : PySem.W.keepIn K (.ref f_m_fitting) = true)
    (a_m_can : PySem.W.findIn K (.ref C) "can" = some (some (.ref f_m_can)))
    (i_m_can : PySem.W.isFn K (.ref f_m_can) = true)
    (l_m_can : K.lookup f_m_can = some ⟨oc_m_can, od_m_can, .func (PySem.W.fnOf "can" "Session.can" (defArgs s_m_can) (defBody s_m_can) (defScope s_m_can) .none kV_m_can dc_m_can pm_m_can an_m_can cd_m_can ct_m_can), sl_m_can⟩)
    (c_m_can : PySem.W.codeIn K cd_m_can "Session.can" = true)
    (k_m_can : PySem.W.keepIn K (.ref f_m_can) = true)
    (a_m_ways : PySem.W.findIn K (.ref C) "ways" = some (some (.ref f_m_ways)))
    (i_m_ways : PySem.W.isFn K (.ref f_m_ways) = true)
    (l_m_ways : K.lookup f_m_ways = some ⟨oc_m_ways, od_m_ways, .func (PySem.W.fnOf "ways" "Session.ways" (defArgs s_m_ways) (defBody s_m_ways) (defScope s_m_ways) .none kV_m_ways dc_m_ways pm_m_ways an_m_ways cd_m_ways ct_m_ways), sl_m_ways⟩)
    (c_m_ways : PySem.W.codeIn K cd_m_ways "Session.ways" = true)
    (k_m_ways : PySem.W.keepIn K (.ref f_m_ways) = true)
    (a_m_plainest : PySem.W.findIn K (.ref C) "plainest" = some (some (.ref f_m_plainest)))
    (i_m_plainest : PySem.W.isFn K (.ref f_m_plainest) = true)
    (l_m_plainest : K.lookup f_m_plainest = some ⟨oc_m_plainest, od_m_plainest, .func (PySem.W.fnOf "plainest" "Session.plainest" (defArgs s_m_plainest) (defBody s_m_plainest) (defScope s_m_plainest) .none kV_m_plainest dc_m_plainest pm_m_plainest an_m_plainest cd_m_plainest ct_m_plainest), sl_m_plainest⟩)
    (c_m_plainest : PySem.W.codeIn K cd_m_plainest "Session.plainest" = true)
    (k_m_plainest : PySem.W.keepIn K (.ref f_m_plainest) = true)
    (a_m_fits : PySem.W.findIn K (.ref C) "fits" = some (some (.ref f_m_fits)))
    (i_m_fits : PySem.W.isFn K (.ref f_m_fits) = true)
    (l_m_fits : K.lookup f_m_fits = some ⟨oc_m_fits, od_m_fits, .func (PySem.W.fnOf "fits" "Session.fits" (defArgs s_m_fits) (defBody s_m_fits) (defScope s_m_fits) .none kV_m_fits dc_m_fits pm_m_fits an_m_fits cd_m_fits ct_m_fits), sl_m_fits⟩)
    (c_m_fits : PySem.W.codeIn K cd_m_fits "Session.fits" = true)
    (k_m_fits : PySem.W.keepIn K (.ref f_m_fits) = true)
    (a_m_wrong : PySem.W.findIn K (.ref C) "wrong" = some (some (.ref f_m_wrong)))
    (i_m_wrong : PySem.W.isFn K (.ref f_m_wrong) = true)
    (l_m_wrong : K.lookup f_m_wrong = some ⟨oc_m_wrong, od_m_wrong, .func (PySem.W.fnOf "wrong" "Session.wrong" (defArgs s_m_wrong) (defBody s_m_wrong) (defScope s_m_wrong) .none kV_m_wrong dc_m_wrong pm_m_wrong an_m_wrong cd_m_wrong ct_m_wrong), sl_m_wrong⟩)
    (c_m_wrong : PySem.W.codeIn K cd_m_wrong "Session.wrong" = true)
    (k_m_wrong : PySem.W.keepIn K (.ref f_m_wrong) = true)
    (a_m_all_shares : PySem.W.findIn K (.ref C) "all_shares" = some (some (.ref f_m_all_shares)))
    (i_m_all_shares : PySem.W.isFn K (.ref f_m_all_shares) = true)
    (l_m_all_shares : K.lookup f_m_all_shares = some ⟨oc_m_all_shares, od_m_all_shares, .func (PySem.W.fnOf "all_shares" "Session.all_shares" (defArgs s_m_all_shares) (defBody s_m_all_shares) (defScope s_m_all_shares) .none kV_m_all_shares dc_m_all_shares pm_m_all_shares an_m_all_shares cd_m_all_shares ct_m_all_shares), sl_m_all_shares⟩)
    (c_m_all_shares : PySem.W.codeIn K cd_m_all_shares "Session.all_shares" = true)
    (k_m_all_shares : PySem.W.keepIn K (.ref f_m_all_shares) = true)
    (a_m_given : PySem.W.findIn K (.ref C) "given" = some (some (.ref f_m_given)))
    (i_m_given : PySem.W.isFn K (.ref f_m_given) = true)
    (l_m_given : K.lookup f_m_given = some ⟨oc_m_given, od_m_given, .func (PySem.W.fnOf "given" "Session.given" (defArgs s_m_given) (defBody s_m_given) (defScope s_m_given) .none kV_m_given dc_m_given pm_m_given an_m_given cd_m_given ct_m_given), sl_m_given⟩)
    (c_m_given : PySem.W.codeIn K cd_m_given "Session.given" = true)
    (k_m_given : PySem.W.keepIn K (.ref f_m_given) = true)
    (a_m_chance : PySem.W.findIn K (.ref C) "chance" = some (some (.ref f_m_chance)))
    (i_m_chance : PySem.W.isFn K (.ref f_m_chance) = true)
    (l_m_chance : K.lookup f_m_chance = some ⟨oc_m_chance, od_m_chance, .func (PySem.W.fnOf "chance" "Session.chance" (defArgs s_m_chance) (defBody s_m_chance) (defScope s_m_chance) .none kV_m_chance dc_m_chance pm_m_chance an_m_chance cd_m_chance ct_m_chance), sl_m_chance⟩)
    (c_m_chance : PySem.W.codeIn K cd_m_chance "Session.chance" = true)
    (k_m_chance : PySem.W.keepIn K (.ref f_m_chance) = true)
    (a_m_spare : PySem.W.findIn K (.ref C) "spare" = some (some (.ref f_m_spare)))
    (i_m_spare : PySem.W.isFn K (.ref f_m_spare) = true)
    (l_m_spare : K.lookup f_m_spare = some ⟨oc_m_spare, od_m_spare, .func (PySem.W.fnOf "spare" "Session.spare" (defArgs s_m_spare) (defBody s_m_spare) (defScope s_m_spare) .none kV_m_spare dc_m_spare pm_m_spare an_m_spare cd_m_spare ct_m_spare), sl_m_spare⟩)
    (c_m_spare : PySem.W.codeIn K cd_m_spare "Session.spare" = true)
    (k_m_spare : PySem.W.keepIn K (.ref f_m_spare) = true)
    (a_m_clashes : PySem.W.findIn K (.ref C) "clashes" = some (some (.ref f_m_clashes)))
    (i_m_clashes : PySem.W.isFn K (.ref f_m_clashes) = true)
    (l_m_clashes : K.lookup f_m_clashes = some ⟨oc_m_clashes, od_m_clashes, .func (PySem.W.fnOf "clashes" "Session.clashes" (defArgs s_m_clashes) (defBody s_m_clashes) (defScope s_m_clashes) .none kV_m_clashes dc_m_clashes pm_m_clashes an_m_clashes cd_m_clashes ct_m_clashes), sl_m_clashes⟩)
    (c_m_clashes : PySem.W.codeIn K cd_m_clashes "Session.clashes" = true)
    (k_m_clashes : PySem.W.keepIn K (.ref f_m_clashes) = true)
    (a_m_table : PySem.W.findIn K (.ref C) "table" = some (some (.ref f_m_table)))
    (i_m_table : PySem.W.isFn K (.ref f_m_table) = true)
    (l_m_table : K.lookup f_m_table = some ⟨oc_m_table, od_m_table, .func (PySem.W.fnOf "table" "Session.table" (defArgs s_m_table) (defBody s_m_table) (defScope s_m_table) .none kV_m_table dc_m_table pm_m_table an_m_table cd_m_table ct_m_table), sl_m_table⟩)
    (c_m_table : PySem.W.codeIn K cd_m_table "Session.table" = true)
    (k_m_table : PySem.W.keepIn K (.ref f_m_table) = true)
    (a_m_rules : PySem.W.findIn K (.ref C) "rules" = some (some (.ref f_m_rules)))
    (i_m_rules : PySem.W.isFn K (.ref f_m_rules) = true)
    (l_m_rules : K.lookup f_m_rules = some ⟨oc_m_rules, od_m_rules, .func (PySem.W.fnOf "rules" "Session.rules" (defArgs s_m_rules) (defBody s_m_rules) (defScope s_m_rules) .none kV_m_rules dc_m_rules pm_m_rules an_m_rules cd_m_rules ct_m_rules), sl_m_rules⟩)
    (c_m_rules : PySem.W.codeIn K cd_m_rules "Session.rules" = true)
    (k_m_rules : PySem.W.keepIn K (.ref f_m_rules) = true)
    (a_m_broken : PySem.W.findIn K (.ref C) "broken" = some (some (.ref f_m_broken)))
    (i_m_broken : PySem.W.isFn K (.ref f_m_broken) = true)
    (l_m_broken : K.lookup f_m_broken = some ⟨oc_m_broken, od_m_broken, .func (PySem.W.fnOf "broken" "Session.broken" (defArgs s_m_broken) (defBody s_m_broken) (defScope s_m_broken) .none kV_m_broken dc_m_broken pm_m_broken an_m_broken cd_m_broken ct_m_broken), sl_m_broken⟩)
    (c_m_broken : PySem.W.codeIn K cd_m_broken "Session.broken" = true)
    (k_m_broken : PySem.W.keepIn K (.ref f_m_broken) = true)
    (a_m_whole : PySem.W.findIn K (.ref C) "whole" = some (some (.ref f_m_whole)))
    (i_m_whole : PySem.W.isFn K (.ref f_m_whole) = true)
    (l_m_whole : K.lookup f_m_whole = some ⟨oc_m_whole, od_m_whole, .func (PySem.W.fnOf "whole" "Session.whole" (defArgs s_m_whole) (defBody s_m_whole) (defScope s_m_whole) .none kV_m_whole dc_m_whole pm_m_whole an_m_whole cd_m_whole ct_m_whole), sl_m_whole⟩)
    (c_m_whole : PySem.W.codeIn K cd_m_whole "Session.whole" = true)
    (k_m_whole : PySem.W.keepIn K (.ref f_m_whole) = true)
    (a_m_alike : PySem.W.findIn K (.ref C) "alike" = some (some (.ref f_m_alike)))
    (i_m_alike : PySem.W.isFn K (.ref f_m_alike) = true)
    (l_m_alike : K.lookup f_m_alike = some ⟨oc_m_alike, od_m_alike, .func (PySem.W.fnOf "alike" "Session.alike" (defArgs s_m_alike) (defBody s_m_alike) (defScope s_m_alike) .none kV_m_alike dc_m_alike pm_m_alike an_m_alike cd_m_alike ct_m_alike), sl_m_alike⟩)
    (c_m_alike : PySem.W.codeIn K cd_m_alike "Session.alike" = true)
    (k_m_alike : PySem.W.keepIn K (.ref f_m_alike) = true)
    (a_m_beyond : PySem.W.findIn K (.ref C) "beyond" = some (some (.ref f_m_beyond)))
    (i_m_beyond : PySem.W.isFn K (.ref f_m_beyond) = true)
    (l_m_beyond : K.lookup f_m_beyond = some ⟨oc_m_beyond, od_m_beyond, .func (PySem.W.fnOf "beyond" "Session.beyond" (defArgs s_m_beyond) (defBody s_m_beyond) (defScope s_m_beyond) .none kV_m_beyond dc_m_beyond pm_m_beyond an_m_beyond cd_m_beyond ct_m_beyond), sl_m_beyond⟩)
    (c_m_beyond : PySem.W.codeIn K cd_m_beyond "Session.beyond" = true)
    (k_m_beyond : PySem.W.keepIn K (.ref f_m_beyond) = true)
    (a_m_settled : PySem.W.findIn K (.ref C) "settled" = some (some (.ref f_m_settled)))
    (i_m_settled : PySem.W.isFn K (.ref f_m_settled) = true)
    (l_m_settled : K.lookup f_m_settled = some ⟨oc_m_settled, od_m_settled, .func (PySem.W.fnOf "settled" "Session.settled" (defArgs s_m_settled) (defBody s_m_settled) (defScope s_m_settled) .none kV_m_settled dc_m_settled pm_m_settled an_m_settled cd_m_settled ct_m_settled), sl_m_settled⟩)
    (c_m_settled : PySem.W.codeIn K cd_m_settled "Session.settled" = true)
    (k_m_settled : PySem.W.keepIn K (.ref f_m_settled) = true)
    (g_KIND_LIKELIER : PySem.W.nsIn K mainGlobals "KIND_LIKELIER" = some (some (.int (0) t_KIND_LIKELIER)))
    (g_KIND_NO_LESS : PySem.W.nsIn K mainGlobals "KIND_NO_LESS" = some (some (.int (1) t_KIND_NO_LESS)))
    (g_KIND_AS_LIKELY : PySem.W.nsIn K mainGlobals "KIND_AS_LIKELY" = some (some (.int (2) t_KIND_AS_LIKELY)))
    (g_NOTHING : PySem.W.nsIn K mainGlobals "NOTHING" = some (some (.int (0) t_NOTHING)))
    (g_NO_LESS : PySem.W.nsIn K mainGlobals "NO_LESS" = some (some (.int (1) t_NO_LESS)))
    (g_LIKELIER : PySem.W.nsIn K mainGlobals "LIKELIER" = some (some (.int (2) t_LIKELIER)))
    (g_MOST_TOGETHER : PySem.W.nsIn K mainGlobals "MOST_TOGETHER" = some (some (.int (10) t_MOST_TOGETHER)))
    (g_MOST_WORLDS : PySem.W.nsIn K mainGlobals "MOST_WORLDS" = some (some (.int (5) t_MOST_WORLDS)))
    (g_MOST_TOLD : PySem.W.nsIn K mainGlobals "MOST_TOLD" = some (some (.int (6) t_MOST_TOLD)))
    (g_NONE_SUCH : PySem.W.nsIn K mainGlobals "NONE_SUCH" = some (some (.int (-2) t_NONE_SUCH)))
    (g_NOT_RIGHT : PySem.W.nsIn K mainGlobals "NOT_RIGHT" = some (some (.int (-22) t_NOT_RIGHT)))
    (g_TOO_MANY : PySem.W.nsIn K mainGlobals "TOO_MANY" = some (some (.int (-28) t_TOO_MANY)))
    (g_NO_SHARES : PySem.W.nsIn K mainGlobals "NO_SHARES" = some (some (.int (-33) t_NO_SHARES)))
    (g_SOME_SHARES : PySem.W.nsIn K mainGlobals "SOME_SHARES" = some (some (.int (-33) t_SOME_SHARES)))
    (g_MAY_HAVE_NONE : PySem.W.nsIn K mainGlobals "MAY_HAVE_NONE" = some (some (.int (-62) t_MAY_HAVE_NONE)))
    (g_FITS : PySem.W.nsIn K mainGlobals "FITS" = some (some (.int (6) t_FITS)))
    (g_WRONG : PySem.W.nsIn K mainGlobals "WRONG" = some (some (.int (7) t_WRONG)))
    (g_NOT_BEGUN : PySem.W.nsIn K mainGlobals "NOT_BEGUN" = some (some (.int (-11) t_NOT_BEGUN)))
    (g_BEGIN : PySem.W.nsIn K mainGlobals "BEGIN" = some (some (.int (0) t_BEGIN)))
    (g_TELL : PySem.W.nsIn K mainGlobals "TELL" = some (some (.int (1) t_TELL)))
    (g_UNTELL : PySem.W.nsIn K mainGlobals "UNTELL" = some (some (.int (2) t_UNTELL)))
    (g_CAN : PySem.W.nsIn K mainGlobals "CAN" = some (some (.int (3) t_CAN)))
    (g_WAYS : PySem.W.nsIn K mainGlobals "WAYS" = some (some (.int (4) t_WAYS)))
    (g_PLAINEST : PySem.W.nsIn K mainGlobals "PLAINEST" = some (some (.int (5) t_PLAINEST)))
    (g_RULES : PySem.W.nsIn K mainGlobals "RULES" = some (some (.int (8) t_RULES)))
    (g_ALL_SHARES : PySem.W.nsIn K mainGlobals "ALL_SHARES" = some (some (.int (9) t_ALL_SHARES)))
    (g_BROKEN : PySem.W.nsIn K mainGlobals "BROKEN" = some (some (.int (10) t_BROKEN)))
    (g_BEYOND : PySem.W.nsIn K mainGlobals "BEYOND" = some (some (.int (11) t_BEYOND)))
    (g_WHOLE : PySem.W.nsIn K mainGlobals "WHOLE" = some (some (.int (12) t_WHOLE)))
    (g_CHANCE : PySem.W.nsIn K mainGlobals "CHANCE" = some (some (.int (13) t_CHANCE)))
    (g_GIVEN : PySem.W.nsIn K mainGlobals "GIVEN" = some (some (.int (14) t_GIVEN)))
    (g_ALIKE : PySem.W.nsIn K mainGlobals "ALIKE" = some (some (.int (15) t_ALIKE)))
    (g_CLASHES : PySem.W.nsIn K mainGlobals "CLASHES" = some (some (.int (16) t_CLASHES)))
    (g_SPARE : PySem.W.nsIn K mainGlobals "SPARE" = some (some (.int (17) t_SPARE)))
    (g_LOOK : PySem.W.nsIn K mainGlobals "LOOK" = some (some (.int (19) t_LOOK)))
    (g_STATE : PySem.W.nsIn K mainGlobals "STATE" = some (some (.int (20) t_STATE)))
    (z_range : PySem.W.nsIn K mainGlobals "range" = some none)
    (z_len : PySem.W.nsIn K mainGlobals "len" = some none)
    (z_max : PySem.W.nsIn K mainGlobals "max" = some none)
    (z_min : PySem.W.nsIn K mainGlobals "min" = some none)
    (z_sum : PySem.W.nsIn K mainGlobals "sum" = some none)
    (z_zip : PySem.W.nsIn K mainGlobals "zip" = some none)
    (z_list : PySem.W.nsIn K mainGlobals "list" = some none)
    (z_enum : PySem.W.nsIn K mainGlobals "enumerate" = some none)
    (z_any : PySem.W.nsIn K mainGlobals "any" = some none)
    (z_all : PySem.W.nsIn K mainGlobals "all" = some none)
    (z_sorted : PySem.W.nsIn K mainGlobals "sorted" = some none)
    (g_hm : PySem.W.nsIn K mainGlobals "HOW_MANY_NUMBERS" = some (some (.ref ha)))
    (l_hm : K.lookup ha = some oh)
    (h1 : oh.cls = .type "tuple")
    (h2 : oh.data = .seq ih nh)
    (h3 : Paired L2.RelV (ns hmL) ih.toList)
    (h4 : ih.size ≤ sizeLine)
    (pg : PySem.W.plainGet K C Str.empty = true)
    (hd : PySem.W.hasDictIn K C = true)
    (po : PySem.W.plainOver K C = true)
    (sa : PySem.W.findIn K (.ref C) "__setattr__" = some (some (.builtin "object.__setattr__")))
    (mk : PySem.W.makesIn K C = true)
    (kc : PySem.W.keepIn K (.ref C) = true)
    (nW : PySem.W.findIn K (.ref C) "worlds" = some none)
    (nT : PySem.W.findIn K (.ref C) "told" = some none) :
    ∃ fd : FuncData, (∀ (s : Shared) (us : List Value), us.length = (["calls"] : List Str).length → BindsTo s fd ⟨us, []⟩ ((["calls"] : List Str).zip us)) ∧ ∀ base : Heap, K.In base → base.Ns mainGlobals mg → FnOk P w K mg base CX0 11 fa fd ["calls"] (spAns K) := by
  have e := hfa.symm.trans (PySem.W.mg_of X G0 a_answers)
  cases e
  have Dd : Gd mg := { kLik := ⟨_, PySem.W.mg_of X G0 g_KIND_LIKELIER⟩, kNol := ⟨_, PySem.W.mg_of X G0 g_KIND_NO_LESS⟩, kAs := ⟨_, PySem.W.mg_of X G0 g_KIND_AS_LIKELY⟩, not_ := ⟨_, PySem.W.mg_of X G0 g_NOTHING⟩, nol := ⟨_, PySem.W.mg_of X G0 g_NO_LESS⟩, lik := ⟨_, PySem.W.mg_of X G0 g_LIKELIER⟩, mostT := ⟨_, PySem.W.mg_of X G0 g_MOST_TOGETHER⟩, MOST_WORLDS := ⟨_, PySem.W.mg_of X G0 g_MOST_WORLDS⟩, MOST_TOLD := ⟨_, PySem.W.mg_of X G0 g_MOST_TOLD⟩, NONE_SUCH := ⟨_, PySem.W.mg_of X G0 g_NONE_SUCH⟩, NOT_RIGHT := ⟨_, PySem.W.mg_of X G0 g_NOT_RIGHT⟩, TOO_MANY := ⟨_, PySem.W.mg_of X G0 g_TOO_MANY⟩, NO_SHARES := ⟨_, PySem.W.mg_of X G0 g_NO_SHARES⟩, SOME_SHARES := ⟨_, PySem.W.mg_of X G0 g_SOME_SHARES⟩, MAY_HAVE_NONE := ⟨_, PySem.W.mg_of X G0 g_MAY_HAVE_NONE⟩, FITS := ⟨_, PySem.W.mg_of X G0 g_FITS⟩, WRONG := ⟨_, PySem.W.mg_of X G0 g_WRONG⟩, NOT_BEGUN := ⟨_, PySem.W.mg_of X G0 g_NOT_BEGUN⟩, BEGIN := ⟨_, PySem.W.mg_of X G0 g_BEGIN⟩, TELL := ⟨_, PySem.W.mg_of X G0 g_TELL⟩, UNTELL := ⟨_, PySem.W.mg_of X G0 g_UNTELL⟩, CAN := ⟨_, PySem.W.mg_of X G0 g_CAN⟩, WAYS := ⟨_, PySem.W.mg_of X G0 g_WAYS⟩, PLAINEST := ⟨_, PySem.W.mg_of X G0 g_PLAINEST⟩, RULES := ⟨_, PySem.W.mg_of X G0 g_RULES⟩, ALL_SHARES := ⟨_, PySem.W.mg_of X G0 g_ALL_SHARES⟩, BROKEN := ⟨_, PySem.W.mg_of X G0 g_BROKEN⟩, BEYOND := ⟨_, PySem.W.mg_of X G0 g_BEYOND⟩, WHOLE := ⟨_, PySem.W.mg_of X G0 g_WHOLE⟩, CHANCE := ⟨_, PySem.W.mg_of X G0 g_CHANCE⟩, GIVEN := ⟨_, PySem.W.mg_of X G0 g_GIVEN⟩, ALIKE := ⟨_, PySem.W.mg_of X G0 g_ALIKE⟩, CLASHES := ⟨_, PySem.W.mg_of X G0 g_CLASHES⟩, SPARE := ⟨_, PySem.W.mg_of X G0 g_SPARE⟩, LOOK := ⟨_, PySem.W.mg_of X G0 g_LOOK⟩, STATE := ⟨_, PySem.W.mg_of X G0 g_STATE⟩, range := PySem.W.mg_none_of X G0 z_range, len := PySem.W.mg_none_of X G0 z_len, max := PySem.W.mg_none_of X G0 z_max, min := PySem.W.mg_none_of X G0 z_min, sum := PySem.W.mg_none_of X G0 z_sum, zip := PySem.W.mg_none_of X G0 z_zip, list := PySem.W.mg_none_of X G0 z_list, enum := PySem.W.mg_none_of X G0 z_enum, any := PySem.W.mg_none_of X G0 z_any, all := PySem.W.mg_none_of X G0 z_all, sorted := PySem.W.mg_none_of X G0 z_sorted }
  have U : Gu mg := Dd.toGu
  have S : Gs mg := U.toGs
  have G : Gn mg := S.toGn
  have T : Txt K mg C := ⟨⟨pg, hd, po, sa⟩, nW, nT⟩
  have mgS := PySem.W.mg_of X G0 aC
  have F_row_of_parts := fun_mk (st := sRowOfParts) l_row_of_parts c_row_of_parts k_row_of_parts
  have D_row_of_parts : Df K mg "row_of_parts" _ _ ["first", "size"] := ⟨PySem.W.mg_of X G0 a_row_of_parts, k_row_of_parts, F_row_of_parts.binds (ps := ["first", "size"]) fun _ _ _ _ _ _ us hl => match us, hl with | [_, _], _ => rfl⟩
  have F_raise_to := fun_mk (st := sRaise) l_raise_to c_raise_to k_raise_to
  have D_raise_to : Df K mg "raise_to" _ _ ["table", "first", "second", "level"] := ⟨PySem.W.mg_of X G0 a_raise_to, k_raise_to, F_raise_to.binds (ps := ["table", "first", "second", "level"]) fun _ _ _ _ _ _ us hl => match us, hl with | [_, _, _, _], _ => rfl⟩
  have F_table_at_first := fun_mk (st := sTabFirst) l_table_at_first c_table_at_first k_table_at_first
  have D_table_at_first : Df K mg "table_at_first" _ _ ["worlds", "told"] := ⟨PySem.W.mg_of X G0 a_table_at_first, k_table_at_first, F_table_at_first.binds (ps := ["worlds", "told"]) fun _ _ _ _ _ _ us hl => match us, hl with | [_, _], _ => rfl⟩
  have F_without := fun_mk (st := sWithout) l_without c_without k_without
  have D_without : Df K mg "without" _ _ ["chosen", "others"] := ⟨PySem.W.mg_of X G0 a_without, k_without, F_without.binds (ps := ["chosen", "others"]) fun _ _ _ _ _ _ us hl => match us, hl with | [_, _], _ => rfl⟩
  have F_highest_apart := fun_mk (st := s_highest_apart) l_highest_apart c_highest_apart k_highest_apart
  have D_highest_apart : Df K mg "highest_apart" _ _ ["table"] := ⟨PySem.W.mg_of X G0 a_highest_apart, k_highest_apart, F_highest_apart.binds (ps := ["table"]) fun _ _ _ _ _ _ us hl => match us, hl with | [_], _ => rfl⟩
  have F_row_with_common := fun_mk (st := s_row_with_common) l_row_with_common c_row_with_common k_row_with_common
  have D_row_with_common : Df K mg "row_with_common" _ _ ["first", "apart"] := ⟨PySem.W.mg_of X G0 a_row_with_common, k_row_with_common, F_row_with_common.binds (ps := ["first", "apart"]) fun _ _ _ _ _ _ us hl => match us, hl with | [_, _], _ => rfl⟩
  have F_same_with_any_put_to_both := fun_mk (st := s_same_with_any_put_to_both) l_same_with_any_put_to_both c_same_with_any_put_to_both k_same_with_any_put_to_both
  have D_same_with_any_put_to_both : Df K mg "same_with_any_put_to_both" _ _ ["table"] := ⟨PySem.W.mg_of X G0 a_same_with_any_put_to_both, k_same_with_any_put_to_both, F_same_with_any_put_to_both.binds (ps := ["table"]) fun _ _ _ _ _ _ us hl => match us, hl with | [_], _ => rfl⟩
  have F_row_through := fun_mk (st := s_row_through) l_row_through c_row_through k_row_through
  have D_row_through : Df K mg "row_through" _ _ ["row", "level", "onward"] := ⟨PySem.W.mg_of X G0 a_row_through, k_row_through, F_row_through.binds (ps := ["row", "level", "onward"]) fun _ _ _ _ _ _ us hl => match us, hl with | [_, _, _], _ => rfl⟩
  have F_from_one_to_the_next := fun_mk (st := s_from_one_to_the_next) l_from_one_to_the_next c_from_one_to_the_next k_from_one_to_the_next
  have D_from_one_to_the_next : Df K mg "from_one_to_the_next" _ _ ["table"] := ⟨PySem.W.mg_of X G0 a_from_one_to_the_next, k_from_one_to_the_next, F_from_one_to_the_next.binds (ps := ["table"]) fun _ _ _ _ _ _ us hl => match us, hl with | [_], _ => rfl⟩
  have F_table_by_rules := fun_mk (st := s_table_by_rules) l_table_by_rules c_table_by_rules k_table_by_rules
  have D_table_by_rules : Df K mg "table_by_rules" _ _ ["worlds", "told"] := ⟨PySem.W.mg_of X G0 a_table_by_rules, k_table_by_rules, F_table_by_rules.binds (ps := ["worlds", "told"]) fun _ _ _ _ _ _ us hl => match us, hl with | [_, _], _ => rfl⟩
  have F_is_broken := fun_mk (st := s_is_broken) l_is_broken c_is_broken k_is_broken
  have D_is_broken : Df K mg "is_broken" _ _ ["table"] := ⟨PySem.W.mg_of X G0 a_is_broken, k_is_broken, F_is_broken.binds (ps := ["table"]) fun _ _ _ _ _ _ us hl => match us, hl with | [_], _ => rfl⟩
  have F_is_told_by := fun_mk (st := s_is_told_by) l_is_told_by c_is_told_by k_is_told_by
  have D_is_told_by : Df K mg "is_told_by" _ _ ["table", "one"] := ⟨PySem.W.mg_of X G0 a_is_told_by, k_is_told_by, F_is_told_by.binds (ps := ["table", "one"]) fun _ _ _ _ _ _ us hl => match us, hl with | [_, _], _ => rfl⟩
  have F_is_shares := fun_mk (st := s_is_shares) l_is_shares c_is_shares k_is_shares
  have D_is_shares : Df K mg "is_shares" _ _ ["numbers", "worlds"] := ⟨PySem.W.mg_of X G0 a_is_shares, k_is_shares, F_is_shares.binds (ps := ["numbers", "worlds"]) fun _ _ _ _ _ _ us hl => match us, hl with | [_, _], _ => rfl⟩
  have F_share_of := fun_mk (st := s_share_of) l_share_of c_share_of k_share_of
  have D_share_of : Df K mg "share_of" _ _ ["chosen", "shares"] := ⟨PySem.W.mg_of X G0 a_share_of, k_share_of, F_share_of.binds (ps := ["chosen", "shares"]) fun _ _ _ _ _ _ us hl => match us, hl with | [_, _], _ => rfl⟩
  have F_lead := fun_mk (st := s_lead) l_lead c_lead k_lead
  have D_lead : Df K mg "lead" _ _ ["first", "second", "shares"] := ⟨PySem.W.mg_of X G0 a_lead, k_lead, F_lead.binds (ps := ["first", "second", "shares"]) fun _ _ _ _ _ _ us hl => match us, hl with | [_, _, _], _ => rfl⟩
  have F_agree := fun_mk (st := s_agree) l_agree c_agree k_agree
  have D_agree : Df K mg "agree" _ _ ["shares", "one"] := ⟨PySem.W.mg_of X G0 a_agree, k_agree, F_agree.binds (ps := ["shares", "one"]) fun _ _ _ _ _ _ us hl => match us, hl with | [_, _], _ => rfl⟩
  have F_disagreed := fun_mk (st := s_disagreed) l_disagreed c_disagreed k_disagreed
  have D_disagreed : Df K mg "disagreed" _ _ ["shares", "told"] := ⟨PySem.W.mg_of X G0 a_disagreed, k_disagreed, F_disagreed.binds (ps := ["shares", "told"]) fun _ _ _ _ _ _ us hl => match us, hl with | [_, _], _ => rfl⟩
  have F_fit := fun_mk (st := s_fit) l_fit c_fit k_fit
  have D_fit : Df K mg "fit" _ _ ["shares", "told"] := ⟨PySem.W.mg_of X G0 a_fit, k_fit, F_fit.binds (ps := ["shares", "told"]) fun _ _ _ _ _ _ us hl => match us, hl with | [_, _], _ => rfl⟩
  have F_one_world_more := fun_mk (st := s_one_world_more) l_one_world_more c_one_world_more k_one_world_more
  have D_one_world_more : Df K mg "one_world_more" _ _ ["rows", "together"] := ⟨PySem.W.mg_of X G0 a_one_world_more, k_one_world_more, F_one_world_more.binds (ps := ["rows", "together"]) fun _ _ _ _ _ _ us hl => match us, hl with | [_, _], _ => rfl⟩
  have F_shares_together := fun_mk (st := s_shares_together) l_shares_together c_shares_together k_shares_together
  have D_shares_together : Df K mg "shares_together" _ _ ["worlds", "together"] := ⟨PySem.W.mg_of X G0 a_shares_together, k_shares_together, F_shares_together.binds (ps := ["worlds", "together"]) fun _ _ _ _ _ _ us hl => match us, hl with | [_, _], _ => rfl⟩
  have F_shares_in_order := fun_mk (st := s_shares_in_order) l_shares_in_order c_shares_in_order k_shares_in_order
  have D_shares_in_order : Df K mg "shares_in_order" _ _ ["worlds"] := ⟨PySem.W.mg_of X G0 a_shares_in_order, k_shares_in_order, F_shares_in_order.binds (ps := ["worlds"]) fun _ _ _ _ _ _ us hl => match us, hl with | [_], _ => rfl⟩
  have F_some_have_none := fun_mk (st := s_some_have_none) l_some_have_none c_some_have_none k_some_have_none
  have D_some_have_none : Df K mg "some_have_none" _ _ ["chosen", "fitting"] := ⟨PySem.W.mg_of X G0 a_some_have_none, k_some_have_none, F_some_have_none.binds (ps := ["chosen", "fitting"]) fun _ _ _ _ _ _ us hl => match us, hl with | [_, _], _ => rfl⟩
  have F_fitting_shares := fun_mk (st := s_fitting_shares) l_fitting_shares c_fitting_shares k_fitting_shares
  have D_fitting_shares : Df K mg "fitting_shares" _ _ ["worlds", "told"] := ⟨PySem.W.mg_of X G0 a_fitting_shares, k_fitting_shares, F_fitting_shares.binds (ps := ["worlds", "told"]) fun _ _ _ _ _ _ us hl => match us, hl with | [_, _], _ => rfl⟩
  have F_told_by_all := fun_mk (st := s_told_by_all) l_told_by_all c_told_by_all k_told_by_all
  have D_told_by_all : Df K mg "told_by_all" _ _ ["first", "second", "fitting"] := ⟨PySem.W.mg_of X G0 a_told_by_all, k_told_by_all, F_told_by_all.binds (ps := ["first", "second", "fitting"]) fun _ _ _ _ _ _ us hl => match us, hl with | [_, _, _], _ => rfl⟩
  have F_chance_by := fun_mk (st := s_chance_by) l_chance_by c_chance_by k_chance_by
  have D_chance_by : Df K mg "chance_by" _ _ ["shares", "chosen"] := ⟨PySem.W.mg_of X G0 a_chance_by, k_chance_by, F_chance_by.binds (ps := ["shares", "chosen"]) fun _ _ _ _ _ _ us hl => match us, hl with | [_, _], _ => rfl⟩
  have F_is_less := fun_mk (st := s_is_less) l_is_less c_is_less k_is_less
  have D_is_less : Df K mg "is_less" _ _ ["chance", "other"] := ⟨PySem.W.mg_of X G0 a_is_less, k_is_less, F_is_less.binds (ps := ["chance", "other"]) fun _ _ _ _ _ _ us hl => match us, hl with | [_, _], _ => rfl⟩
  have F_least_chance := fun_mk (st := s_least_chance) l_least_chance c_least_chance k_least_chance
  have D_least_chance : Df K mg "least_chance" _ _ ["chosen", "fitting"] := ⟨PySem.W.mg_of X G0 a_least_chance, k_least_chance, F_least_chance.binds (ps := ["chosen", "fitting"]) fun _ _ _ _ _ _ us hl => match us, hl with | [_, _], _ => rfl⟩
  have F_greatest_chance := fun_mk (st := s_greatest_chance) l_greatest_chance c_greatest_chance k_greatest_chance
  have D_greatest_chance : Df K mg "greatest_chance" _ _ ["chosen", "fitting"] := ⟨PySem.W.mg_of X G0 a_greatest_chance, k_greatest_chance, F_greatest_chance.binds (ps := ["chosen", "fitting"]) fun _ _ _ _ _ _ us hl => match us, hl with | [_, _], _ => rfl⟩
  have F_greatest_common_divisor := fun_mk (st := s_greatest_common_divisor) l_greatest_common_divisor c_greatest_common_divisor k_greatest_common_divisor
  have D_greatest_common_divisor : Df K mg "greatest_common_divisor" _ _ ["one", "other"] := ⟨PySem.W.mg_of X G0 a_greatest_common_divisor, k_greatest_common_divisor, F_greatest_common_divisor.binds (ps := ["one", "other"]) fun _ _ _ _ _ _ us hl => match us, hl with | [_, _], _ => rfl⟩
  have F_as_fraction := fun_mk (st := s_as_fraction) l_as_fraction c_as_fraction k_as_fraction
  have D_as_fraction : Df K mg "as_fraction" _ _ ["chance"] := ⟨PySem.W.mg_of X G0 a_as_fraction, k_as_fraction, F_as_fraction.binds (ps := ["chance"]) fun _ _ _ _ _ _ us hl => match us, hl with | [_], _ => rfl⟩
  have F_set_of := fun_mk (st := s_set_of) l_set_of c_set_of k_set_of
  have D_set_of : Df K mg "set_of" _ _ ["numbers"] := ⟨PySem.W.mg_of X G0 a_set_of, k_set_of, F_set_of.binds (ps := ["numbers"]) fun _ _ _ _ _ _ us hl => match us, hl with | [_], _ => rfl⟩
  have F_wrong_sets := fun_mk (st := s_wrong_sets) l_wrong_sets c_wrong_sets k_wrong_sets
  have D_wrong_sets : Df K mg "wrong_sets" _ _ ["worlds", "told"] := ⟨PySem.W.mg_of X G0 a_wrong_sets, k_wrong_sets, F_wrong_sets.binds (ps := ["worlds", "told"]) fun _ _ _ _ _ _ us hl => match us, hl with | [_, _], _ => rfl⟩
  have F_some_fit := fun_mk (st := s_some_fit) l_some_fit c_some_fit k_some_fit
  have D_some_fit : Df K mg "some_fit" _ _ ["wrong"] := ⟨PySem.W.mg_of X G0 a_some_fit, k_some_fit, F_some_fit.binds (ps := ["wrong"]) fun _ _ _ _ _ _ us hl => match us, hl with | [_], _ => rfl⟩
  have F_some_agree := fun_mk (st := s_some_agree) l_some_agree c_some_agree k_some_agree
  have D_some_agree : Df K mg "some_agree" _ _ ["chosen", "wrong"] := ⟨PySem.W.mg_of X G0 a_some_agree, k_some_agree, F_some_agree.binds (ps := ["chosen", "wrong"]) fun _ _ _ _ _ _ us hl => match us, hl with | [_, _], _ => rfl⟩
  have F_one_left_out := fun_mk (st := s_one_left_out) l_one_left_out c_one_left_out k_one_left_out
  have D_one_left_out : Df K mg "one_left_out" _ _ ["chosen", "how_many"] := ⟨PySem.W.mg_of X G0 a_one_left_out, k_one_left_out, F_one_left_out.binds (ps := ["chosen", "how_many"]) fun _ _ _ _ _ _ us hl => match us, hl with | [_, _], _ => rfl⟩
  have F_is_clash := fun_mk (st := s_is_clash) l_is_clash c_is_clash k_is_clash
  have D_is_clash : Df K mg "is_clash" _ _ ["chosen", "how_many", "wrong"] := ⟨PySem.W.mg_of X G0 a_is_clash, k_is_clash, F_is_clash.binds (ps := ["chosen", "how_many", "wrong"]) fun _ _ _ _ _ _ us hl => match us, hl with | [_, _, _], _ => rfl⟩
  have F_all_clashes := fun_mk (st := s_all_clashes) l_all_clashes c_all_clashes k_all_clashes
  have D_all_clashes : Df K mg "all_clashes" _ _ ["how_many", "wrong"] := ⟨PySem.W.mg_of X G0 a_all_clashes, k_all_clashes, F_all_clashes.binds (ps := ["how_many", "wrong"]) fun _ _ _ _ _ _ us hl => match us, hl with | [_, _], _ => rfl⟩
  have F_all_spare := fun_mk (st := s_all_spare) l_all_spare c_all_spare k_all_spare
  have D_all_spare : Df K mg "all_spare" _ _ ["how_many", "wrong"] := ⟨PySem.W.mg_of X G0 a_all_spare, k_all_spare, F_all_spare.binds (ps := ["how_many", "wrong"]) fun _ _ _ _ _ _ us hl => match us, hl with | [_, _], _ => rfl⟩
  have F_pairs_apart := fun_mk (st := s_pairs_apart) l_pairs_apart c_pairs_apart k_pairs_apart
  have D_pairs_apart : Df K mg "pairs_apart" _ _ ["size"] := ⟨PySem.W.mg_of X G0 a_pairs_apart, k_pairs_apart, F_pairs_apart.binds (ps := ["size"]) fun _ _ _ _ _ _ us hl => match us, hl with | [_], _ => rfl⟩
  have F_is_told_of := fun_mk (st := s_is_told_of) l_is_told_of c_is_told_of k_is_told_of
  have D_is_told_of : Df K mg "is_told_of" _ _ ["table", "pair"] := ⟨PySem.W.mg_of X G0 a_is_told_of, k_is_told_of, F_is_told_of.binds (ps := ["table", "pair"]) fun _ _ _ _ _ _ us hl => match us, hl with | [_, _], _ => rfl⟩
  have F_is_whole := fun_mk (st := s_is_whole) l_is_whole c_is_whole k_is_whole
  have D_is_whole : Df K mg "is_whole" _ _ ["table"] := ⟨PySem.W.mg_of X G0 a_is_whole, k_is_whole, F_is_whole.binds (ps := ["table"]) fun _ _ _ _ _ _ us hl => match us, hl with | [_], _ => rfl⟩
  have F_is_alike := fun_mk (st := s_is_alike) l_is_alike c_is_alike k_is_alike
  have D_is_alike : Df K mg "is_alike" _ _ ["table", "pair"] := ⟨PySem.W.mg_of X G0 a_is_alike, k_is_alike, F_is_alike.binds (ps := ["table", "pair"]) fun _ _ _ _ _ _ us hl => match us, hl with | [_, _], _ => rfl⟩
  have F_alike_pairs := fun_mk (st := s_alike_pairs) l_alike_pairs c_alike_pairs k_alike_pairs
  have D_alike_pairs : Df K mg "alike_pairs" _ _ ["table"] := ⟨PySem.W.mg_of X G0 a_alike_pairs, k_alike_pairs, F_alike_pairs.binds (ps := ["table"]) fun _ _ _ _ _ _ us hl => match us, hl with | [_], _ => rfl⟩
  have F_is_beyond := fun_mk (st := s_is_beyond) l_is_beyond c_is_beyond k_is_beyond
  have D_is_beyond : Df K mg "is_beyond" _ _ ["table", "pair", "fitting"] := ⟨PySem.W.mg_of X G0 a_is_beyond, k_is_beyond, F_is_beyond.binds (ps := ["table", "pair", "fitting"]) fun _ _ _ _ _ _ us hl => match us, hl with | [_, _, _], _ => rfl⟩
  have F_beyond_pairs := fun_mk (st := s_beyond_pairs) l_beyond_pairs c_beyond_pairs k_beyond_pairs
  have D_beyond_pairs : Df K mg "beyond_pairs" _ _ ["table", "fitting"] := ⟨PySem.W.mg_of X G0 a_beyond_pairs, k_beyond_pairs, F_beyond_pairs.binds (ps := ["table", "fitting"]) fun _ _ _ _ _ _ us hl => match us, hl with | [_, _], _ => rfl⟩
  have F_end_of_call := fun_mk (st := s_end_of_call) l_end_of_call c_end_of_call k_end_of_call
  have D_end_of_call : Df K mg "end_of_call" _ _ ["calls", "start"] := ⟨PySem.W.mg_of X G0 a_end_of_call, k_end_of_call, F_end_of_call.binds (ps := ["calls", "start"]) fun _ _ _ _ _ _ us hl => match us, hl with | [_, _], _ => rfl⟩
  have F_answer_about_told := fun_mk (st := s_answer_about_told) l_answer_about_told c_answer_about_told k_answer_about_told
  have D_answer_about_told : Df K mg "answer_about_told" _ _ ["session", "number", "numbers"] := ⟨PySem.W.mg_of X G0 a_answer_about_told, k_answer_about_told, F_answer_about_told.binds (ps := ["session", "number", "numbers"]) fun _ _ _ _ _ _ us hl => match us, hl with | [_, _, _], _ => rfl⟩
  have F_answer_about_fitting := fun_mk (st := s_answer_about_fitting) l_answer_about_fitting c_answer_about_fitting k_answer_about_fitting
  have D_answer_about_fitting : Df K mg "answer_about_fitting" _ _ ["session", "number", "numbers"] := ⟨PySem.W.mg_of X G0 a_answer_about_fitting, k_answer_about_fitting, F_answer_about_fitting.binds (ps := ["session", "number", "numbers"]) fun _ _ _ _ _ _ us hl => match us, hl with | [_, _, _], _ => rfl⟩
  have F_answer_by_shares := fun_mk (st := s_answer_by_shares) l_answer_by_shares c_answer_by_shares k_answer_by_shares
  have D_answer_by_shares : Df K mg "answer_by_shares" _ _ ["session", "number", "numbers"] := ⟨PySem.W.mg_of X G0 a_answer_by_shares, k_answer_by_shares, F_answer_by_shares.binds (ps := ["session", "number", "numbers"]) fun _ _ _ _ _ _ us hl => match us, hl with | [_, _, _], _ => rfl⟩
  have F_answer_by_rules := fun_mk (st := s_answer_by_rules) l_answer_by_rules c_answer_by_rules k_answer_by_rules
  have D_answer_by_rules : Df K mg "answer_by_rules" _ _ ["session", "number", "numbers"] := ⟨PySem.W.mg_of X G0 a_answer_by_rules, k_answer_by_rules, F_answer_by_rules.binds (ps := ["session", "number", "numbers"]) fun _ _ _ _ _ _ us hl => match us, hl with | [_, _, _], _ => rfl⟩
  have F_answer_to := fun_mk (st := s_answer_to) l_answer_to c_answer_to k_answer_to
  have D_answer_to : Df K mg "answer_to" _ _ ["session", "number", "numbers"] := ⟨PySem.W.mg_of X G0 a_answer_to, k_answer_to, F_answer_to.binds (ps := ["session", "number", "numbers"]) fun _ _ _ _ _ _ us hl => match us, hl with | [_, _, _], _ => rfl⟩
  have F_answers := fun_mk (st := s_answers) l_answers c_answers k_answers
  have D_answers : Df K mg "answers" _ _ ["calls"] := ⟨PySem.W.mg_of X G0 a_answers, k_answers, F_answers.binds (ps := ["calls"]) fun _ _ _ _ _ _ us hl => match us, hl with | [_], _ => rfl⟩
  have F_m___init__ := fun_mk (st := s_m___init__) l_m___init__ c_m___init__ k_m___init__
  have B___init__ := F_m___init__.binds (ps := ["self"]) fun _ _ _ _ _ _ us hl => match us, hl with | [_], _ => rfl
  have M___init__ : Meth K C "__init__" f_m___init__ := ⟨a_m___init__, i_m___init__, k_m___init__⟩
  have F_m_has_begun := fun_mk (st := s_m_has_begun) l_m_has_begun c_m_has_begun k_m_has_begun
  have B_has_begun := F_m_has_begun.binds (ps := ["self"]) fun _ _ _ _ _ _ us hl => match us, hl with | [_], _ => rfl
  have M_has_begun : Meth K C "has_begun" f_m_has_begun := ⟨a_m_has_begun, i_m_has_begun, k_m_has_begun⟩
  have F_m_is_set := fun_mk (st := s_m_is_set) l_m_is_set c_m_is_set k_m_is_set
  have B_is_set := F_m_is_set.binds (ps := ["self", "chosen"]) fun _ _ _ _ _ _ us hl => match us, hl with | [_, _], _ => rfl
  have M_is_set : Meth K C "is_set" f_m_is_set := ⟨a_m_is_set, i_m_is_set, k_m_is_set⟩
  have F_m_begin := fun_mk (st := s_m_begin) l_m_begin c_m_begin k_m_begin
  have B_begin := F_m_begin.binds (ps := ["self", "worlds"]) fun _ _ _ _ _ _ us hl => match us, hl with | [_, _], _ => rfl
  have M_begin : Meth K C "begin" f_m_begin := ⟨a_m_begin, i_m_begin, k_m_begin⟩
  have F_m_tell := fun_mk (st := s_m_tell) l_m_tell c_m_tell k_m_tell
  have B_tell := F_m_tell.binds (ps := ["self", "kind", "first", "second"]) fun _ _ _ _ _ _ us hl => match us, hl with | [_, _, _, _], _ => rfl
  have M_tell : Meth K C "tell" f_m_tell := ⟨a_m_tell, i_m_tell, k_m_tell⟩
  have F_m_untell := fun_mk (st := s_m_untell) l_m_untell c_m_untell k_m_untell
  have B_untell := F_m_untell.binds (ps := ["self", "number"]) fun _ _ _ _ _ _ us hl => match us, hl with | [_, _], _ => rfl
  have M_untell : Meth K C "untell" f_m_untell := ⟨a_m_untell, i_m_untell, k_m_untell⟩
  have F_m_look := fun_mk (st := s_m_look) l_m_look c_m_look k_m_look
  have B_look := F_m_look.binds (ps := ["self", "number"]) fun _ _ _ _ _ _ us hl => match us, hl with | [_, _], _ => rfl
  have M_look : Meth K C "look" f_m_look := ⟨a_m_look, i_m_look, k_m_look⟩
  have F_m_state := fun_mk (st := s_m_state) l_m_state c_m_state k_m_state
  have B_state := F_m_state.binds (ps := ["self"]) fun _ _ _ _ _ _ us hl => match us, hl with | [_], _ => rfl
  have M_state : Meth K C "state" f_m_state := ⟨a_m_state, i_m_state, k_m_state⟩
  have F_m_fitting := fun_mk (st := s_m_fitting) l_m_fitting c_m_fitting k_m_fitting
  have B_fitting := F_m_fitting.binds (ps := ["self"]) fun _ _ _ _ _ _ us hl => match us, hl with | [_], _ => rfl
  have M_fitting : Meth K C "fitting" f_m_fitting := ⟨a_m_fitting, i_m_fitting, k_m_fitting⟩
  have F_m_can := fun_mk (st := s_m_can) l_m_can c_m_can k_m_can
  have B_can := F_m_can.binds (ps := ["self"]) fun _ _ _ _ _ _ us hl => match us, hl with | [_], _ => rfl
  have M_can : Meth K C "can" f_m_can := ⟨a_m_can, i_m_can, k_m_can⟩
  have F_m_ways := fun_mk (st := s_m_ways) l_m_ways c_m_ways k_m_ways
  have B_ways := F_m_ways.binds (ps := ["self"]) fun _ _ _ _ _ _ us hl => match us, hl with | [_], _ => rfl
  have M_ways : Meth K C "ways" f_m_ways := ⟨a_m_ways, i_m_ways, k_m_ways⟩
  have F_m_plainest := fun_mk (st := s_m_plainest) l_m_plainest c_m_plainest k_m_plainest
  have B_plainest := F_m_plainest.binds (ps := ["self"]) fun _ _ _ _ _ _ us hl => match us, hl with | [_], _ => rfl
  have M_plainest : Meth K C "plainest" f_m_plainest := ⟨a_m_plainest, i_m_plainest, k_m_plainest⟩
  have F_m_fits := fun_mk (st := s_m_fits) l_m_fits c_m_fits k_m_fits
  have B_fits := F_m_fits.binds (ps := ["self", "shares"]) fun _ _ _ _ _ _ us hl => match us, hl with | [_, _], _ => rfl
  have M_fits : Meth K C "fits" f_m_fits := ⟨a_m_fits, i_m_fits, k_m_fits⟩
  have F_m_wrong := fun_mk (st := s_m_wrong) l_m_wrong c_m_wrong k_m_wrong
  have B_wrong := F_m_wrong.binds (ps := ["self", "shares"]) fun _ _ _ _ _ _ us hl => match us, hl with | [_, _], _ => rfl
  have M_wrong : Meth K C "wrong" f_m_wrong := ⟨a_m_wrong, i_m_wrong, k_m_wrong⟩
  have F_m_all_shares := fun_mk (st := s_m_all_shares) l_m_all_shares c_m_all_shares k_m_all_shares
  have B_all_shares := F_m_all_shares.binds (ps := ["self", "first", "second"]) fun _ _ _ _ _ _ us hl => match us, hl with | [_, _, _], _ => rfl
  have M_all_shares : Meth K C "all_shares" f_m_all_shares := ⟨a_m_all_shares, i_m_all_shares, k_m_all_shares⟩
  have F_m_given := fun_mk (st := s_m_given) l_m_given c_m_given k_m_given
  have B_given := F_m_given.binds (ps := ["self", "first", "second", "within"]) fun _ _ _ _ _ _ us hl => match us, hl with | [_, _, _, _], _ => rfl
  have M_given : Meth K C "given" f_m_given := ⟨a_m_given, i_m_given, k_m_given⟩
  have F_m_chance := fun_mk (st := s_m_chance) l_m_chance c_m_chance k_m_chance
  have B_chance := F_m_chance.binds (ps := ["self", "chosen"]) fun _ _ _ _ _ _ us hl => match us, hl with | [_, _], _ => rfl
  have M_chance : Meth K C "chance" f_m_chance := ⟨a_m_chance, i_m_chance, k_m_chance⟩
  have F_m_spare := fun_mk (st := s_m_spare) l_m_spare c_m_spare k_m_spare
  have B_spare := F_m_spare.binds (ps := ["self"]) fun _ _ _ _ _ _ us hl => match us, hl with | [_], _ => rfl
  have M_spare : Meth K C "spare" f_m_spare := ⟨a_m_spare, i_m_spare, k_m_spare⟩
  have F_m_clashes := fun_mk (st := s_m_clashes) l_m_clashes c_m_clashes k_m_clashes
  have B_clashes := F_m_clashes.binds (ps := ["self"]) fun _ _ _ _ _ _ us hl => match us, hl with | [_], _ => rfl
  have M_clashes : Meth K C "clashes" f_m_clashes := ⟨a_m_clashes, i_m_clashes, k_m_clashes⟩
  have F_m_table := fun_mk (st := s_m_table) l_m_table c_m_table k_m_table
  have B_table := F_m_table.binds (ps := ["self"]) fun _ _ _ _ _ _ us hl => match us, hl with | [_], _ => rfl
  have M_table : Meth K C "table" f_m_table := ⟨a_m_table, i_m_table, k_m_table⟩
  have F_m_rules := fun_mk (st := s_m_rules) l_m_rules c_m_rules k_m_rules
  have B_rules := F_m_rules.binds (ps := ["self", "first", "second"]) fun _ _ _ _ _ _ us hl => match us, hl with | [_, _, _], _ => rfl
  have M_rules : Meth K C "rules" f_m_rules := ⟨a_m_rules, i_m_rules, k_m_rules⟩
  have F_m_broken := fun_mk (st := s_m_broken) l_m_broken c_m_broken k_m_broken
  have B_broken := F_m_broken.binds (ps := ["self"]) fun _ _ _ _ _ _ us hl => match us, hl with | [_], _ => rfl
  have M_broken : Meth K C "broken" f_m_broken := ⟨a_m_broken, i_m_broken, k_m_broken⟩
  have F_m_whole := fun_mk (st := s_m_whole) l_m_whole c_m_whole k_m_whole
  have B_whole := F_m_whole.binds (ps := ["self"]) fun _ _ _ _ _ _ us hl => match us, hl with | [_], _ => rfl
  have M_whole : Meth K C "whole" f_m_whole := ⟨a_m_whole, i_m_whole, k_m_whole⟩
  have F_m_alike := fun_mk (st := s_m_alike) l_m_alike c_m_alike k_m_alike
  have B_alike := F_m_alike.binds (ps := ["self"]) fun _ _ _ _ _ _ us hl => match us, hl with | [_], _ => rfl
  have M_alike : Meth K C "alike" f_m_alike := ⟨a_m_alike, i_m_alike, k_m_alike⟩
  have F_m_beyond := fun_mk (st := s_m_beyond) l_m_beyond c_m_beyond k_m_beyond
  have B_beyond := F_m_beyond.binds (ps := ["self"]) fun _ _ _ _ _ _ us hl => match us, hl with | [_], _ => rfl
  have M_beyond : Meth K C "beyond" f_m_beyond := ⟨a_m_beyond, i_m_beyond, k_m_beyond⟩
  have F_m_settled := fun_mk (st := s_m_settled) l_m_settled c_m_settled k_m_settled
  have B_settled := F_m_settled.binds (ps := ["self", "number"]) fun _ _ _ _ _ _ us hl => match us, hl with | [_, _], _ => rfl
  have M_settled : Meth K C "settled" f_m_settled := ⟨a_m_settled, i_m_settled, k_m_settled⟩
  have hm2 : ∀ H : Hp, SqT K H ha (ns hmL) := fun H => .inr ⟨oh, ih, nh, l_hm, h1, h2, h4, h3⟩
  refine ⟨(PySem.W.fnOf "answers" "answers" (defArgs s_answers) (defBody s_answers) (defScope s_answers) .none kV_answers dc_answers pm_answers an_answers cd_answers ct_answers), fun s us hu => match us, hu with | [_], _ => .of_eq rfl, fun base _ _ => ?_⟩
  have O_without := ok_without (P := P) (w := w) (mg := mg) (base := base) F_without  
  have O_row_of_parts := ok_rowOfParts (P := P) (w := w) (mg := mg) (base := base) F_row_of_parts G 
  have O_raise_to := ok_raise (P := P) (w := w) (mg := mg) (base := base) F_raise_to G 
  have O_table_at_first := ok_tabFirst (P := P) (w := w) (mg := mg) (base := base) F_table_at_first G O_raise_to D_raise_to O_row_of_parts D_row_of_parts
  have O_highest_apart := ok_apart (P := P) (w := w) (mg := mg) (base := base) F_highest_apart G O_raise_to D_raise_to O_without D_without
  have O_row_with_common := ok_rowCommon (P := P) (w := w) (mg := mg) (base := base) F_row_with_common G O_without D_without
  have O_same_with_any_put_to_both := ok_sameAny (P := P) (w := w) (mg := mg) (base := base) F_same_with_any_put_to_both G O_highest_apart D_highest_apart O_row_with_common D_row_with_common
  have O_row_through := ok_through (P := P) (w := w) (mg := mg) (base := base) F_row_through G 
  have O_from_one_to_the_next := ok_on (P := P) (w := w) (mg := mg) (base := base) F_from_one_to_the_next G O_row_through D_row_through
  have O_table_by_rules := ok_rules (P := P) (w := w) (mg := mg) (base := base) F_table_by_rules G O_table_at_first D_table_at_first O_same_with_any_put_to_both D_same_with_any_put_to_both O_from_one_to_the_next D_from_one_to_the_next
  have O_is_broken := ok_broken (P := P) (w := w) (mg := mg) (base := base) F_is_broken G 
  have O_is_shares := ok_isShares (P := P) (w := w) (mg := mg) (base := base) F_is_shares G 
  have O_share_of := ok_share (P := P) (w := w) (mg := mg) (base := base) F_share_of G 
  have O_lead := ok_lead (P := P) (w := w) (mg := mg) (base := base) F_lead  O_share_of D_share_of
  have O_agree := ok_agree (P := P) (w := w) (mg := mg) (base := base) F_agree G O_lead D_lead
  have O_fit := ok_fit (P := P) (w := w) (mg := mg) (base := base) F_fit G O_agree D_agree
  have O_disagreed := ok_disagreed (P := P) (w := w) (mg := mg) (base := base) F_disagreed G O_agree D_agree
  have O_one_world_more := ok_more (P := P) (w := w) (mg := mg) (base := base) F_one_world_more G 
  have O_shares_together := ok_together (P := P) (w := w) (mg := mg) (base := base) F_shares_together G O_one_world_more D_one_world_more
  have O_shares_in_order := ok_inOrder (P := P) (w := w) (mg := mg) (base := base) F_shares_in_order G O_shares_together D_shares_together
  have O_fitting_shares := ok_fitting (P := P) (w := w) (mg := mg) (base := base) F_fitting_shares G O_shares_in_order D_shares_in_order O_fit D_fit
  have O_told_by_all := ok_byAll (P := P) (w := w) (mg := mg) (base := base) F_told_by_all G O_lead D_lead
  have O_is_told_by := ok_toldBy (P := P) (w := w) (mg := mg) (base := base) F_is_told_by G 
  have O_some_have_none := ok_noneOf (P := P) (w := w) (mg := mg) (base := base) F_some_have_none G O_share_of D_share_of
  have O_chance_by := ok_chanceBy (P := P) (w := w) (mg := mg) (base := base) F_chance_by G O_share_of D_share_of
  have O_is_less := ok_isLess (P := P) (w := w) (mg := mg) (base := base) F_is_less  
  have O_least_chance := ok_least (P := P) (w := w) (mg := mg) (base := base) F_least_chance G O_chance_by D_chance_by O_is_less D_is_less
  have O_greatest_chance := ok_greatest (P := P) (w := w) (mg := mg) (base := base) F_greatest_chance G O_chance_by D_chance_by O_is_less D_is_less
  have O_greatest_common_divisor := ok_gcd (P := P) (w := w) (mg := mg) (base := base) F_greatest_common_divisor  
  have O_as_fraction := ok_fraction (P := P) (w := w) (mg := mg) (base := base) F_as_fraction  O_greatest_common_divisor D_greatest_common_divisor
  have O_set_of := ok_setOf (P := P) (w := w) (mg := mg) (base := base) F_set_of  
  have O_wrong_sets := ok_wrongSets (P := P) (w := w) (mg := mg) (base := base) F_wrong_sets G O_shares_in_order D_shares_in_order O_disagreed D_disagreed O_set_of D_set_of
  have O_some_fit := ok_someFit (P := P) (w := w) (mg := mg) (base := base) F_some_fit  
  have O_some_agree := ok_someAgree (P := P) (w := w) (mg := mg) (base := base) F_some_agree G 
  have O_one_left_out := ok_leftOut (P := P) (w := w) (mg := mg) (base := base) F_one_left_out G 
  have O_is_clash := ok_isClash (P := P) (w := w) (mg := mg) (base := base) F_is_clash G O_some_agree D_some_agree O_one_left_out D_one_left_out
  have O_all_clashes := ok_allClashes (P := P) (w := w) (mg := mg) (base := base) F_all_clashes G O_is_clash D_is_clash
  have O_all_spare := ok_allSpare (P := P) (w := w) (mg := mg) (base := base) F_all_spare G 
  have O_pairs_apart := ok_pairs (P := P) (w := w) (mg := mg) (base := base) F_pairs_apart G 
  have O_is_told_of := ok_toldOf (P := P) (w := w) (mg := mg) (base := base) F_is_told_of G 
  have O_is_whole := ok_whole (P := P) (w := w) (mg := mg) (base := base) F_is_whole G O_pairs_apart D_pairs_apart O_is_told_of D_is_told_of
  have O_is_alike := ok_alikeP (P := P) (w := w) (mg := mg) (base := base) F_is_alike G 
  have O_alike_pairs := ok_alikes (P := P) (w := w) (mg := mg) (base := base) F_alike_pairs G O_pairs_apart D_pairs_apart O_is_alike D_is_alike
  have O_is_beyond := ok_beyondP (P := P) (w := w) (mg := mg) (base := base) F_is_beyond G O_told_by_all D_told_by_all
  have O_beyond_pairs := ok_beyonds (P := P) (w := w) (mg := mg) (base := base) F_beyond_pairs G O_pairs_apart D_pairs_apart O_is_beyond D_is_beyond
  have O_m___init__ := ok_init (P := P) (w := w) (mg := mg) (base := base) F_m___init__ T 
  have O_m_has_begun := ok_begun (P := P) (w := w) (mg := mg) (base := base) F_m_has_begun T 
  have O_m_is_set := ok_isSet (P := P) (w := w) (mg := mg) (base := base) F_m_is_set T 
  have O_m_begin := ok_begin (P := P) (w := w) (mg := mg) (base := base) F_m_begin T S 
  have O_m_tell := ok_tell (P := P) (w := w) (mg := mg) (base := base) F_m_tell T S O_m_is_set M_is_set B_is_set
  have O_m_untell := ok_untell (P := P) (w := w) (mg := mg) (base := base) F_m_untell T S 
  have O_m_fitting := ok_mfitting (P := P) (w := w) (mg := mg) (base := base) F_m_fitting T O_fitting_shares D_fitting_shares
  have O_m_can := ok_can (P := P) (w := w) (mg := mg) (base := base) F_m_can T S O_m_fitting M_fitting B_fitting
  have O_m_ways := ok_ways (P := P) (w := w) (mg := mg) (base := base) F_m_ways T S O_m_fitting M_fitting B_fitting
  have O_m_plainest := ok_plainest (P := P) (w := w) (mg := mg) (base := base) F_m_plainest T S O_m_fitting M_fitting B_fitting
  have O_m_fits := ok_fits (P := P) (w := w) (mg := mg) (base := base) F_m_fits T S O_is_shares D_is_shares O_fit D_fit
  have O_m_wrong := ok_wrong (P := P) (w := w) (mg := mg) (base := base) F_m_wrong T S O_is_shares D_is_shares O_disagreed D_disagreed
  have O_m_all_shares := ok_all (P := P) (w := w) (mg := mg) (base := base) F_m_all_shares T S O_m_is_set M_is_set B_is_set O_m_fitting M_fitting B_fitting O_told_by_all D_told_by_all
  have O_m_table := ok_table (P := P) (w := w) (mg := mg) (base := base) F_m_table T O_table_by_rules D_table_by_rules
  have O_m_rules := ok_mrules (P := P) (w := w) (mg := mg) (base := base) F_m_rules T S O_m_is_set M_is_set B_is_set O_m_table M_table B_table
  have O_m_broken := ok_mbroken (P := P) (w := w) (mg := mg) (base := base) F_m_broken T S O_is_broken D_is_broken O_m_table M_table B_table
  have O_m_look := ok_look (P := P) (w := w) (mg := mg) (base := base) F_m_look T S 
  have O_m_state := ok_state (P := P) (w := w) (mg := mg) (base := base) F_m_state T S 
  have O_m_given := ok_given (P := P) (w := w) (mg := mg) (base := base) F_m_given T S O_m_is_set M_is_set B_is_set O_m_fitting M_fitting B_fitting O_some_have_none D_some_have_none O_told_by_all D_told_by_all
  have O_m_chance := ok_chance (P := P) (w := w) (mg := mg) (base := base) F_m_chance T S O_m_is_set M_is_set B_is_set O_m_fitting M_fitting B_fitting O_as_fraction D_as_fraction O_least_chance D_least_chance O_greatest_chance D_greatest_chance
  have O_m_spare := ok_spare (P := P) (w := w) (mg := mg) (base := base) F_m_spare T S O_wrong_sets D_wrong_sets O_some_fit D_some_fit O_all_spare D_all_spare
  have O_m_clashes := ok_clashes (P := P) (w := w) (mg := mg) (base := base) F_m_clashes T S O_wrong_sets D_wrong_sets O_some_fit D_some_fit O_all_clashes D_all_clashes
  have O_m_whole := ok_mwhole (P := P) (w := w) (mg := mg) (base := base) F_m_whole T S O_m_table M_table B_table O_is_whole D_is_whole
  have O_m_alike := ok_malike (P := P) (w := w) (mg := mg) (base := base) F_m_alike T S O_m_table M_table B_table O_alike_pairs D_alike_pairs
  have O_m_beyond := ok_mbeyond (P := P) (w := w) (mg := mg) (base := base) F_m_beyond T S O_m_fitting M_fitting B_fitting O_m_table M_table B_table O_beyond_pairs D_beyond_pairs
  have O_m_settled := ok_settled (P := P) (w := w) (mg := mg) (base := base) F_m_settled T S O_is_told_by D_is_told_by O_table_by_rules D_table_by_rules
  have O_end := ok_end (P := P) (w := w) (mg := mg) (base := base) F_end_of_call U (PySem.W.mg_of X G0 g_hm) hm2
  have O_answer_about_told := ok_about (P := P) (w := w) (mg := mg) (base := base) F_answer_about_told T Dd O_m_begin M_begin B_begin O_m_tell M_tell B_tell O_m_untell M_untell B_untell O_m_look M_look B_look O_m_state M_state B_state
  have O_answer_about_fitting := ok_aboutFit (P := P) (w := w) (mg := mg) (base := base) F_answer_about_fitting T Dd O_m_can M_can B_can O_m_ways M_ways B_ways O_m_plainest M_plainest B_plainest O_m_fits M_fits B_fits O_m_wrong M_wrong B_wrong
  have O_answer_by_shares := ok_byShares (P := P) (w := w) (mg := mg) (base := base) F_answer_by_shares T Dd O_m_all_shares M_all_shares B_all_shares O_m_given M_given B_given O_m_chance M_chance B_chance O_m_spare M_spare B_spare O_m_clashes M_clashes B_clashes
  have O_answer_by_rules := ok_byRules (P := P) (w := w) (mg := mg) (base := base) F_answer_by_rules T Dd O_m_rules M_rules B_rules O_m_broken M_broken B_broken O_m_whole M_whole B_whole O_m_alike M_alike B_alike O_m_beyond M_beyond B_beyond O_m_settled M_settled B_settled
  have O_answer_to := ok_answerTo (P := P) (w := w) (mg := mg) (base := base) F_answer_to T Dd O_m_has_begun M_has_begun B_has_begun O_answer_about_told D_answer_about_told O_answer_about_fitting D_answer_about_fitting O_answer_by_shares D_answer_by_shares O_answer_by_rules D_answer_by_rules
  exact ok_answers F_answers T U mgS ⟨mk, a_m___init__, i_m___init__, kc⟩ O_m___init__ B___init__ O_end D_end_of_call O_answer_to D_answer_to
end Lk
end
section
namespace PySem.W.Fast
def tw2497059616954346437 := 0
def tw5213977726775632605 := 0
def tw5688981147836317110 := 0
def tw11565132441136031490 := 0
def tw15976132129500474782 := 0
def tw18360803125464814828 := 0
def tw17987059296190730761 := 0
def tw730757353042331333 := 0
def tw1082896216173622940 := 0
def tw1383300809104114868 := 0
def tw15371541055839824253 := 0
def tw6417372409445778167 := 0
def tw4243488035152146179 := 0
def tw18097192553195283410 := 0
def tw13489515463694927747 := 0
def tw1330188035630442501 := 0
def tw7698682968578361525 := 0
def tw10757638855937034897 := 0
def tw14612400764322977325 := 0
def tw3221719982500595191 := 0
def tw17733656859244638211 := 0
def tw5766174131149733155 := 0
def tw17467901484421196969 := 0
def tw4552872709338017665 := 0
def tw12772902047373119640 := 0
def tw16906316466533299577 := 0
def tw8864654578843828174 := 0
def tw8979245541154202192 := 0
def tw11303554793582512170 := 0
def tw4258897004364567434 := 0
def tw13995165704290671679 := 0
def tw15245847075435258905 := 0
def tw13755931412777999811 := 0
def tw18142117355861604526 := 0
def tw14167664692638679868 := 0
def tw3043104211862712370 := 0
def tw8959836690887849557 := 0
def tw1724055523355150824 := 0
def tw10395846131664809997 := 0
def tw12771944290363148712 := 0
def tw552109626510814133 := 0
def tw7338552122672039309 := 0
def tw3720490988405869684 := 0
def tw2948404811176172873 := 0
def tw4427498856214394004 := 0
def tw13190480526641775231 := 0
def tw14755094304571313598 := 0
def tw9737899626675791264 := 0
def tw16182810311044910363 := 0
def tw10372727619522538837 := 0
def tw9266103872774602703 := 0
def tw3031670665200839561 := 0
def tw10506156598380245431 := 0
def tw12414996556075415921 := 0
def tw7939453700633201850 := 0
def tw14791120470078567932 := 0
def tw890892166526505562 := 0
def tw6329749172963635070 := 0
def tw8945971891126736313 := 0
def tw2315314705815132823 := 0
def tw17807978916111827217 := 0
def tw197141953627479736 := 0
def tw1567516058281939075 := 0
def tw16935469744851884194 := 0
def tw5431909115834426432 := 0
def tw2499975229621445297 := 0
def tw3185024138574349124 := 0
def tw16561903897475284464 := 0
def tw6004112078828582104 := 0
def tw11335814889696905087 := 0
def tw1322000093772202953 := 0
def tw8764742724181631029 := 0
def tw6154527696088468831 := 0
def tw14188544979186531738 := 0
def tw10985306198484068709 := 0
def tw13895755252057331499 := 0
def tw17883032708350485463 := 0
def tw1468191274305671621 := 0
def tw8340820126745703876 := 0
def tw17309771028684843357 := 0
def tw1016316682124028565 := 0
def tw15797501683410145583 := 0
def tw664577649478898680 := 0
def tw627167160425485699 := 0
def tw15439249647526774368 := 0
def tw8584039726284808541 := 0
def tw17246628686739548361 := 0
def tw1023156144819047028 := 0
def tw15154213235307461429 := 0
def tw4951868981194035335 := 0
def tw7093742781858882121 := 0
def tw17577020589398213524 := 0
def tw16931726663372919507 := 0
def tw7012269896572832679 := 0
def tw6533532286423106577 := 0
def tw5687493305187634964 := 0
def tw16630555053606106692 := 0
def tw5468756405544703464 := 0
def tw13330612884346409126 := 0
def tw10743996677754707359 := 0
def tw17754231993289171534 := 0
def tw17676803998766848880 := 0
def tw10942331697931605110 := 0
def tw8317859498032138553 := 0
def tw10768706609814134882 := 0
def tw8645237364087158770 := 0
def tw1456074168163579851 := 0
def tw13895479024689397206 := 0
def tw5771770286080512374 := 0
def tw8635785840625776513 := 0
def tw3925607992473577812 := 0
def tw3875630284586237550 := 0
def tw12258557534857429920 := 0
def tw17374539748542545853 := 0
def tw17695724173470550178 := 0
def tw13565046900401718938 := 0
def tw17113332836487467600 := 0
def tw6923049868189310894 := 0
def tw9245861227207224424 := 0
def tw11431226674526014297 := 0
def tw17871559944570779142 := 0
def tw1267750891067758498 := 0
def tw2273204401117649948 := 0
def tw12004290752944433192 := 0
def tw17209503510204814589 := 0
def tw8720924106201730236 := 0
def tw4735387451807008895 := 0
def tw947963202588422130 := 0
def tw14017219693275620127 := 0
def tw212495026952633093 := 0
def tw6266786334180118483 := 0
def tw5064364488071324796 := 0
def tw4975874057035775881 := 0
def tw4235790896327804752 := 0
def tw17624531616649045291 := 0
def tw15476229358343477804 := 0
def tw8792322861255822818 := 0
def tw9792559863205613003 := 0
def tw16818791911706501031 := 0
def tw1048790654456721530 := 0
def tw5050987656362213387 := 0
def tw17244597524756942614 := 0
def tw2766921495370699363 := 0
def tw16087475617866340315 := 0
def tw15420711967768880734 := 0
def tw9379046450247518852 := 0
def tw14754045283285800643 := 0
def tw353328315616378803 := 0
def tw13326302618130909804 := 0
def tw17039009761351219463 := 0
def tw11508858999915403227 := 0
def tw12466151649146903884 := 0
def tw2083456559567348858 := 0
def tw2314430633907244012 := 0
def tw15081889612303088328 := 0
def tw15621427198558880601 := 0
def tw18267166927150010165 := 0
def tw15177463970938870567 := 0
def tw12571430631558329551 := 0
def tw6906039829996107412 := 0
def tw2531458051681636246 := 0
def tw18285789722319244784 := 0
def tw9854100747075821208 := 0
def tw5641439835389250238 := 0
def tw11700045270457228280 := 0
def tw10236646701968318597 := 0
def tw4861335037774770562 := 0
def tw16441107609726110942 := 0
def tw8553302211718066978 := 0
def tw17874858171736271123 := 0
def tw16023261441061142946 := 0
def tw8716822071995377895 := 0
def tw2018864612463837388 := 0
def tw14702445147860838739 := 0
def tw7329641098581075428 := 0
def tw13263148365752416646 := 0
def tw3175376348044771859 := 0
def tw6914843378396560938 := 0
def tw4631473653567046965 := 0
def tw17363515553977499319 := 0
def tw4538163879407152260 := 0
def tw9417454249109859714 := 0
def tw13671887865642275076 := 0
def tw1079593631150011627 := 0
def tw3939420399944047440 := 0
def tw7461139643064956347 := 0
def tw18309174150246085562 := 0
def tw4048593798988912669 := 0
def tw12582175816372701430 := 0
def tw13921582970609174268 := 0
def tw15955923657341007125 := 0
def tw87225800146667790 := 0
def tw13330648406853698374 := 0
def tw17865700238878592573 := 0
def tw15959357680598872984 := 0
def tw4890425305262888619 := 0
def tw6714369019344723893 := 0
def tw13587323768924612232 := 0
def tw11480544617345709014 := 0
def tw14322769637754571707 := 0
def tw12859206495711309375 := 0
def tw14981726379537769009 := 0
def tw11575394945209462979 := 0
def tw14543137545374032033 := 0
def tw9603205765329743606 := 0
def tw11958033510790257965 := 0
def tw11428288334794001987 := 0
def tw16378553349045995560 := 0
def tw2829108216278752525 := 0
def tw3023755990507904264 := 0
def tw10940941822964555291 := 0
def tw18038622035549838871 := 0
def tw5937068073580674333 := 0
def tw15475529473392761533 := 0
def tw13406720925462314903 := 0
def tw3790586280458289870 := 0
def tw8407057195039551669 := 0
def tw13434418699262291135 := 0
def tw5668978673236201493 := 0
def tw10745189948653641320 := 0
def tw16684638533940085550 := 0
def tw4306558913611835401 := 0
def tw3050965289578274951 := 0
def tw1433321720193858285 := 0
def tw5118297240489620685 := 0
def tw7709584848338318197 := 0
def tw16657300803257531000 := 0
def tw10644132255695394703 := 0
def tw246523887225238117 := 0
def tw4458679401884705457 := 0
def tw10181908855861935695 := 0
def tw15375858233246580507 := 0
def tw3450654676603503580 := 0
def tw8586692576080303185 := 0
def tw13131498479652183707 := 0
def tw331419327516823993 := 0
def tw15888673591010624718 := 0
def tw13834650247971156832 := 0
def tw4857742983045938717 := 0
def tw15455126262999579968 := 0
def tw18309388861337460664 := 0
def tw13530343473299987108 := 0
def tw8256202233415810609 := 0
def tw779568090338437623 := 0
def tw8281065468977483020 := 0
def tw1238407405499501648 := 0
def tw8286780812873484590 := 0
def tw7596290006704767299 := 0
def tw5797000320943996621 := 0
def tw6350949157771216654 := 0
def tw5537653071525327166 := 0
def tw9591199935634250526 := 0
def tw9498643776333475550 := 0
def tw1706806644641421069 := 0
def tw10301598663980109341 := 0
def tw12430512243825295904 := 0
def tw14193745769718357796 := 0
def tw12597988663853836804 := 0
def tw12127180987092758608 := 0
def tw4694374670435749298 := 0
def tw466248659629366891 := 0
def tw7590420139298798550 := 0
def tw18404874056215451333 := 0
def tw857502505488645312 := 0
def tw774423240444412886 := 0
def tw8316767896479642557 := 0
def tw12187494022162271948 := 0
def tw329131925615126113 := 0
def tw2804710517168923077 := 0
def tw3116680343959344788 := 0
def tw7538408006935513102 := 0
def tw8761730145856327108 := 0
def tw4522534069075551278 := 0
def tw9407698902432666759 := 0
def tw7392340428609601771 := 0
def tw11072178619644956469 := 0
def tw4934439850998330293 := 0
def tw3363965458127842565 := 0
def tw878918666460721812 := 0
def tw12904152264473002278 := 0
def tw15337552927936246785 := 0
def tw16991500799270341626 := 0
def tw1792981511066856895 := 0
def tw15547284596519823759 := 0
def tw2401114887090485982 := 0
def tw11523770551361003927 := 0
def tw6596383095635563852 := 0
def tw8932181510983274130 := 0
def tw6536422989576214511 := 0
def tw18018341753359250194 := 0
def tw6995087766677760565 := 0
def tw8376053124727208557 := 0
def tw7140435852090010032 := 0
def tw13588719270978264627 := 0
def tw16156265094155849025 := 0
def tw13281091872067413006 := 0
def tw9200237119878609314 := 0
def tw13170277362834030637 := 0
def tw7107515175475961844 := 0
def tw12502289187955732330 := 0
def tw596582113424052590 := 0
def tw3709251107833284300 := 0
def tw4252443871508600804 := 0
def tw1204574732144318485 := 0
def tw2587103724506077619 := 0
def tw6971411433832951562 := 0
def tw17545088045720154170 := 0
def tw8841307451087461673 := 0
def tw8694929833705497889 := 0
def tw10412238156432817813 := 0
def tw12705511513700699958 := 0
def tw10596672976690561290 := 0
def tw18145819230890307634 := 0
def tw11999374952163175572 := 0
def tw1423872937156475641 := 0
def tw5934992481548603971 := 0
def tw859272438580759619 := 0
def tw10839448972984340018 := 0
def tw16802804361786568652 := 0
def tw3660759057866891883 := 0
def tw3490077467685500995 := 0
def tw12864623916846850393 := 0
def tw17821855843517322196 := 0
def tw10782266123271840928 := 0
def tw9136082862721057406 := 0
def tw4065169157404351049 := 0
def tw3117243765639266979 := 0
def tw3703490430728755671 := 0
def tw15996345542869458695 := 0
def tw9485458135756303605 := 0
def tw5125528595185762948 := 0
def tw16807724369565791425 := 0
def tw6339082472874614313 := 0
def tw15952982806021327853 := 0
def tw14958067600996711459 := 0
def tw18287657481966075563 := 0
def tw9581919632358004726 := 0
def tw9496603652957376174 := 0
def tw3511179969301413460 := 0
def tw4897432405148386846 := 0
def tw6142566103339436877 := 0
def tw5993139837299648134 := 0
def tw331337891183309184 := 0
def tw7787613110818808362 := 0
def tw6605766365870740691 := 0
def tw10068551456619299534 := 0
def tw11465192610375982466 := 0
def tw14167157159289171383 := 0
def tw6627465952352052689 := 0
def tw16248558402254479854 := 0
def tw6281086909451889651 := 0
def tw8739184213564663203 := 0
def tw7871415737301651429 := 0
def tw14441542987330207524 := 0
def tw4641035929505219244 := 0
def tw10409450379626150193 := 0
def tw16767355666356479081 := 0
def tw14171725621438426335 := 0
def tw7355101095781556976 := 0
def tw12740671617507133885 := 0
def tw11215038899311223187 := 0
def tw12829288470868086928 := 0
def tw13720658169551534746 := 0
def tw684317567671368038 := 0
def tw12704691804552773076 := 0
def tw419417117954188467 := 0
def tw3591634332530278206 := 0
def tw1816956487815728636 := 0
def tw7206561585611466613 := 0
def tw5187382495956956886 := 0
def tw15843770544833945085 := 0
def tw6929492684083747496 := 0
def tw12015609117919532945 := 0
def tw17428656171569351853 := 0
def tw14630987344309578144 := 0
def tw5365132258221925854 := 0
def tw7118212396330943687 := 0
def tw11075635353415037596 := 0
def tw17978684711631277902 := 0
def tw7017992287317729035 := 0
def tw3675860571781412631 := 0
def tw9475795646136556247 := 0
def tw11283563046348695535 := 0
def tw17271348820334931093 := 0
def tw4728756430919537825 := 0
def tw524531849168508360 := 0
def tw17699765976290966030 := 0
def tw6202642187657493054 := 0
def tw10189700138784752674 := 0
def tw11950813045793205040 := 0
def tw457354856097173401 := 0
def tw10466827949713281505 := 0
def tw10702534892324015671 := 0
def tw13425547223689931538 := 0
def tw7271854213699729253 := 0
def tw17513974152553075687 := 0
def tw1859734880291612826 := 0
def tw17586836000144912933 := 0
def tw8313326169084450307 := 0
def tw5072885233752716472 := 0
def tw4292775872013170630 := 0
def tw6006104508057995380 := 0
def tw14606114404857744817 := 0
def tw8905145444241881467 := 0
def tw5171366333455230148 := 0
def tw2652014928625890318 := 0
def tw10740401629926924286 := 0
def tw4249899249747774468 := 0
def tw18159146345746764571 := 0
def tw7222798251089601772 := 0
def tw6645819119117970032 := 0
def tw5442422071532440747 := 0
def tw556792962737848666 := 0
def tw3646937473953158522 := 0
def tw10025459880989625534 := 0
def tw17974406120750979689 := 0
def tw6907172314320381008 := 0
def tw1844382102245567457 := 0
def tw12903660863286437050 := 0
def tw3235286350122175217 := 0
def tw15642946681340991021 := 0
def tw14084455928523949608 := 0
def tw8820151835061206848 := 0
def tw4210661499382184084 := 0
def tw15534599898024261225 := 0
def tw4265815083113845477 := 0
def tw16406802421208776055 := 0
def tw289834511300950831 := 0
def tw13252799859859821097 := 0
def tw13968578637518295939 := 0
def tw4460794740929271105 := 0
def tw1095861323319599716 := 0
def tw13712216209976628616 := 0
def tw10928463905473670692 := 0
def tw1608203589349532307 := 0
def tw18420347474832343066 := 0
def tw13454345763976593812 := 0
def tw6930371567677297837 := 0
def tw14458822360105244077 := 0
def tw4138771860946068873 := 0
def tw5012059947944150944 := 0
def tw17274626550152723988 := 0
def tw9643892570981278516 := 0
def tw8515693871661137064 := 0
def tw7933392331214804700 := 0
def tw15642203833384785067 := 0
def tw800240420026772291 := 0
def tw9894853903203908313 := 0
def tw14544920461719630178 := 0
def tw1839018163937682611 := 0
def tw13882555108525198859 := 0
def tw17991195985231159537 := 0
def tw8059123933781926370 := 0
def tw11808018832711377298 := 0
def tw3355123384365980144 := 0
def tw12288049062926937985 := 0
def tw3671845861779190370 := 0
def tw10748089814940847745 := 0
def tw11776807096610612993 := 0
def tw17078135505165736403 := 0
def tw6042995792077925396 := 0
def tw653626480775308717 := 0
def tw2329390173850775622 := 0
def tw6904302028302135283 := 0
def tw7673163669094285171 := 0
def tw13145575240310791897 := 0
def tw12706171712717281551 := 0
def tw11629655614058542726 := 0
def tw15016153799259854894 := 0
def tw3241659795515809872 := 0
def tw11923143086385189782 := 0
def tw7194427103136356519 := 0
def tw3680603357586919072 := 0
def tw5460957892876814894 := 0
def tw13559738682071387191 := 0
def tw13172727923360893470 := 0
def tw244565674024675458 := 0
def tw5948685166881761760 := 0
def tw11092846819756304777 := 0
def tw1300011097841855476 := 0
def tw5884347683020591913 := 0
def tw1261604519248362408 := 0
def tw17517897721803237069 := 0
def tw17844948253756929364 := 0
def tw11025332141608729756 := 0
def tw10830489740562036131 := 0
def tw5420193022204393232 := 0
def tw3516211896394765131 := 0
def tw11775904522317329495 := 0
def tw4613892369230121883 := 0
def tw12813079626412290630 := 0
def tw2466459189168502969 := 0
def tw7247597616244546907 := 0
def tw15665853610426175347 := 0
def tw16693536437242074558 := 0
def tw13596564428144871611 := 0
def tw11298112337324167070 := 0
def tw1877936156986420604 := 0
def tw7302280972333937277 := 0
def tw7723814416155556566 := 0
def tw7868844211968024860 := 0
def tw1090012699270888658 := 0
def tw15887510527866751538 := 0
def tw1642944656587002363 := 0
def tw13471455396289115864 := 0
def tw54247416103242504 := 0
def tw4228158168596133299 := 0
def tw13796852933340171172 := 0
def tw18247127120471702733 := 0
def tw14827823668976763972 := 0
def tw6431602904165555165 := 0
def tw8426944601889034944 := 0
def tw16909618728575833792 := 0
def tw14691003086295756382 := 0
def tw16838281316682701441 := 0
def tw11645986283605589461 := 0
def tw9573651602007043615 := 0
def tw902022342946022323 := 0
def tw11116442989497867970 := 0
def tw3802584233129562760 := 0
def tw6140593731589001976 := 0
def tw18042045130676583156 := 0
def tw17478298741263791579 := 0
def tw2306427086694778972 := 0
def tw17927388524446745686 := 0
def tw14218868210709573171 := 0
def tw4364624630895418002 := 0
def tw1332668002115982975 := 0
def tw6201119180923589682 := 0
def tw4759842243198624988 := 0
def tw4075747061406688615 := 0
def tw4625736199792086647 := 0
def tw14758237972108930338 := 0
def tw3680552980849247912 := 0
def tw8531109522726349450 := 0
def tw8572992075693953456 := 0
def tw633673257249565146 := 0
def tw12687197502410804365 := 0
def tw9227012178615788269 := 0
def tw3644211489773756690 := 0
def tw464571350043687023 := 0
def tw2270090965762375760 := 0
def tw12372122647794611263 := 0
def tw14008807168900211164 := 0
def tw9443879779386047891 := 0
def tw48767286863897344 := 0
def tw8463527268799941122 := 0
def tw629264578684456832 := 0
def tw11160552750341662527 := 0
def tw9757140056209357730 := 0
def tw12764751367329516079 := 0
def tw16525181101297753414 := 0
def tw1767598180711827606 := 0
def tw15336195920644243487 := 0
def tw9179097547778470954 := 0
def tw1430473158560114970 := 0
def tw9780673231007876512 := 0
def tw3834840366450078665 := 0
def tw10521461270707578703 := 0
def tw15374801369638189907 := 0
def tw14041623179725528641 := 0
def tw10031812546231919328 := 0
def tw14688937395173368477 := 0
def tw12995806925532114338 := 0
def tw13261958313619302208 := 0
def tw13483143965544250475 := 0
def tw10147952068067459671 := 0
def tw3116484125902322055 := 0
def tw8380266113577701386 := 0
def tw800896974389629441 := 0
def tw6883963785267230380 := 0
def tw4049048624989986485 := 0
def tw636652358888657805 := 0
def tw340023335972283486 := 0
def tw10190868136924834265 := 0
def tw17142887530245250449 := 0
def tw28898439278107949 := 0
def tw8046260434571915564 := 0
def tw10146444547430998511 := 0
def tw16249132037623166236 := 0
def tw15080282252506260352 := 0
def tw8852960993719911062 := 0
def tw2869058947232720663 := 0
def tw14295694656379915340 := 0
def tw15761338894697517231 := 0
def tw18239667452204320656 := 0
def tw15693433717326913533 := 0
def tw4550152860710276289 := 0
def tw17712993203106922557 := 0
def tw11528993068930869445 := 0
def tw571515658111846220 := 0
def tw4463063355777309330 := 0
def tw6730808817947539298 := 0
def tw2403515397017614610 := 0
def tw9122359264988472280 := 0
def tw11300639387451538394 := 0
def tw14005349496873024694 := 0
def tw16228235448366086883 := 0
def tw10385590552805693050 := 0
def tw13890530924679378704 := 0
def tw7615598870946246290 := 0
def tw1933056089875596032 := 0
def tw12529034498848275216 := 0
def tw17207957343534015793 := 0
def tw7533147332243088560 := 0
def tw6659040800310527795 := 0
def tw8422025161764617077 := 0
def tw18332459912156999747 := 0
def tw8452034202324315151 := 0
def tw10773906573469978333 := 0
def tw4852682359425834082 := 0
def tw11766285542781349159 := 0
def tw3896333811707183834 := 0
def tw6719525298238664810 := 0
def tw14917654265210270469 := 0
def tw17011192175850647396 := 0
def tw7593248826921914887 := 0
def tw11562535961200116348 := 0
def tw9599386880789855384 := 0
def tw14820965159331238485 := 0
def tw18086208882971212663 := 0
def tw14284658708904138272 := 0
def tw14380527369261833628 := 0
def tw7797025506442188436 := 0
def tw2630010572783342505 := 0
def tw7686837579972393033 := 0
def tw15438892420043104008 := 0
def tw10279719815554863772 := 0
def tw9154260271280404242 := 0
def tw13841823996306737686 := 0
def tw12421500273325223513 := 0
def tw17159324004747033817 := 0
end PySem.W.Fast
end
section
set_option Elab.async false
set_option linter.all false
set_option maxRecDepth 100000
set_option maxHeartbeats 4000000
open PySem PySem.W PyProof.Rows
set_option maxRecDepth 100000 in
set_option maxHeartbeats 0 in
theorem PySem.Challenge.cw_likeliersets_s01_answers_holds : PySem.Challenge.rw_likeliersets_s01_answers.Holds := by
  w_on; k_headS; (case hw => exact ⟨[.list []], by decide +kernel, by decide +kernel⟩)
  k_fillS
  refine L2.walk_specK (r := PySem.Challenge.rw_likeliersets_s01_answers) (k := 11) (CX := L2.CX0) (ps := ["calls"]) (sp := Lk.spAns) (by decide +kernel) rfl rfl ⟨rfl, by decide, by decide⟩ (fun w h Y => PySem.W.kIn_of Y) ?F ?S (fun _ _ _ _ z => z)
  case F =>
    intro w mg fa h Y KX G hmg
    refine' Lk.all_mk KX G hmg ?aC ?a_row_of_parts ?l_row_of_parts ?c_row_of_parts ?k_row_of_parts ?a_raise_to ?l_raise_to ?c_raise_to ?k_raise_to ?a_table_at_first ?l_table_at_first ?c_table_at_first ?k_table_at_first ?a_without ?l_without ?c_without ?k_without ?a_highest_apart ?l_highest_apart ?c_highest_apart ?k_highest_apart ?a_row_with_common ?l_row_with_common ?c_row_with_common ?k_row_with_common ?a_same_with_any_put_to_both ?l_same_with_any_put_to_both ?c_same_with_any_put_to_both ?k_same_with_any_put_to_both ?a_row_through ?l_row_through ?c_row_through ?k_row_through ?a_from_one_to_the_next ?l_from_one_to_the_next ?c_from_one_to_the_next ?k_from_one_to_the_next ?a_table_by_rules ?l_table_by_rules ?c_table_by_rules ?k_table_by_rules ?a_is_broken ?l_is_broken ?c_is_broken ?k_is_broken ?a_is_told_by ?l_is_told_by ?c_is_told_by ?k_is_told_by ?a_is_shares ?l_is_shares ?c_is_shares ?k_is_shares ?a_share_of ?l_share_of ?c_share_of ?k_share_of ?a_lead ?l_lead ?c_lead ?k_lead ?a_agree ?l_agree ?c_agree ?k_agree ?a_disagreed ?l_disagreed ?c_disagreed ?k_disagreed ?a_fit ?l_fit ?c_fit ?k_fit ?a_one_world_more ?l_one_world_more ?c_one_world_more ?k_one_world_more ?a_shares_together ?l_shares_together ?c_shares_together ?k_shares_together ?a_shares_in_order ?l_shares_in_order ?c_shares_in_order ?k_shares_in_order ?a_some_have_none ?l_some_have_none ?c_some_have_none ?k_some_have_none ?a_fitting_shares ?l_fitting_shares ?c_fitting_shares ?k_fitting_shares ?a_told_by_all ?l_told_by_all ?c_told_by_all ?k_told_by_all ?a_chance_by ?l_chance_by ?c_chance_by ?k_chance_by ?a_is_less ?l_is_less ?c_is_less ?k_is_less ?a_least_chance ?l_least_chance ?c_least_chance ?k_least_chance ?a_greatest_chance ?l_greatest_chance ?c_greatest_chance ?k_greatest_chance ?a_greatest_common_divisor ?l_greatest_common_divisor ?c_greatest_common_divisor ?k_greatest_common_divisor ?a_as_fraction ?l_as_fraction ?c_as_fraction ?k_as_fraction ?a_set_of ?l_set_of ?c_set_of ?k_set_of ?a_wrong_sets ?l_wrong_sets ?c_wrong_sets ?k_wrong_sets ?a_some_fit ?l_some_fit ?c_some_fit ?k_some_fit ?a_some_agree ?l_some_agree ?c_some_agree ?k_some_agree ?a_one_left_out ?l_one_left_out ?c_one_left_out ?k_one_left_out ?a_is_clash ?l_is_clash ?c_is_clash ?k_is_clash ?a_all_clashes ?l_all_clashes ?c_all_clashes ?k_all_clashes ?a_all_spare ?l_all_spare ?c_all_spare ?k_all_spare ?a_pairs_apart ?l_pairs_apart ?c_pairs_apart ?k_pairs_apart ?a_is_told_of ?l_is_told_of ?c_is_told_of ?k_is_told_of ?a_is_whole ?l_is_whole ?c_is_whole ?k_is_whole ?a_is_alike ?l_is_alike ?c_is_alike ?k_is_alike ?a_alike_pairs ?l_alike_pairs ?c_alike_pairs ?k_alike_pairs ?a_is_beyond ?l_is_beyond ?c_is_beyond ?k_is_beyond ?a_beyond_pairs ?l_beyond_pairs ?c_beyond_pairs ?k_beyond_pairs ?a_end_of_call ?l_end_of_call ?c_end_of_call ?k_end_of_call ?a_answer_about_told ?l_answer_about_told ?c_answer_about_told ?k_answer_about_told ?a_answer_about_fitting ?l_answer_about_fitting ?c_answer_about_fitting ?k_answer_about_fitting ?a_answer_by_shares ?l_answer_by_shares ?c_answer_by_shares ?k_answer_by_shares ?a_answer_by_rules ?l_answer_by_rules ?c_answer_by_rules ?k_answer_by_rules ?a_answer_to ?l_answer_to ?c_answer_to ?k_answer_to ?a_answers ?l_answers ?c_answers ?k_answers ?a_m___init__ ?i_m___init__ ?l_m___init__ ?c_m___init__ ?k_m___init__ ?a_m_has_begun ?i_m_has_begun ?l_m_has_begun ?c_m_has_begun ?k_m_has_begun ?a_m_is_set ?i_m_is_set ?l_m_is_set ?c_m_is_set ?k_m_is_set ?a_m_begin ?i_m_begin ?l_m_begin ?c_m_begin ?k_m_begin ?a_m_tell ?i_m_tell ?l_m_tell ?c_m_tell ?k_m_tell ?a_m_untell ?i_m_untell ?l_m_untell ?c_m_untell ?k_m_untell ?a_m_look ?i_m_look ?l_m_look ?c_m_look ?k_m_look ?a_m_state ?i_m_state ?l_m_state ?c_m_state ?k_m_state ?a_m_fitting ?i_m_fitting ?l_m_fitting ?c_m_fitting ?k_m_fitting ?a_m_can ?i_m_can ?l_m_can ?c_m_can ?k_m_can ?a_m_ways ?i_m_ways ?l_m_ways ?c_m_ways ?k_m_ways ?a_m_plainest ?i_m_plainest ?l_m_plainest ?c_m_plainest ?k_m_plainest ?a_m_fits ?i_m_fits ?l_m_fits ?c_m_fits ?k_m_fits ?a_m_wrong ?i_m_wrong ?l_m_wrong ?c_m_wrong ?k_m_wrong ?a_m_all_shares ?i_m_all_shares ?l_m_all_shares ?c_m_all_shares ?k_m_all_shares ?a_m_given ?i_m_given ?l_m_given ?c_m_given ?k_m_given ?a_m_chance ?i_m_chance ?l_m_chance ?c_m_chance ?k_m_chance ?a_m_spare ?i_m_spare ?l_m_spare ?c_m_spare ?k_m_spare ?a_m_clashes ?i_m_clashes ?l_m_clashes ?c_m_clashes ?k_m_clashes ?a_m_table ?i_m_table ?l_m_table ?c_m_table ?k_m_table ?a_m_rules ?i_m_rules ?l_m_rules ?c_m_rules ?k_m_rules ?a_m_broken ?i_m_broken ?l_m_broken ?c_m_broken ?k_m_broken ?a_m_whole ?i_m_whole ?l_m_whole ?c_m_whole ?k_m_whole ?a_m_alike ?i_m_alike ?l_m_alike ?c_m_alike ?k_m_alike ?a_m_beyond ?i_m_beyond ?l_m_beyond ?c_m_beyond ?k_m_beyond ?a_m_settled ?i_m_settled ?l_m_settled ?c_m_settled ?k_m_settled ?g_KIND_LIKELIER ?g_KIND_NO_LESS ?g_KIND_AS_LIKELY ?g_NOTHING ?g_NO_LESS ?g_LIKELIER ?g_MOST_TOGETHER ?g_MOST_WORLDS ?g_MOST_TOLD ?g_NONE_SUCH ?g_NOT_RIGHT ?g_TOO_MANY ?g_NO_SHARES ?g_SOME_SHARES ?g_MAY_HAVE_NONE ?g_FITS ?g_WRONG ?g_NOT_BEGUN ?g_BEGIN ?g_TELL ?g_UNTELL ?g_CAN ?g_WAYS ?g_PLAINEST ?g_RULES ?g_ALL_SHARES ?g_BROKEN ?g_BEYOND ?g_WHOLE ?g_CHANCE ?g_GIVEN ?g_ALIKE ?g_CLASHES ?g_SPARE ?g_LOOK ?g_STATE ?z_range ?z_len ?z_max ?z_min ?z_sum ?z_zip ?z_list ?z_enum ?z_any ?z_all ?z_sorted ?g_hm ?l_hm ?h1 ?h2 ?h3 ?h4 ?pg ?hd ?po ?sa ?mk ?kc ?nW ?nT
    (case aC => k_is)
    (case a_row_of_parts => k_is)
    (case l_row_of_parts => k_is)
    (case c_row_of_parts => k_is)
    (case k_row_of_parts => k_is)
    (case a_raise_to => k_is)
    (case l_raise_to => k_is)
    (case c_raise_to => k_is)
    (case k_raise_to => k_is)
    (case a_table_at_first => k_is)
    (case l_table_at_first => k_is)
    (case c_table_at_first => k_is)
    (case k_table_at_first => k_is)
    (case a_without => k_is)
    (case l_without => k_is)
    (case c_without => k_is)
    (case k_without => k_is)
    (case a_highest_apart => k_is)
    (case l_highest_apart => k_is)
    (case c_highest_apart => k_is)
    (case k_highest_apart => k_is)
    (case a_row_with_common => k_is)
    (case l_row_with_common => k_is)
    (case c_row_with_common => k_is)
    (case k_row_with_common => k_is)
    (case a_same_with_any_put_to_both => k_is)
    (case l_same_with_any_put_to_both => k_is)
    (case c_same_with_any_put_to_both => k_is)
    (case k_same_with_any_put_to_both => k_is)
    (case a_row_through => k_is)
    (case l_row_through => k_is)
    (case c_row_through => k_is)
    (case k_row_through => k_is)
    (case a_from_one_to_the_next => k_is)
    (case l_from_one_to_the_next => k_is)
    (case c_from_one_to_the_next => k_is)
    (case k_from_one_to_the_next => k_is)
    (case a_table_by_rules => k_is)
    (case l_table_by_rules => k_is)
    (case c_table_by_rules => k_is)
    (case k_table_by_rules => k_is)
    (case a_is_broken => k_is)
    (case l_is_broken => k_is)
    (case c_is_broken => k_is)
    (case k_is_broken => k_is)
    (case a_is_told_by => k_is)
    (case l_is_told_by => k_is)
    (case c_is_told_by => k_is)
    (case k_is_told_by => k_is)
    (case a_is_shares => k_is)
    (case l_is_shares => k_is)
    (case c_is_shares => k_is)
    (case k_is_shares => k_is)
    (case a_share_of => k_is)
    (case l_share_of => k_is)
    (case c_share_of => k_is)
    (case k_share_of => k_is)
    (case a_lead => k_is)
    (case l_lead => k_is)
    (case c_lead => k_is)
    (case k_lead => k_is)
    (case a_agree => k_is)
    (case l_agree => k_is)
    (case c_agree => k_is)
    (case k_agree => k_is)
    (case a_disagreed => k_is)
    (case l_disagreed => k_is)
    (case c_disagreed => k_is)
    (case k_disagreed => k_is)
    (case a_fit => k_is)
    (case l_fit => k_is)
    (case c_fit => k_is)
    (case k_fit => k_is)
    (case a_one_world_more => k_is)
    (case l_one_world_more => k_is)
    (case c_one_world_more => k_is)
    (case k_one_world_more => k_is)
    (case a_shares_together => k_is)
    (case l_shares_together => k_is)
    (case c_shares_together => k_is)
    (case k_shares_together => k_is)
    (case a_shares_in_order => k_is)
    (case l_shares_in_order => k_is)
    (case c_shares_in_order => k_is)
    (case k_shares_in_order => k_is)
    (case a_some_have_none => k_is)
    (case l_some_have_none => k_is)
    (case c_some_have_none => k_is)
    (case k_some_have_none => k_is)
    (case a_fitting_shares => k_is)
    (case l_fitting_shares => k_is)
    (case c_fitting_shares => k_is)
    (case k_fitting_shares => k_is)
    (case a_told_by_all => k_is)
    (case l_told_by_all => k_is)
    (case c_told_by_all => k_is)
    (case k_told_by_all => k_is)
    (case a_chance_by => k_is)
    (case l_chance_by => k_is)
    (case c_chance_by => k_is)
    (case k_chance_by => k_is)
    (case a_is_less => k_is)
    (case l_is_less => k_is)
    (case c_is_less => k_is)
    (case k_is_less => k_is)
    (case a_least_chance => k_is)
    (case l_least_chance => k_is)
    (case c_least_chance => k_is)
    (case k_least_chance => k_is)
    (case a_greatest_chance => k_is)
    (case l_greatest_chance => k_is)
    (case c_greatest_chance => k_is)
    (case k_greatest_chance => k_is)
    (case a_greatest_common_divisor => k_is)
    (case l_greatest_common_divisor => k_is)
    (case c_greatest_common_divisor => k_is)
    (case k_greatest_common_divisor => k_is)
    (case a_as_fraction => k_is)
    (case l_as_fraction => k_is)
    (case c_as_fraction => k_is)
    (case k_as_fraction => k_is)
    (case a_set_of => k_is)
    (case l_set_of => k_is)
    (case c_set_of => k_is)
    (case k_set_of => k_is)
    (case a_wrong_sets => k_is)
    (case l_wrong_sets => k_is)
    (case c_wrong_sets => k_is)
    (case k_wrong_sets => k_is)
    (case a_some_fit => k_is)
    (case l_some_fit => k_is)
    (case c_some_fit => k_is)
    (case k_some_fit => k_is)
    (case a_some_agree => k_is)
    (case l_some_agree => k_is)
    (case c_some_agree => k_is)
    (case k_some_agree => k_is)
    (case a_one_left_out => k_is)
    (case l_one_left_out => k_is)
    (case c_one_left_out => k_is)
    (case k_one_left_out => k_is)
    (case a_is_clash => k_is)
    (case l_is_clash => k_is)
    (case c_is_clash => k_is)
    (case k_is_clash => k_is)
    (case a_all_clashes => k_is)
    (case l_all_clashes => k_is)
    (case c_all_clashes => k_is)
    (case k_all_clashes => k_is)
    (case a_all_spare => k_is)
    (case l_all_spare => k_is)
    (case c_all_spare => k_is)
    (case k_all_spare => k_is)
    (case a_pairs_apart => k_is)
    (case l_pairs_apart => k_is)
    (case c_pairs_apart => k_is)
    (case k_pairs_apart => k_is)
    (case a_is_told_of => k_is)
    (case l_is_told_of => k_is)
    (case c_is_told_of => k_is)
    (case k_is_told_of => k_is)
    (case a_is_whole => k_is)
    (case l_is_whole => k_is)
    (case c_is_whole => k_is)
    (case k_is_whole => k_is)
    (case a_is_alike => k_is)
    (case l_is_alike => k_is)
    (case c_is_alike => k_is)
    (case k_is_alike => k_is)
    (case a_alike_pairs => k_is)
    (case l_alike_pairs => k_is)
    (case c_alike_pairs => k_is)
    (case k_alike_pairs => k_is)
    (case a_is_beyond => k_is)
    (case l_is_beyond => k_is)
    (case c_is_beyond => k_is)
    (case k_is_beyond => k_is)
    (case a_beyond_pairs => k_is)
    (case l_beyond_pairs => k_is)
    (case c_beyond_pairs => k_is)
    (case k_beyond_pairs => k_is)
    (case a_end_of_call => k_is)
    (case l_end_of_call => k_is)
    (case c_end_of_call => k_is)
    (case k_end_of_call => k_is)
    (case a_answer_about_told => k_is)
    (case l_answer_about_told => k_is)
    (case c_answer_about_told => k_is)
    (case k_answer_about_told => k_is)
    (case a_answer_about_fitting => k_is)
    (case l_answer_about_fitting => k_is)
    (case c_answer_about_fitting => k_is)
    (case k_answer_about_fitting => k_is)
    (case a_answer_by_shares => k_is)
    (case l_answer_by_shares => k_is)
    (case c_answer_by_shares => k_is)
    (case k_answer_by_shares => k_is)
    (case a_answer_by_rules => k_is)
    (case l_answer_by_rules => k_is)
    (case c_answer_by_rules => k_is)
    (case k_answer_by_rules => k_is)
    (case a_answer_to => k_is)
    (case l_answer_to => k_is)
    (case c_answer_to => k_is)
    (case k_answer_to => k_is)
    (case a_answers => k_is)
    (case l_answers => k_is)
    (case c_answers => k_is)
    (case k_answers => k_is)
    (case a_m___init__ => k_is)
    (case i_m___init__ => k_is)
    (case l_m___init__ => k_is)
    (case c_m___init__ => k_is)
    (case k_m___init__ => k_is)
    (case a_m_has_begun => k_is)
    (case i_m_has_begun => k_is)
    (case l_m_has_begun => k_is)
    (case c_m_has_begun => k_is)
    (case k_m_has_begun => k_is)
    (case a_m_is_set => k_is)
    (case i_m_is_set => k_is)
    (case l_m_is_set => k_is)
    (case c_m_is_set => k_is)
    (case k_m_is_set => k_is)
    (case a_m_begin => k_is)
    (case i_m_begin => k_is)
    (case l_m_begin => k_is)
    (case c_m_begin => k_is)
    (case k_m_begin => k_is)
    (case a_m_tell => k_is)
    (case i_m_tell => k_is)
    (case l_m_tell => k_is)
    (case c_m_tell => k_is)
    (case k_m_tell => k_is)
    (case a_m_untell => k_is)
    (case i_m_untell => k_is)
    (case l_m_untell => k_is)
    (case c_m_untell => k_is)
    (case k_m_untell => k_is)
    (case a_m_look => k_is)
    (case i_m_look => k_is)
    (case l_m_look => k_is)
    (case c_m_look => k_is)
    (case k_m_look => k_is)
    (case a_m_state => k_is)
    (case i_m_state => k_is)
    (case l_m_state => k_is)
    (case c_m_state => k_is)
    (case k_m_state => k_is)
    (case a_m_fitting => k_is)
    (case i_m_fitting => k_is)
    (case l_m_fitting => k_is)
    (case c_m_fitting => k_is)
    (case k_m_fitting => k_is)
    (case a_m_can => k_is)
    (case i_m_can => k_is)
    (case l_m_can => k_is)
    (case c_m_can => k_is)
    (case k_m_can => k_is)
    (case a_m_ways => k_is)
    (case i_m_ways => k_is)
    (case l_m_ways => k_is)
    (case c_m_ways => k_is)
    (case k_m_ways => k_is)
    (case a_m_plainest => k_is)
    (case i_m_plainest => k_is)
    (case l_m_plainest => k_is)
    (case c_m_plainest => k_is)
    (case k_m_plainest => k_is)
    (case a_m_fits => k_is)
    (case i_m_fits => k_is)
    (case l_m_fits => k_is)
    (case c_m_fits => k_is)
    (case k_m_fits => k_is)
    (case a_m_wrong => k_is)
    (case i_m_wrong => k_is)
    (case l_m_wrong => k_is)
    (case c_m_wrong => k_is)
    (case k_m_wrong => k_is)
    (case a_m_all_shares => k_is)
    (case i_m_all_shares => k_is)
    (case l_m_all_shares => k_is)
    (case c_m_all_shares => k_is)
    (case k_m_all_shares => k_is)
    (case a_m_given => k_is)
    (case i_m_given => k_is)
    (case l_m_given => k_is)
    (case c_m_given => k_is)
    (case k_m_given => k_is)
    (case a_m_chance => k_is)
    (case i_m_chance => k_is)
    (case l_m_chance => k_is)
    (case c_m_chance => k_is)
    (case k_m_chance => k_is)
    (case a_m_spare => k_is)
    (case i_m_spare => k_is)
    (case l_m_spare => k_is)
    (case c_m_spare => k_is)
    (case k_m_spare => k_is)
    (case a_m_clashes => k_is)
    (case i_m_clashes => k_is)
    (case l_m_clashes => k_is)
    (case c_m_clashes => k_is)
    (case k_m_clashes => k_is)
    (case a_m_table => k_is)
    (case i_m_table => k_is)
    (case l_m_table => k_is)
    (case c_m_table => k_is)
    (case k_m_table => k_is)
    (case a_m_rules => k_is)
    (case i_m_rules => k_is)
    (case l_m_rules => k_is)
    (case c_m_rules => k_is)
    (case k_m_rules => k_is)
    (case a_m_broken => k_is)
    (case i_m_broken => k_is)
    (case l_m_broken => k_is)
    (case c_m_broken => k_is)
    (case k_m_broken => k_is)
    (case a_m_whole => k_is)
    (case i_m_whole => k_is)
    (case l_m_whole => k_is)
    (case c_m_whole => k_is)
    (case k_m_whole => k_is)
    (case a_m_alike => k_is)
    (case i_m_alike => k_is)
    (case l_m_alike => k_is)
    (case c_m_alike => k_is)
    (case k_m_alike => k_is)
    (case a_m_beyond => k_is)
    (case i_m_beyond => k_is)
    (case l_m_beyond => k_is)
    (case c_m_beyond => k_is)
    (case k_m_beyond => k_is)
    (case a_m_settled => k_is)
    (case i_m_settled => k_is)
    (case l_m_settled => k_is)
    (case c_m_settled => k_is)
    (case k_m_settled => k_is)
    (case g_KIND_LIKELIER => k_is)
    (case g_KIND_NO_LESS => k_is)
    (case g_KIND_AS_LIKELY => k_is)
    (case g_NOTHING => k_is)
    (case g_NO_LESS => k_is)
    (case g_LIKELIER => k_is)
    (case g_MOST_TOGETHER => k_is)
    (case g_MOST_WORLDS => k_is)
    (case g_MOST_TOLD => k_is)
    (case g_NONE_SUCH => k_is)
    (case g_NOT_RIGHT => k_is)
    (case g_TOO_MANY => k_is)
    (case g_NO_SHARES => k_is)
    (case g_SOME_SHARES => k_is)
    (case g_MAY_HAVE_NONE => k_is)
    (case g_FITS => k_is)
    (case g_WRONG => k_is)
    (case g_NOT_BEGUN => k_is)
    (case g_BEGIN => k_is)
    (case g_TELL => k_is)
    (case g_UNTELL => k_is)
    (case g_CAN => k_is)
    (case g_WAYS => k_is)
    (case g_PLAINEST => k_is)
    (case g_RULES => k_is)
    (case g_ALL_SHARES => k_is)
    (case g_BROKEN => k_is)
    (case g_BEYOND => k_is)
    (case g_WHOLE => k_is)
    (case g_CHANCE => k_is)
    (case g_GIVEN => k_is)
    (case g_ALIKE => k_is)
    (case g_CLASHES => k_is)
    (case g_SPARE => k_is)
    (case g_LOOK => k_is)
    (case g_STATE => k_is)
    (case z_range => k_is)
    (case z_len => k_is)
    (case z_max => k_is)
    (case z_min => k_is)
    (case z_sum => k_is)
    (case z_zip => k_is)
    (case z_list => k_is)
    (case z_enum => k_is)
    (case z_any => k_is)
    (case z_all => k_is)
    (case z_sorted => k_is)
    (case g_hm => k_is)
    (case l_hm => k_is)
    (case h1 => rfl)
    (case h2 => rfl)
    (case h3 => exact (by repeat first | exact .nil | refine .cons ⟨_, rfl⟩ ?_))
    (case h4 => decide)
    (case pg => k_is)
    (case hd => k_is)
    (case po => k_is)
    (case sa => k_is)
    (case mk => k_is)
    (case kc => k_is)
    (case nW => k_is)
    (case nT => k_is)
  case S =>
    intro K H xs a hO hwi hask hx
    cases hx with
    | cons h1 h2 =>
      cases h2
      cases h1 with
      | lst hs ha =>
        have e := L2.ints_dw a.1 _ ha
        subst e
        have q : ((Codec.inLen 0 5200 a.1 && a.1.all (Codec.inInt 0 4294967295)) && true) = true := hwi
        rw [Bool.and_eq_true, Bool.and_eq_true] at q
        have ez : a.1 = Lk.zs (a.1.map Int.toNat) := Lk.zs_of fun x hx => (Codec.inInt_iff.mp (List.all_eq_true.mp q.1.2 x hx)).1
        refine ⟨_, a.1.map Int.toNat, rfl, ?_, ?_, ?_, fun H' p hp => ?_⟩
        · rw [Lk.ns_zs, ← ez]; exact hs
        · intro x hx
          obtain ⟨y, hy, rfl⟩ := List.mem_map.mp hx
          have := Codec.inInt_iff.mp (List.all_eq_true.mp q.1.2 y hy)
          omega
        · rw [← ez]; exact hask
        · rw [← ez] at hp
          exact .lst (L2.SqL.of hp) (L2.dw_ints _)
#print axioms PySem.Challenge.cw_likeliersets_s01_answers_holds
end
