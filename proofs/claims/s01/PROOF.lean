import PyProof.Rows.All
import Wide.All
import OpenK.AllK
import Wide.FinOn
import PyProof.EqAt
import PyProof.EqKinds
import PyProof.TupleCall
import KE.BitLaws
import Open.SpecLaws
import KE.OsHead
import KE.OsGo
import PyProof.Rows.SortIns
import PyProof.Rows.SortPure
import PyProof.Rows.SortG.SortRunsSt
import KE.KSortTup
import KE.KSortKeyAny
import KE.KLam
import KE.KNestM
import PyProof.MinMaxWalk
import PyProof.WalkInts
import PyProof.DictWalks
import PyProof.SumWalk
import PyProof.RulesTry
import PyProof.AutoSeq1
import PyProof.EnumMake
import KE.KDictList
import PyProof.FitsBits
import PyProof.Draws
import PySem.Challenge.RW_wordkeysdesk_s01_answers
set_option linter.all false
set_option Elab.async false
set_option maxRecDepth 100000
set_option maxHeartbeats 4000000
namespace L2
open PySem PySem.Spec PyProof.Rows
abbrev Key := Sum Int Str
def keyIs : Key → Value → Bool
  | .inl k, v => Value.isInt k v
  | .inr x, v => Value.isStrOf x v
def keyH (w : World) : Key → Int
  | .inl k => hashInt k
  | .inr x => hashStr w x
theorem keyIs_shape : ∀ {k : Key} {v : Value}, keyIs k v = true → (∃ i t, k = Sum.inl i ∧ v = Value.int i t) ∨ (∃ x t, k = Sum.inr x ∧ v = Value.str x t)
  | .inl i, v, h => by
    obtain ⟨t, e⟩ := Value.isInt_shape (k := i) (v := v) h
    exact .inl ⟨i, t, rfl, e⟩
  | .inr x, v, h => by
    obtain ⟨t, e⟩ := Value.isStrOf_shape (x := x) (v := v) h
    exact .inr ⟨x, t, rfl, e⟩
theorem keyIs_int (i : Int) (t : Tok) : keyIs (.inl i) (.int i t) = true := by simp [keyIs, Value.isInt]
theorem keyIs_str (x : Str) (t : Tok) : keyIs (.inr x) (.str x t) = true := by simp [keyIs, Value.isStrOf]
theorem key_ll (a b : Int) : decide ((Sum.inl a : Key) = Sum.inl b) = (a == b) := by
  by_cases e : a = b
  · subst e; simp
  · have h : ¬ (Sum.inl a : Key) = Sum.inl b := fun q => e (Sum.inl.inj q)
    rw [decide_eq_false h]
    exact (beq_eq_false_iff_ne.mpr e).symm
theorem key_rr (a b : Str) : decide ((Sum.inr a : Key) = Sum.inr b) = decide (a = b) := by
  by_cases e : a = b
  · subst e; simp
  · have h : ¬ (Sum.inr a : Key) = Sum.inr b := fun q => e (Sum.inr.inj q)
    rw [decide_eq_false h, decide_eq_false e]
theorem key_lr (a : Int) (b : Str) : decide ((Sum.inl a : Key) = Sum.inr b) = false := decide_eq_false (fun q => nomatch q)
theorem key_rl (a : Str) (b : Int) : decide ((Sum.inr a : Key) = Sum.inl b) = false := decide_eq_false (fun q => nomatch q)
def mixKind (prog : Program) (w : World) : PySem.KeyKind prog w Key where
  is := keyIs
  hash := keyH w
  inj := fun v a b ha hb => by
    rcases keyIs_shape ha with ⟨i, t, rfl, rfl⟩ | ⟨x, t, rfl, rfl⟩
    · rcases keyIs_shape hb with ⟨j, u, rfl, e⟩ | ⟨y, u, rfl, e⟩
      · injection e with e1 _; rw [e1]
      · exact nomatch e
    · rcases keyIs_shape hb with ⟨j, u, rfl, e⟩ | ⟨y, u, rfl, e⟩
      · exact nomatch e
      · injection e with e1 _; rw [e1]
  byValue := fun k v h => by
    rcases keyIs_shape h with ⟨i, t, rfl, rfl⟩ | ⟨x, t, rfl, rfl⟩ <;> rfl
  pyHash := fun hv h => by
    rcases keyIs_shape hv with ⟨i, t, rfl, rfl⟩ | ⟨x, t, rfl, rfl⟩
    · exact wpAny_pyHash_int h
    · exact wpAny_pyHash_str h
  eqBool := fun hu hv h => by
    rcases keyIs_shape hu with ⟨i, t, rfl, rfl⟩ | ⟨x, t, rfl, rfl⟩
    · rcases keyIs_shape hv with ⟨j, u, rfl, rfl⟩ | ⟨y, u, rfl, rfl⟩
      · rw [key_ll] at h; exact wpAny_eqBool_int h
      · rw [key_lr] at h; exact SeqAt.EqAt.int_str i t y u _ _ _ _ h
    · rcases keyIs_shape hv with ⟨j, u, rfl, rfl⟩ | ⟨y, u, rfl, rfl⟩
      · rw [key_rl] at h; exact SeqAt.EqAt.str_int x t j u _ _ _ _ h
      · rw [key_rr] at h; exact wpAny_eqBool_str h
  «strs» := fun k x t v h => by
    rcases keyIs_shape h with ⟨i, u, rfl, e⟩ | ⟨y, u, rfl, e⟩
    · exact nomatch e
    · injection e with e1 _
      subst e1
      cases v <;> rfl
theorem mixKind_int (prog : Program) (w : World) (i : Int) (t : Tok) : (mixKind prog w).is (.inl i) (.int i t) = true := keyIs_int i t
theorem mixKind_str (prog : Program) (w : World) (x : Str) (t : Tok) : (mixKind prog w).is (.inr x) (.str x t) = true := keyIs_str x t
end L2
namespace L2
open PySem PySem.Spec PyProof.Rows
inductive V where
  | non | bl (b : Bool) | int (i : Int) | str (x : Str) | byt (b : Array UInt8) | flt (b : UInt64) | ref (a : Addr) | ty (n : String)
  deriving DecidableEq
def RelV : V → Value → Prop
  | .non, u => u = Value.none
  | .bl b, u => u = Value.bool b
  | .int i, u => ∃ t, u = Value.int i t
  | .str x, u => ∃ t, u = Value.str x t
  | .byt b, u => ∃ t, u = Value.bytes b t
  | .flt b, u => ∃ t, u = Value.float b t
  | .ref a, u => u = Value.ref a
  | .ty n, u => u = Value.type n
abbrev Vals : List V → List Value → Prop := Paired RelV
theorem Vals.length {xs : List V} {us : List Value} (r : Vals xs us) : xs.length = us.length := Paired.length r
theorem Vals.get : ∀ {xs : List V} {us : List Value} {i : Nat} {x : V}, Vals xs us → xs[i]? = some x → ∃ u, us[i]? = some u ∧ RelV x u
  | _, _, _, _, .nil, e => by simp at e
  | _, _, 0, _, .cons r _, e => by simp at e; subst e; exact ⟨_, rfl, r⟩
  | _, _, i + 1, x, .cons _ t, e => by
    obtain ⟨u, h1, h2⟩ := Vals.get (i := i) (x := x) t (by simpa using e)
    exact ⟨u, by simpa using h1, h2⟩
theorem Vals.append : ∀ {xs ys : List V} {us ws : List Value}, Vals xs us → Vals ys ws → Vals (xs ++ ys) (us ++ ws)
  | _, _, _, _, .nil, s => s
  | _, _, _, _, .cons r t, s => .cons r (Vals.append t s)
theorem Vals.take : ∀ {xs : List V} {us : List Value} (n : Nat), Vals xs us → Vals (xs.take n) (us.take n)
  | _, _, 0, _ => .nil
  | _, _, _ + 1, .nil => .nil
  | _, _, n + 1, .cons r t => .cons r (Vals.take n t)
theorem Vals.drop : ∀ {xs : List V} {us : List Value} (n : Nat), Vals xs us → Vals (xs.drop n) (us.drop n)
  | _, _, 0, r => r
  | _, _, _ + 1, .nil => .nil
  | _, _, n + 1, .cons _ t => Vals.drop n t
def RelO : Option V → Option Value → Prop
  | some v, some u => RelV v u
  | none, none => True
  | _, _ => False
def KV {κ : Type} : List (κ × V) → List (κ × Value) → Prop := Paired fun (p : κ × V) (q : κ × Value) => p.1 = q.1 ∧ RelV p.2 q.2
def kV : Key → V
  | .inl i => .int i
  | .inr x => .str x
inductive HO where
    | lst (xs : List V)
    | tup (xs : List V)
    | dK (kvs : List (Key × V)) | dT (kvs : List (List Key × V))
    | set (S : Int → Bool) (n : Nat)
    | ins (C dx : Addr) (fs : List (Str × V))
    | own (x : Addr)
    | xd (fs : List (Str × V))
    | met (f x : Addr)
    | rng (lo hi : Int)
    | frz (o : Obj) (u : HO)
    | tbl (ps : Array Value)
    | ext (φ : Heap → Prop)
abbrev Hp := Addr → Option HO
def upd (H : Hp) (a : Addr) (o : HO) : Hp := fun b => if b = a then some o else H b
theorem upd_same {H : Hp} {a : Addr} {o : HO} : upd H a o a = some o := by unfold upd; rw [if_pos rfl]
theorem upd_ne {H : Hp} {a b : Addr} {o : HO} (h : b ≠ a) : upd H a o b = H b := by unfold upd; rw [if_neg h]
theorem ne_of {H : Hp} {a b : Addr} {o u : HO} (h : H a = some o) (h' : H b = some u) (d : o ≠ u) : a ≠ b := by
  intro e; subst e; rw [h] at h'; exact d (Option.some.inj h')
theorem ne_of_none {H : Hp} {a b : Addr} {o : HO} (h : H a = some o) (h' : H b = none) : a ≠ b := by
  intro e; subst e; rw [h] at h'; cases h'
section
variable (P : Program) (w : World)
def ObjOk (H : Hp) (h : Heap) (a : Addr) : HO → Prop
  | .lst xs => xs.length ≤ sizeLine ∧ ∃ (its : List Value) (n : Nat), Vals xs its ∧ h.get? a = some { cls := .type "list", data := .seq its.toArray n }
  | .tup xs => xs.length ≤ sizeLine ∧ ∃ its : List Value, Vals xs its ∧ IsTup h a its.toArray
  | .dK kvs => kvs.length ≤ sizeLine ∧ (a == sysModules) = false ∧ ∃ vs, KV kvs vs ∧ h.DictOf (mixKind P w) a vs
  | .dT kvs => kvs.length ≤ sizeLine ∧ (a == sysModules) = false ∧ ∃ xs : List (List Key × Addr × Value),
      Paired (fun (p : List Key × V) (q : List Key × Addr × Value) => p.1 = q.1 ∧ H q.2.1 = some (.tup (p.1.map kV)) ∧ RelV p.2 q.2.2) kvs xs ∧
      ∃ o es ep, h.get? a = some o ∧ o.ExactDict ∧ o.data = .dict es ep ∧ es.toList = xs.map (entryOfKey (tupleKind (mixKind P w))) ∧ (xs.map (·.1)).Nodup
  | .set S n => h.SetOf (intKind P w) a S n
  | .ins C dx fs => H dx = some (.own a) ∧ fs.length ≤ 1000 ∧ dx ≠ a ∧ h.get? a = some (PySem.W.instObj C dx) ∧
      ∃ mA, h.Ns1 dx mA ∧ (∀ f, RelO (fs.lookup f) (mA f)) ∧ PySem.Within mA (fs.map (·.1))
  | .own _ => ∃ o, h.get? a = some o
  | .xd fs => ∃ mA, h.Ns1 a mA ∧ ∀ f, RelO (fs.lookup f) (mA f)
  | .rng lo hi => ∃ t u v, h.get? a = some { cls := .type "range", data := .fields #[.int lo t, .int hi u, .int 1 v] }
  | .frz o u => h.get? a = some o ∧ ObjOk H h a u
  | .tbl ps => h.get? a = some { cls := .none, data := .fields ps }
  | .met f x => h.get? a = some (PySem.W.methodObj (.ref f) (.ref x))
  | .ext φ => φ h ∧ (∃ o, h.get? a = some o) ∧ ∀ h1 h2 : Heap, φ h1 → (∀ o, h1.get? a = some o → h2.get? a = some o) → φ h2
def HOk (H : Hp) (h : Heap) : Prop := ∀ a o, H a = some o → ObjOk P w H h a o
end
section
variable {P : Program} {w : World} {H H' : Hp} {h h' : Heap} {a : Addr} {o : HO}
theorem ObjOk.lt (x : ObjOk P w H h a o) : a < h.objs.size := by
  cases o with
  | lst xs => obtain ⟨_, _, _, _, e⟩ := x; exact Heap.lt_size e
  | tup xs => obtain ⟨_, _, _, p⟩ := x; exact p.lt
  | dK kvs => obtain ⟨_, _, _, _, o, _, _, e, _⟩ := x; exact Heap.lt_size e
  | dT kvs => obtain ⟨_, _, _, _, o, _, _, e, _⟩ := x; exact Heap.lt_size e
  | set S n => obtain ⟨o, _, _, _, e, _⟩ := x; exact Heap.lt_size e
  | ins C dx fs => obtain ⟨_, _, _, e, _⟩ := x; exact Heap.lt_size e
  | own y => obtain ⟨_, e⟩ := x; exact Heap.lt_size e
  | xd fs => obtain ⟨_, ⟨_, _, _, e, _⟩, _⟩ := x; exact Heap.lt_size e
  | rng lo hi => obtain ⟨_, _, _, e⟩ := x; exact Heap.lt_size e
  | frz ob u => obtain ⟨e, _⟩ := x; exact Heap.lt_size e
  | tbl ps => exact Heap.lt_size (show h.get? a = some _ from x)
  | met f y => exact Heap.lt_size (show h.get? a = some _ from x)
  | ext φ => obtain ⟨_, ⟨_, e⟩, _⟩ := x; exact Heap.lt_size e
theorem Paired.mapP {α β : Type} {F G : α → β → Prop} : ∀ {l₁ : List α} {l₂ : List β}, Paired F l₁ l₂ → (∀ a b, F a b → G a b) → Paired G l₁ l₂
  | _, _, .nil, _ => .nil
  | _, _, .cons r t, f => .cons (f _ _ r) (Paired.mapP t f)
theorem ObjOk.stay (x : ObjOk P w H h a o) (k : ∀ b u, (b = a ∨ H b = some (.own a)) → h.get? b = some u → h'.get? b = some u)
    (ho : ∀ b, H b = some (.own a) → H' b = some (.own a)) (ht : ∀ b xs, H b = some (.tup xs) → H' b = some (.tup xs)) : ObjOk P w H' h' a o := by
  induction o with
  | lst xs => obtain ⟨z, its, n, r, e⟩ := x; exact ⟨z, its, n, r, k _ _ (.inl rfl) e⟩
  | tup xs => obtain ⟨z, its, r, ob, e, c⟩ := x; exact ⟨z, its, r, ob, k _ _ (.inl rfl) e, c⟩
  | dK kvs => obtain ⟨z, y, vs, r, ob, es, ep, e, c⟩ := x; exact ⟨z, y, vs, r, ob, es, ep, k _ _ (.inl rfl) e, c⟩
  | dT kvs =>
    obtain ⟨z, y, xs, r, ob, es, ep, e, c⟩ := x
    exact ⟨z, y, xs, Paired.mapP r fun p q z => ⟨z.1, ht _ _ z.2.1, z.2.2⟩, ob, es, ep, k _ _ (.inl rfl) e, c⟩
  | set S n => obtain ⟨ob, es, ep, t, e, c⟩ := x; exact ⟨ob, es, ep, t, k _ _ (.inl rfl) e, c⟩
  | ins C dx fs =>
    obtain ⟨d, z, ne, e, mA, ⟨od, es, ep, e2, c⟩, r⟩ := x
    exact ⟨ho _ d, z, ne, k _ _ (.inl rfl) e, mA, ⟨od, es, ep, k _ _ (.inr d) e2, c⟩, r⟩
  | own y => obtain ⟨ob, e⟩ := x; exact ⟨ob, k _ _ (.inl rfl) e⟩
  | xd fs => obtain ⟨mA, ⟨od, es, ep, e, c⟩, r⟩ := x; exact ⟨mA, ⟨od, es, ep, k _ _ (.inl rfl) e, c⟩, r⟩
  | rng lo hi => obtain ⟨t, u, v, e⟩ := x; exact ⟨t, u, v, k _ _ (.inl rfl) e⟩
  | frz ob u ih => obtain ⟨e, q⟩ := x; exact ⟨k _ _ (.inl rfl) e, ih q⟩
  | tbl ps =>
    have e : h.get? a = some { cls := .none, data := .fields ps } := x
    show h'.get? a = some { cls := .none, data := .fields ps }
    exact k a _ (.inl rfl) e
  | met f y =>
    have e : h.get? a = some (PySem.W.methodObj (.ref f) (.ref y)) := x
    show h'.get? a = some (PySem.W.methodObj (.ref f) (.ref y))
    exact k a _ (.inl rfl) e
  | ext φ => obtain ⟨p, ⟨o, e⟩, st⟩ := x; exact ⟨st _ _ p fun o q => k _ _ (.inl rfl) q, ⟨o, k _ _ (.inl rfl) e⟩, st⟩
theorem HOk.lt (x : HOk P w H h) (e : H a = some o) : a < h.objs.size := (x a o e).lt
theorem HOk.fresh (x : HOk P w H h) (e : h.objs.size ≤ a) : H a = none := by
  cases q : H a with
  | none => rfl
  | some u => exact absurd (Nat.lt_of_lt_of_le (x.lt q) e) (Nat.lt_irrefl _)
theorem HOk.kept (x : HOk P w H h) (k : ∀ b u, h.get? b = some u → h'.get? b = some u) : HOk P w H h' := fun a o e =>
  (x a o e).stay (fun b u _ q => k b u q) (fun _ q => q) fun _ _ q => q
theorem HOk.laid (x : HOk P w H h) (k : ∀ b u, h.get? b = some u → h'.get? b = some u) (hp : h.objs.size ≤ a) (new : ObjOk P w (upd H a o) h' a o) : HOk P w (upd H a o) h' := fun b u e => by
  have hn := x.fresh hp
  by_cases hb : b = a
  · subst hb; rw [upd_same] at e; cases e; exact new
  · rw [upd_ne hb] at e
    exact (x b u e).stay (fun c v _ q => k c v q) (fun c q => by rw [upd_ne (ne_of_none q hn)]; exact q) fun c xs q => by rw [upd_ne (ne_of_none q hn)]; exact q
end
def Rd (H : Hp) (a : Addr) (u : HO) : Prop := H a = some u ∨ ∃ o, H a = some (.frz o u)
theorem Rd.ok {P : Program} {w : World} {H : Hp} {h : Heap} {a : Addr} {u : HO} (r : Rd H a u) (x : HOk P w H h) : ObjOk P w H h a u := by
  rcases r with r | ⟨o, r⟩
  · exact x a u r
  · obtain ⟨_, q⟩ := x a _ r
    exact q
def Mut : Option HO → Prop
  | some (.lst _) => True
  | some (.dK _) => True
  | some (.dT _) => True
  | some (.set _ _) => True
  | some (.ins _ _ _) => True
  | some (.ext _) => True
  | _ => False
section
variable {P : Program} {w : World} {H : Hp} {h h' : Heap} {x e : Addr} {o' : HO}
theorem HOk.write (ok : HOk P w H h) (mu : Mut (H x)) (he : e = x ∨ H e = some (.own x)) (k : ∀ b u, b ≠ e → h.get? b = some u → h'.get? b = some u) (heo : ∃ u, h'.get? e = some u)
    (new : ObjOk P w (upd H x o') h' x o') : HOk P w (upd H x o') h' := fun b u q => by
  have nown : ∀ c y, H c = some (.own y) → c ≠ x := fun c y r z => by subst z; rw [r] at mu; exact mu
  have ntup : ∀ c xs, H c = some (.tup xs) → c ≠ x := fun c xs r z => by subst z; rw [r] at mu; exact mu
  by_cases hb : b = x
  · subst hb; rw [upd_same] at q; cases q; exact new
  · rw [upd_ne hb] at q
    by_cases hbe : b = e
    · have q' : H b = some (.own x) := by
        rcases he with z | z
        · exact absurd (hbe.trans z) hb
        · rw [hbe]; exact z
      rw [q] at q'; cases q'
      obtain ⟨v, hv⟩ := heo
      exact ⟨v, by rw [hbe]; exact hv⟩
    · refine (ok b u q).stay (fun c v hc r => k c v ?_ r) (fun c r => by rw [upd_ne (nown c b r)]; exact r) fun c xs r => by rw [upd_ne (ntup c xs r)]; exact r
      rcases hc with rfl | hc
      · exact hbe
      · rintro rfl
        rcases he with z | z
        · exact nown c b hc z
        · rw [hc] at z; cases z; exact hb rfl
end
structure Un (fs ex : List Addr) (H H' : Hp) (h h' : Heap) : Prop where
  keep : ∀ b o, h.get? b = some o → H b = none → b ∉ fs → b ∉ ex → h'.get? b = some o
  slot : ∀ b o, h.get? b = some o → H b = none → b ∈ fs → b ∉ ex → ∃ sl, h'.get? b = some { o with slots := sl }
  free : ∀ b o, h.get? b = some o → H b = none → b ∉ ex → H' b = none
  there : ∀ b o, h.get? b = some o → b ∉ ex → ∃ o', h'.get? b = some o'
  tups : ∀ b xs, H b = some (.tup xs) → H' b = some (.tup xs)
  frzs : ∀ b o u, H b = some (.frz o u) → H' b = some (.frz o u)
  tbls : ∀ b ps, H b = some (.tbl ps) → ∃ more, H' b = some (.tbl (ps ++ more))
section
variable {fs fs' ex ex' : List Addr} {H H1 H2 : Hp} {h h1 h2 h' : Heap} {a x e : Addr} {o : HO}
theorem Un.any (u : Un fs ex H H1 h h1) {b : Addr} {ob : Obj} (q : h.get? b = some ob) (n : H b = none) (hx : b ∉ ex) : ∃ sl, h1.get? b = some { ob with slots := sl } := by
  by_cases hb : b ∈ fs
  · exact u.slot b ob q n hb hx
  · exact ⟨ob.slots, u.keep b ob q n hb hx⟩
theorem Un.kept (k : ∀ b u, h.get? b = some u → h'.get? b = some u) : Un fs ex H H h h' :=
  ⟨fun b ob q _ _ _ => k b ob q, fun b ob q _ _ _ => ⟨ob.slots, k b ob q⟩, fun _ _ _ n _ => n, fun b ob q _ => ⟨ob, k b ob q⟩, fun _ _ q => q, fun _ _ _ q => q, fun _ ps q => ⟨#[], by rw [q]; simp⟩⟩
theorem Un.refl : Un fs ex H H h h := Un.kept fun _ _ q => q
theorem Un.laid (k : ∀ b u, h.get? b = some u → h'.get? b = some u) (hp : h.objs.size ≤ a) (hn : H a = none) : Un fs ex H (upd H a o) h h' where
  keep := fun b u q _ _ _ => k b u q
  slot := fun b u q _ _ _ => ⟨u.slots, k b u q⟩
  free := fun b u q n _ => by rw [upd_ne (Nat.ne_of_lt (Nat.lt_of_lt_of_le (Heap.lt_size q) hp))]; exact n
  there := fun b u q _ => ⟨u, k b u q⟩
  tups := fun b xs q => by rw [upd_ne (ne_of_none q hn)]; exact q
  frzs := fun b u xs q => by rw [upd_ne (ne_of_none q hn)]; exact q
  tbls := fun b ps q => ⟨#[], by rw [upd_ne (ne_of_none q hn), q]; simp⟩
theorem Un.write (mu : Mut (H x)) (he : e = x ∨ H e = some (.own x)) (k : ∀ b u, b ≠ e → h.get? b = some u → h'.get? b = some u) (heo : ∃ u, h'.get? e = some u) : Un fs ex H (upd H x o) h h' := by
  have hx : ∀ b, H b = none → b ≠ x := fun b n z => by subst z; rw [n] at mu; exact mu
  have hb : ∀ b, H b = none → b ≠ e := fun b n z => by
    subst z
    rcases he with r | r
    · exact hx b n r
    · rw [n] at r; cases r
  have hm : ∀ b u, H b = some u → ¬ Mut (some u) → b ≠ x := fun b u q nm z => by subst z; rw [q] at mu; exact nm mu
  refine ⟨fun b u q n _ _ => k b u (hb b n) q, fun b u q n _ _ => ⟨u.slots, k b u (hb b n) q⟩, fun b u q n _ => by rw [upd_ne (hx b n)]; exact n, fun b u q _ => ?_,
    fun b xs q => by rw [upd_ne (hm b _ q fun z => z)]; exact q, fun b u xs q => by rw [upd_ne (hm b _ q fun z => z)]; exact q, fun b ps q => ⟨#[], by rw [upd_ne (hm b _ q fun z => z), q]; simp⟩⟩
  by_cases hbe : b = e
  · subst hbe; exact heo
  · exact ⟨u, k b u hbe q⟩
end
def trk (h : Heap) (H : Hp) : List Addr := (List.range h.objs.size).filter fun a => (H a).isSome
def hidT (h : Heap) (H : Hp) : Heap := PySem.W.hideAll h (trk h H)
theorem hidT_size (h : Heap) (H : Hp) : (hidT h H).objs.size = h.objs.size := PySem.W.hideAll_size _ _
theorem hidT_get {h : Heap} {H : Hp} {b : Addr} {o : Obj} (e : h.get? b = some o) (n : H b = none) : (hidT h H).get? b = some o :=
  PySem.W.hideAll_get _ e fun hm => by
    have q : (H b).isSome = true := (List.mem_filter.mp hm).2
    rw [n] at q; simp at q
theorem of_hidT {h : Heap} {H : Hp} {b : Addr} {o : Obj} (e : (hidT h H).get? b = some o) : h.get? b = some o ∧ H b = none := by
  have e' : h.get? b = some o := PySem.W.of_hideAll (trk h H) e
  refine ⟨e', ?_⟩
  cases q : H b with
  | none => rfl
  | some x =>
    have hm : b ∈ trk h H := List.mem_filter.mpr ⟨List.mem_range.mpr (Heap.lt_size e'), by simp [q]⟩
    have z : (hidT h H).get? b = none := PySem.W.hideAll_none (trk h H) hm
    rw [z] at e; cases e
end L2
namespace L2
open PySem PySem.Spec PyProof.Rows
structure Mod (K : PySem.W.Frag) (mg : Str → Option Value) (base : Heap) : Prop where
  kin : K.In base
  glob : base.Ns mainGlobals mg
  blt : ∃ mb, base.Ns builtinsNs mb ∧ ∀ x : Str, x ≠ "__name__" → mb x = bootBuiltins x
  nolimit : base.NoLimit
structure Cx where
  prog : Program
  w : World
  K : PySem.W.Frag
  mg : Str → Option Value
  base : Heap
  A : Around
  N : List Str
  s_0 : Shared
  H_0 : Hp
  env : Env
  outer : List Env
  stack : List Env
  ex : List Addr
  fn : Str → Bool
  calm : Bool
  pn : List (Addr × Obj)
  xe : Value → Shared → Prop
def frs (l : List Env) : List Addr := l.filterMap (·.frame)
abbrev Cx.fs (X : Cx) : List Addr := frs X.outer
def Vis (sc : Scope) (x : Str) : Prop := sc.names.lookup x = some .local ∨ sc.names.lookup x = some .cell ∨ sc.names.lookup x = some .free
def Loc (sc : Scope) (x : Str) : Prop := sc.names.lookup x = some .local ∨ sc.names.lookup x = some .cell
def Look (env : Env) (h : Heap) (m : Str → Option Value) (x : Str) (u : Value) : Prop :=
  (env.kindOf x = some .local ∧ m x = some u) ∨ ((env.kindOf x = some .cell ∨ env.kindOf x = some .free) ∧ ∃ c, env.cells.lookup x = some c ∧ h.IsCell c (some u))
structure Cx.Ok (X : Cx) : Prop where
  mod : Mod X.K X.mg X.base
  kind : X.env.scope.kind = .function
  glob : X.env.globals = mainGlobals
  blt : X.env.builtins = builtinsNs
  above : X.s_0.heap.objs.size ≤ X.env.locals
  inj : ∀ x y c, X.env.cells.lookup x = some c → X.env.cells.lookup y = some c → x = y
  has : ∀ x, (X.env.kindOf x = some .cell ∨ X.env.kindOf x = some .free) → ∃ c, X.env.cells.lookup x = some c
  cab : ∀ x c, X.fn x = true → X.env.cells.lookup x = some c → X.s_0.heap.objs.size ≤ c
  hd : X.calm = true → X.A.handled = none
  frames : X.A.frames = some X.stack
  stk : X.stack = X.outer ∨ (X.stack = X.env :: X.outer ∧ X.env.frame = some X.env.locals)
  exf : ∀ b ∈ X.ex, b ≠ X.env.locals ∧ ∀ x c, X.env.cells.lookup x = some c → c ≠ b
  bs : ∀ b o, X.base.get? b = some o → X.s_0.heap.get? b = some o ∧ X.H_0 b = none
  bsz : X.base.objs.size ≤ X.s_0.heap.objs.size
  noex : ∀ b o, X.base.get? b = some o → b ∉ X.ex
  exfs : ∀ b ∈ X.ex, b ∉ X.fs
  funs : X.s_0.heap.FunFrames X.base X.outer
  frf : ∀ b ∈ X.fs, X.H_0 b = none
structure Inv (X : Cx) (pins : List (Addr × Obj)) (σ : List (Option V)) (H : Hp) (s : Shared) : Prop where
  ok : X.Ok
  os : s.os = X.s_0.os
  bare : AllBare s.gens
  base : Un X.fs X.ex X.H_0 H X.s_0.heap s.heap
  loc : ∃ m, s.heap.Ns X.env.locals m ∧ ∀ (i : Nat) (x : Str) (v : V), X.N[i]? = some x → σ[i]? = some (some v) → Vis X.env.scope x → ∃ u, RelV v u ∧ Look X.env s.heap m x u
  cell : ∀ x c, X.env.cells.lookup x = some c → ∃ v, s.heap.IsCell c v
  free : H X.env.locals = none
  freeC : ∀ x c, X.env.cells.lookup x = some c → H c = none
  pin : ∀ p ∈ X.pn ++ pins, s.heap.get? p.1 = some p.2 ∧ H p.1 = none ∧ p.1 ≠ X.env.locals ∧ p.1 ∉ X.fs ∧ ∀ v, p.2.data ≠ .cell v
  hok : HOk X.prog X.w H s.heap
  len : σ.length = X.N.length
section
variable {X : Cx} {pins : List (Addr × Obj)} {σ : List (Option V)} {H H' : Hp} {s : Shared} {h' : Heap}
theorem Cx.Ok.nofr (ok : X.Ok) {b : Addr} {o : Obj} (e : X.base.get? b = some o) : b ∉ X.fs := fun hb => by
  have := (ok.funs.mem hb).1
  rw [e] at this; cases this
theorem Inv.bs (I : Inv X pins σ H s) : ∀ b o, X.base.get? b = some o → s.heap.get? b = some o ∧ H b = none := fun b o e =>
  ⟨I.base.keep b o (I.ok.bs b o e).1 (I.ok.bs b o e).2 (I.ok.nofr e) (I.ok.noex b o e), I.base.free b o (I.ok.bs b o e).1 (I.ok.bs b o e).2 (I.ok.noex b o e)⟩
theorem Inv.bk (I : Inv X pins σ H s) : ∀ b o, X.base.get? b = some o → s.heap.get? b = some o := fun b o e => (I.bs b o e).1
theorem Inv.mod (I : Inv X pins σ H s) : Mod X.K X.mg X.base := I.ok.mod
theorem Inv.kIn (I : Inv X pins σ H s) : X.K.In s.heap := I.ok.mod.kin.keeps I.bk
theorem Inv.fr (I : Inv X pins σ H s) : ∃ m, Fr X.base X.env.locals s.heap m :=
  let ⟨m, hn, _⟩ := I.loc
  ⟨m, hn, I.bk, Nat.le_trans I.ok.bsz I.ok.above⟩
theorem Inv.lt (I : Inv X pins σ H s) : X.env.locals < s.heap.objs.size := let ⟨_, hn, _⟩ := I.loc; hn.lt
theorem Inv.sz (I : Inv X pins σ H s) : X.s_0.heap.objs.size ≤ s.heap.objs.size := Nat.le_trans I.ok.above (Nat.le_of_lt I.lt)
theorem Inv.nofs (I : Inv X pins σ H s) {a : Addr} (h : s.heap.objs.size ≤ a) : a ∉ X.fs := fun hb => by
  obtain ⟨_, o, ho, _⟩ := I.ok.funs.mem hb
  exact absurd (Nat.lt_of_lt_of_le (Heap.lt_size ho) (Nat.le_trans I.sz h)) (Nat.lt_irrefl _)
theorem Inv.cne (I : Inv X pins σ H s) : ∀ x c, X.env.cells.lookup x = some c → c ≠ X.env.locals := fun x c e z => by
  obtain ⟨v, o, ho, hd⟩ := I.cell x c e
  obtain ⟨m, ⟨o', es, ep, ho', hd', _⟩, _⟩ := I.loc
  rw [z, ho'] at ho; cases ho; rw [hd'] at hd; cases hd
theorem Inv.funs (I : Inv X pins σ H s) : s.heap.FunFrames X.base X.outer := by
  have all : ∀ (l : List Env), (∀ b ∈ frs l, b ∈ X.fs) → X.s_0.heap.FunFrames X.base l → s.heap.FunFrames X.base l := by
    intro l
    induction l with
    | nil => intro _ _; trivial
    | cons env r ih =>
      intro hs hl
      obtain ⟨hk, ⟨L, o, hf, hn, ho, hd⟩, hr⟩ := hl
      have hL : L ∈ X.fs := hs L (by unfold frs; rw [List.filterMap_cons, hf]; exact List.mem_cons_self)
      obtain ⟨sl, e⟩ := I.base.slot L o ho (I.ok.frf L hL) hL fun z => I.ok.exfs L z hL
      exact ⟨hk, ⟨L, _, hf, hn, e, hd⟩, ih (fun b hb => hs b (by unfold frs; rw [List.filterMap_cons, hf]; exact List.mem_cons_of_mem _ hb)) hr⟩
  exact all X.outer (fun _ hb => hb) I.ok.funs
theorem Inv.stack (I : Inv X pins σ H s) : s.heap.FunFrames X.base X.stack := by
  rcases I.ok.stk with e | ⟨e, hf⟩
  · rw [e]; exact I.funs
  · rw [e]
    obtain ⟨m, hn, _⟩ := I.loc
    refine .cons (by rw [I.ok.kind]; decide) hf hn ?_ I.funs
    exact Heap.get?_none_of_le (Nat.le_trans I.ok.bsz I.ok.above)
theorem Inv.stkSub (I : Inv X pins σ H s) : ∀ b ∈ frs X.stack, b ∈ X.env.locals :: X.fs := fun b hb => by
  rcases I.ok.stk with e | ⟨e, hf⟩
  · rw [e] at hb; exact List.mem_cons_of_mem _ hb
  · rw [e] at hb
    unfold frs at hb
    rw [List.filterMap_cons, hf] at hb
    exact hb
theorem Inv.stkFree (I : Inv X pins σ H s) : ∀ b ∈ frs X.stack, H b = none := fun b hb => by
  rcases List.mem_cons.mp (I.stkSub b hb) with e | hb
  · rw [e]; exact I.free
  · obtain ⟨_, o, ho, _⟩ := I.ok.funs.mem hb
    exact I.base.free b o ho (I.ok.frf b hb) fun z => I.ok.exfs b z hb
theorem Inv.step {g' : Array GenState} {t' : Nat} {d' : Drawn} {ch : List Addr} (I : Inv X pins σ H s)
    (hch : ∀ b ∈ ch, (b ∈ X.ex ∨ X.s_0.heap.objs.size ≤ b) ∧ b ≠ X.env.locals ∧ (∀ x c, X.env.cells.lookup x = some c → c ≠ b) ∧ ∀ p ∈ X.pn ++ pins, p.1 ≠ b)
    (keep : ∀ b o, b ≠ X.env.locals → b ∉ X.fs → b ∉ ch → s.heap.get? b = some o → H b = none → h'.get? b = some o)
    (slot : ∀ b o, b ≠ X.env.locals → b ∈ X.fs → b ∉ ch → s.heap.get? b = some o → H b = none → ∃ sl, h'.get? b = some { o with slots := sl }) (free : ∀ b o, b ∉ ch → s.heap.get? b = some o → H b = none → H' b = none)
    (there : ∀ b o, b ∉ ch → s.heap.get? b = some o → ∃ o', h'.get? b = some o')
    (tups : ∀ b xs, H b = some (.tup xs) → H' b = some (.tup xs)) (frzs : ∀ b o u, H b = some (.frz o u) → H' b = some (.frz o u)) (tbls : ∀ b ps, H b = some (.tbl ps) → ∃ more, H' b = some (.tbl (ps ++ more)))
    (ns : ∀ m, s.heap.Ns X.env.locals m → h'.Ns X.env.locals m) (hok : HOk X.prog X.w H' h') (hg : AllBare g') :
    Inv X pins σ H' { s with heap := h', gens := g', drawn := d', toks := t' } := by
  have neL : ∀ b o, X.s_0.heap.get? b = some o → b ≠ X.env.locals := fun b o e => Nat.ne_of_lt (Nat.lt_of_lt_of_le (Heap.lt_size e) I.ok.above)
  have neC : ∀ b o, X.s_0.heap.get? b = some o → b ∉ X.ex → b ∉ ch := fun b o e hx hb => by
    rcases (hch b hb).1 with z | z
    · exact hx z
    · exact absurd (Nat.lt_of_lt_of_le (Heap.lt_size e) z) (Nat.lt_irrefl _)
  have cellK : ∀ x c, X.env.cells.lookup x = some c → ∀ v, s.heap.IsCell c v → h'.IsCell c v := fun x c e v ⟨o, ho, hd⟩ => by
    have nch : c ∉ ch := fun z => (hch c z).2.2.1 x c e rfl
    by_cases hc : c ∈ X.fs
    · obtain ⟨sl, q⟩ := slot c o (I.cne x c e) hc nch ho (I.freeC x c e)
      exact ⟨_, q, hd⟩
    · exact ⟨o, keep c o (I.cne x c e) hc nch ho (I.freeC x c e), hd⟩
  refine ⟨I.ok, I.os, hg, ⟨fun b o e n hb hx => ?_, fun b o e n hb hx => ?_, fun b o e n hx => ?_, fun b o e hx => ?_, fun b xs e => tups b xs (I.base.tups b xs e), fun b o xs e => frzs b o xs (I.base.frzs b o xs e), fun b ps e => ?_⟩, ?_, fun x c e => ?_, ?_, fun x c e => ?_, fun p hp => ?_, hok, I.len⟩
  · exact keep b o (neL b o e) hb (neC b o e hx) (I.base.keep b o e n hb hx) (I.base.free b o e n hx)
  · obtain ⟨sl, e1⟩ := I.base.slot b o e n hb hx
    obtain ⟨sl', e2⟩ := slot b _ (neL b o e) hb (neC b o e hx) e1 (I.base.free b o e n hx)
    exact ⟨sl', e2⟩
  · obtain ⟨o', e1⟩ := I.base.there b o e hx
    exact free b o' (neC b o e hx) e1 (I.base.free b o e n hx)
  · obtain ⟨o', e1⟩ := I.base.there b o e hx
    exact there b o' (neC b o e hx) e1
  · obtain ⟨m1, e1⟩ := I.base.tbls b ps e
    obtain ⟨m2, e2⟩ := tbls b _ e1
    exact ⟨m1 ++ m2, by rw [e2, Array.append_assoc]⟩
  · obtain ⟨m, hn, hl⟩ := I.loc
    refine ⟨m, ns m hn, fun i x v e1 e2 e3 => ?_⟩
    obtain ⟨u, r, l⟩ := hl i x v e1 e2 e3
    refine ⟨u, r, ?_⟩
    rcases l with l | ⟨k, c, e, z⟩
    · exact .inl l
    · exact .inr ⟨k, c, e, cellK x c e _ z⟩
  · obtain ⟨v, z⟩ := I.cell x c e
    exact ⟨v, cellK x c e v z⟩
  · obtain ⟨m, ⟨o, _, _, ho, _⟩, _⟩ := I.loc
    exact free _ o (fun z => (hch _ z).2.1 rfl) ho I.free
  · obtain ⟨v, o, ho, hd⟩ := I.cell x c e
    exact free c o (fun z => (hch c z).2.2.1 x c e rfl) ho (I.freeC x c e)
  · obtain ⟨e, n, ne, nf, d⟩ := I.pin p hp
    have nch : p.1 ∉ ch := fun z => (hch p.1 z).2.2.2 p hp rfl
    exact ⟨keep p.1 p.2 ne nf nch e n, free p.1 p.2 nch e n, ne, nf, d⟩
theorem Inv.un {t' : Nat} (I : Inv X pins σ H s) (u : Un X.fs [] H H' s.heap h') (hok : HOk X.prog X.w H' h') : Inv X pins σ H' { s with heap := h', toks := t' } := by
  obtain ⟨m, ⟨o, es, ep, ho, r⟩, _⟩ := id I.loc
  obtain ⟨sl, hL⟩ := u.any ho I.free (by simp)
  exact I.step (g' := s.gens) (d' := s.drawn) (ch := []) (fun _ z => nomatch z) (fun b o _ hb _ e n => u.keep b o e n hb (by simp)) (fun b o _ hb _ e n => u.slot b o e n hb (by simp)) (fun b o _ e n => u.free b o e n (by simp)) (fun b o _ e => u.there b o e (by simp)) u.tups u.frzs u.tbls (fun m' hm => by
    obtain ⟨o', es', ep', ho', r'⟩ := hm
    rw [ho] at ho'; cases ho'
    exact ⟨_, es', ep', hL, r'⟩) hok I.bare
theorem Inv.call {g' : Array GenState} {t' : Nat} {d' : Drawn} {ch : List Addr} (I : Inv X pins σ H s) (u : Un (frs X.stack) ch H H' s.heap h') (hok : HOk X.prog X.w H' h') (hg : AllBare g')
    (hch : ∀ b ∈ ch, (b ∈ X.ex ∨ X.s_0.heap.objs.size ≤ b) ∧ b ≠ X.env.locals ∧ (∀ x c, X.env.cells.lookup x = some c → c ≠ b) ∧ ∀ p ∈ X.pn ++ pins, p.1 ≠ b) :
    Inv X pins σ H' { s with heap := h', gens := g', drawn := d', toks := t' } := by
  obtain ⟨m, ⟨o, es, ep, ho, r⟩, _⟩ := id I.loc
  obtain ⟨sl, hL⟩ := u.any ho I.free fun z => (hch _ z).2.1 rfl
  exact I.step (ch := ch) hch (fun b o hL hb hc e n => u.keep b o e n (fun z => (List.mem_cons.mp (I.stkSub b z)).elim hL hb) hc) (fun b o _ _ hc e n => u.any e n hc) (fun b o hc e n => u.free b o e n hc) (fun b o hc e => u.there b o e hc) u.tups u.frzs u.tbls (fun m' hm => by
    obtain ⟨o', es', ep', ho', r'⟩ := hm
    rw [ho] at ho'; cases ho'
    exact ⟨_, es', ep', hL, r'⟩) hok hg
theorem Inv.turned {t' : Nat} {it : Addr} (I : Inv X pins σ H s) (k : ∀ b o, b ≠ it → s.heap.get? b = some o → h'.get? b = some o) (hn : H it = none) (hL : it ≠ X.env.locals)
    (h1 : it ∈ X.ex ∨ X.s_0.heap.objs.size ≤ it) (h2 : ∀ x c, X.env.cells.lookup x = some c → c ≠ it) (h3 : ∀ p ∈ X.pn ++ pins, p.1 ≠ it) : Inv X pins σ H { s with heap := h', toks := t' } := by
  have nit : ∀ b u, H b = some u → b ≠ it := fun b u e z => by rw [z, hn] at e; cases e
  refine I.step (g' := s.gens) (d' := s.drawn) (ch := [it]) (fun b hb => ?_) (fun b o _ _ hc e _ => k b o (fun z => hc (by simp [z])) e) (fun b o _ _ hc e _ => ⟨o.slots, k b o (fun z => hc (by simp [z])) e⟩) (fun _ _ _ _ n => n)
    (fun b o hc e => ⟨o, k b o (fun z => hc (by simp [z])) e⟩) (fun _ _ e => e) (fun _ _ _ e => e) (fun b ps e => ⟨#[], by rw [e]; simp⟩) (fun m hm => ?_) (fun b u e => ?_) I.bare
  · have e : b = it := by simpa using hb
    subst e
    exact ⟨h1, hL, h2, h3⟩
  · obtain ⟨o, es, ep, ho, r⟩ := hm
    exact ⟨o, es, ep, k _ o (Ne.symm hL) ho, r⟩
  · refine (I.hok b u e).stay (fun c v hc q => k c v ?_ q) (fun _ q => q) fun _ _ q => q
    rcases hc with z | z
    · rw [z]; exact nit b u e
    · exact nit c _ z
theorem Inv.tok (I : Inv X pins σ H s) (t : Nat) : Inv X pins σ H { s with toks := t } := I.un (h' := s.heap) (t' := t) Un.refl I.hok
theorem Inv.kept {t' : Nat} (I : Inv X pins σ H s) (k : ∀ b u, s.heap.get? b = some u → h'.get? b = some u) : Inv X pins σ H { s with heap := h', toks := t' } := I.un (Un.kept k) (I.hok.kept k)
theorem Inv.laid {a : Addr} {o : HO} {t' : Nat} (I : Inv X pins σ H s) (k : ∀ b u, s.heap.get? b = some u → h'.get? b = some u) (hp : s.heap.objs.size ≤ a) (new : ObjOk X.prog X.w (upd H a o) h' a o) :
    Inv X pins σ (upd H a o) { s with heap := h', toks := t' } := I.un (Un.laid k hp (I.hok.fresh hp)) (I.hok.laid k hp new)
theorem Inv.write {x e : Addr} {o : HO} {t' : Nat} (I : Inv X pins σ H s) (mu : Mut (H x)) (he : e = x ∨ H e = some (.own x)) (k : ∀ b u, b ≠ e → s.heap.get? b = some u → h'.get? b = some u) (heo : ∃ u, h'.get? e = some u)
    (new : ObjOk X.prog X.w (upd H x o) h' x o) : Inv X pins σ (upd H x o) { s with heap := h', toks := t' } := I.un (Un.write mu he k heo) (I.hok.write mu he k heo new)
theorem Inv.weak {σ' : List (Option V)} (I : Inv X pins σ H s) (hl : σ'.length = σ.length) (w : ∀ (i : Nat) v, σ'[i]? = some (some v) → σ[i]? = some (some v)) : Inv X pins σ' H s :=
  ⟨I.ok, I.os, I.bare, I.base, let ⟨m, hn, hl'⟩ := I.loc; ⟨m, hn, fun i x v e1 e2 e3 => hl' i x v e1 (w i v e2) e3⟩, I.cell, I.free, I.freeC, I.pin, I.hok, hl.trans I.len⟩
theorem Inv.pins_of {pins' : List (Addr × Obj)} (I : Inv X pins σ H s) (h : ∀ p ∈ pins', s.heap.get? p.1 = some p.2 ∧ H p.1 = none ∧ p.1 ≠ X.env.locals ∧ p.1 ∉ X.fs ∧ ∀ v, p.2.data ≠ .cell v) : Inv X pins' σ H s :=
  ⟨I.ok, I.os, I.bare, I.base, I.loc, I.cell, I.free, I.freeC, fun p hp => (List.mem_append.mp hp).elim (fun z => I.pin p (List.mem_append_left _ z)) (h p), I.hok, I.len⟩
theorem nodup_ix {N : List Str} (hN : N.Nodup) {i j : Nat} {x : Str} (a : N[i]? = some x) (b : N[j]? = some x) : i = j := by
  obtain ⟨h1, e1⟩ := List.getElem?_eq_some_iff.mp a
  obtain ⟨h2, e2⟩ := List.getElem?_eq_some_iff.mp b
  exact (List.getElem_inj hN).mp (e1.trans e2.symm)
theorem store_ok2 {M : Model} {A : Around} {E : Value → Shared → Prop} {i : Nat} {x : Str} {v : V} {u : Value} {Q : Unit → Shared → Prop} (I : Inv X pins σ H s) (hN : X.N.Nodup) (hi : X.N[i]? = some x) (hx : Loc X.env.scope x) (r : RelV v u)
    (h : ∀ s', Inv X pins (σ.set i (some v)) H s' → (∃ a, Heap.SameBut a s.heap s'.heap ∧ (a = X.env.locals ∨ X.env.cells.lookup x = some a)) → Q () s') (hf : X.fn x = true ∨ X.env.scope.names.lookup x = some .local := by first | exact .inl rfl | exact .inr rfl | assumption) : wpAny M A (storeName X.env x u) Q E s := by
  obtain ⟨m, hn, hl⟩ := id I.loc
  have hcls : (X.env.scope.kind == .class || (X.env.scope.kind == .module && X.env.locals != X.env.globals)) = false := by rw [I.ok.kind]; rfl
  have hiσ : i < σ.length := by rw [I.len]; exact (List.getElem?_eq_some_iff.mp hi).1
  have cne := I.cne
  have tracked : ∀ {a : Addr} {h' : Heap}, (∃ o, s.heap.get? a = some o ∧ H a = none) → Heap.SameBut a s.heap h' → HOk X.prog X.w H h' := fun {a h'} ha hs b ob e => by
    obtain ⟨_, _, hfree⟩ := ha
    refine (I.hok b ob e).stay (fun c w' hc q => (hs.2 c ?_).trans q) (fun _ q => q) fun _ _ q => q
    rintro rfl
    rcases hc with rfl | hc
    · rw [hfree] at e; cases e
    · rw [hfree] at hc; cases hc
  rcases hx with hk | hk
  · refine wpAny_storeName_local hk hn (fun h' hn' hs => ?_) hcls
    obtain ⟨oL, _, _, hoL, _⟩ := id hn
    refine h _ ⟨I.ok, I.os, I.bare, ⟨fun b o e n hb hx => ?_, fun b o e n hb hx => ?_, I.base.free, fun b o e hx => ?_, I.base.tups, I.base.frzs, I.base.tbls⟩, ⟨_, hn', fun j y v' e1 e2 e3 => ?_⟩, fun y c e => ?_, I.free, I.freeC, fun p hp => ?_, tracked ⟨oL, hoL, I.free⟩ hs, by simpa using I.len⟩ ⟨_, hs, .inl rfl⟩
    · exact (hs.2 b (Nat.ne_of_lt (Nat.lt_of_lt_of_le (Heap.lt_size e) I.ok.above))).trans (I.base.keep b o e n hb hx)
    · obtain ⟨sl, e1⟩ := I.base.slot b o e n hb hx
      exact ⟨sl, (hs.2 b (Nat.ne_of_lt (Nat.lt_of_lt_of_le (Heap.lt_size e) I.ok.above))).trans e1⟩
    · obtain ⟨o', e1⟩ := I.base.there b o e hx
      exact ⟨o', (hs.2 b (Nat.ne_of_lt (Nat.lt_of_lt_of_le (Heap.lt_size e) I.ok.above))).trans e1⟩
    · by_cases hj : j = i
      · subst hj
        rw [hi] at e1; cases e1
        rw [List.getElem?_set_self hiσ] at e2
        cases e2
        exact ⟨u, r, .inl ⟨hk, by simp⟩⟩
      · rw [List.getElem?_set_ne (Ne.symm hj)] at e2
        obtain ⟨u', r', q⟩ := hl j y v' e1 e2 e3
        refine ⟨u', r', ?_⟩
        rcases q with ⟨k, e⟩ | ⟨k, c, e, z⟩
        · refine .inl ⟨k, ?_⟩
          have : y ≠ x := fun e => hj (nodup_ix hN e1 (e ▸ hi))
          simp [this, e]
        · exact .inr ⟨k, c, e, z.sameBut hs (cne y c e)⟩
    · obtain ⟨w', z⟩ := I.cell y c e
      exact ⟨w', z.sameBut hs (cne y c e)⟩
    · obtain ⟨e, n, ne, nf, d⟩ := I.pin p hp
      exact ⟨(hs.2 p.1 ne).trans e, n, ne, nf, d⟩
  · have hfn : X.fn x = true := by
      rcases hf with z | z
      · exact z
      · rw [z] at hk; cases hk
    obtain ⟨c, hc⟩ := I.ok.has x (.inl hk)
    obtain ⟨w', z⟩ := I.cell x c hc
    refine wpAny_storeName_cell I.ok.kind hk hc z (fun h' hc' hs => ?_)
    obtain ⟨oc, hoc, hocd⟩ := id z
    refine h { s with heap := h' } ⟨I.ok, I.os, I.bare, ⟨fun b o e n hb hx => ?_, fun b o e n hb hx => ?_, I.base.free, fun b o e hx => ?_, I.base.tups, I.base.frzs, I.base.tbls⟩, ⟨m, hn.sameBut hs (Ne.symm (cne x c hc)), fun j y v' e1 e2 e3 => ?_⟩, fun y c' e => ?_, I.free, I.freeC, fun p hp => ?_, tracked ⟨oc, hoc, I.freeC x c hc⟩ hs, by simpa using I.len⟩ ⟨c, hs, .inr hc⟩
    · exact (hs.2 b (Nat.ne_of_lt (Nat.lt_of_lt_of_le (Heap.lt_size e) (I.ok.cab x c hfn hc)))).trans (I.base.keep b o e n hb hx)
    · obtain ⟨sl, e1⟩ := I.base.slot b o e n hb hx
      exact ⟨sl, (hs.2 b (Nat.ne_of_lt (Nat.lt_of_lt_of_le (Heap.lt_size e) (I.ok.cab x c hfn hc)))).trans e1⟩
    · obtain ⟨o', e1⟩ := I.base.there b o e hx
      exact ⟨o', (hs.2 b (Nat.ne_of_lt (Nat.lt_of_lt_of_le (Heap.lt_size e) (I.ok.cab x c hfn hc)))).trans e1⟩
    · by_cases hj : j = i
      · subst hj
        rw [hi] at e1; cases e1
        rw [List.getElem?_set_self hiσ] at e2
        cases e2
        exact ⟨u, r, .inr ⟨.inl hk, c, hc, hc'⟩⟩
      · rw [List.getElem?_set_ne (Ne.symm hj)] at e2
        obtain ⟨u', r', q⟩ := hl j y v' e1 e2 e3
        refine ⟨u', r', ?_⟩
        rcases q with q | ⟨k, c', e, z'⟩
        · exact .inl q
        · refine .inr ⟨k, c', e, z'.sameBut hs ?_⟩
          rintro rfl
          exact hj (nodup_ix hN e1 (I.ok.inj _ _ _ e hc ▸ hi))
    · by_cases hcc : c' = c
      · subst hcc; exact ⟨_, hc'⟩
      · obtain ⟨w2, z2⟩ := I.cell y c' e
        exact ⟨w2, z2.sameBut hs hcc⟩
    · obtain ⟨e, n, ne, nf, d⟩ := I.pin p hp
      refine ⟨(hs.2 p.1 ?_).trans e, n, ne, nf, d⟩
      intro q
      rw [q, hoc] at e
      have q' : oc = p.2 := Option.some.inj e
      exact d w' (by rw [← q']; exact hocd)
theorem store_ok {M : Model} {A : Around} {E : Value → Shared → Prop} {i : Nat} {x : Str} {v : V} {u : Value} {Q : Unit → Shared → Prop} (I : Inv X pins σ H s) (hN : X.N.Nodup) (hi : X.N[i]? = some x) (hx : Loc X.env.scope x) (r : RelV v u)
    (h : ∀ s', Inv X pins (σ.set i (some v)) H s' → Q () s') (hf : X.fn x = true ∨ X.env.scope.names.lookup x = some .local := by first | exact .inl rfl | exact .inr rfl | assumption) : wpAny M A (storeName X.env x u) Q E s :=
  store_ok2 I hN hi hx r (fun s' I' _ => h s' I') hf
theorem Inv.call' {s' : Shared} {ch : List Addr} (I : Inv X pins σ H s) (ho : s'.os = s.os) (u : Un (frs X.stack) ch H H' s.heap s'.heap) (hok : HOk X.prog X.w H' s'.heap) (hg : AllBare s'.gens)
    (hch : ∀ b ∈ ch, (b ∈ X.ex ∨ X.s_0.heap.objs.size ≤ b) ∧ b ≠ X.env.locals ∧ (∀ x c, X.env.cells.lookup x = some c → c ≠ b) ∧ ∀ p ∈ X.pn ++ pins, p.1 ≠ b) : Inv X pins σ H' s' := by
  obtain ⟨h', g', d', t', o'⟩ := s'
  have e : o' = s.os := ho
  subst e
  exact I.call (g' := g') (t' := t') (d' := d') u hok hg hch
end
abbrev XK := Value → Option Addr → Hp → Prop
abbrev St := List (Option V)
abbrev VK := V → Hp → Prop
abbrev TE := St → Hp → VK → Prop
abbrev TT := St → Hp → (Bool → Hp → Prop) → Prop
abbrev TA := St → Hp → (List V → Hp → Prop) → Prop
structure Ends where
  nx : St → Hp → Prop
  rt : VK
  bk : St → Hp → Prop := fun _ _ => False
  ct : St → Hp → Prop := fun _ _ => False
abbrev TS := Ends → St → Hp → Prop
def EP (X : Cx) (pins : List (Addr × Obj)) (σ : St) (Q : VK) (u : Value) (s' : Shared) : Prop := ∃ v H', Inv X pins σ H' s' ∧ RelV v u ∧ Q v H'
def TP (X : Cx) (pins : List (Addr × Obj)) (σ : St) (Q : Bool → Hp → Prop) (b : Bool) (s' : Shared) : Prop := ∃ H', Inv X pins σ H' s' ∧ Q b H'
def AP (X : Cx) (pins : List (Addr × Obj)) (σ : St) (Q : List V → Hp → Prop) (us : List Value) (s' : Shared) : Prop := ∃ vs H', Inv X pins σ H' s' ∧ Vals vs us ∧ Q vs H'
def SP (X : Cx) (pins : List (Addr × Obj)) (D : Ends) (f : Flow) (s' : Shared) : Prop :=
  match f with
  | .next => ∃ σ' H', Inv X pins σ' H' s' ∧ D.nx σ' H'
  | .brk => ∃ σ' H', Inv X pins σ' H' s' ∧ D.bk σ' H'
  | .cont => ∃ σ' H', Inv X pins σ' H' s' ∧ D.ct σ' H'
  | .ret u => ∃ v σ' H', Inv X pins σ' H' s' ∧ RelV v u ∧ D.rt v H'
def PE (X : Cx) (e : Expr) (t : TE) : Prop :=
  ∀ (pins : List (Addr × Obj)) (s : Shared) (σ : St) (H : Hp) (Q : VK), Inv X pins σ H s → t σ H Q → wpAny (model X.prog X.w) X.A (eval e X.env) (EP X pins σ Q) X.xe s
def PT (X : Cx) (e : Expr) (t : TT) : Prop :=
  ∀ (pins : List (Addr × Obj)) (s : Shared) (σ : St) (H : Hp) (Q : Bool → Hp → Prop), Inv X pins σ H s → t σ H Q → wpAny (model X.prog X.w) X.A (isTrue e X.env (eval e X.env)) (TP X pins σ Q) X.xe s
def PW (X : Cx) (e : Expr) (t : TT) : Prop :=
  ∀ (whole : Sem Value) (pins : List (Addr × Obj)) (s : Shared) (σ : St) (H : Hp) (Q : Bool → Hp → Prop), Inv X pins σ H s → t σ H Q → wpAny (model X.prog X.w) X.A (isTrue e X.env whole) (TP X pins σ Q) X.xe s
theorem PW.pt {X : Cx} {e : Expr} {t : TT} (h : PW X e t) : PT X e t := h _
def PA (X : Cx) (es : List Expr) (t : TA) : Prop :=
  ∀ (pos : Pos) (pins : List (Addr × Obj)) (s : Shared) (σ : St) (H : Hp) (Q : List V → Hp → Prop), Inv X pins σ H s → t σ H Q → wpAny (model X.prog X.w) X.A (spliced (backTo pos (starEach es X.env))) (AP X pins σ Q) X.xe s
def PS (X : Cx) (st : Stmt) (t : TS) : Prop :=
  ∀ (pins : List (Addr × Obj)) (s : Shared) (σ : St) (H : Hp) (D : Ends), Inv X pins σ H s → t D σ H → wpAny (model X.prog X.w) X.A (exec st X.env) (SP X pins D) X.xe s
def PSs (X : Cx) (st : List Stmt) (t : TS) : Prop :=
  ∀ (pins : List (Addr × Obj)) (s : Shared) (σ : St) (H : Hp) (D : Ends), Inv X pins σ H s → t D σ H → wpAny (model X.prog X.w) X.A (execs st X.env) (SP X pins D) X.xe s
theorem thn {α : Type} {t : Sem α} {Q Q' : α → Shared → Prop} {M : Model} {A : Around} {E : Value → Shared → Prop} {s : Shared} (h : wpAny M A t Q E s) (hQ : ∀ a s, Q a s → Q' a s) : wpAny M A t Q' E s := wpAny_mono h hQ fun _ _ x => x
end L2
namespace L2
open PySem PySem.Spec PyProof.Rows
section
variable {X : Cx}
theorem bin {a b : Expr} {ta tb : TE} (ha : PE X a ta) (hb : PE X b tb) {pins : List (Addr × Obj)} {s : Shared} {σ : St} {H : Hp} {R : V → V → Hp → Prop} (I : Inv X pins σ H s) (h : ta σ H fun x H1 => tb σ H1 fun y H2 => R x y H2)
    {α : Type} {Q : α → Shared → Prop} {f : Value → Value → Sem α}
    (hf : ∀ v u s2 x y H2, Inv X pins σ H2 s2 → RelV x v → RelV y u → R x y H2 → wpAny (model X.prog X.w) X.A (f v u) Q X.xe s2) :
    wpAny (model X.prog X.w) X.A (eval a X.env) (fun v s₁ => wpAny (model X.prog X.w) X.A (eval b X.env) (fun u s₂ => wpAny (model X.prog X.w) X.A (f v u) Q X.xe s₂) X.xe s₁) X.xe s := by
  refine thn (ha pins s σ H _ I h) fun v s1 ⟨x, H1, I1, r1, q1⟩ => ?_
  refine thn (hb pins s1 σ H1 _ I1 q1) fun u s2 ⟨y, H2, I2, r2, q2⟩ => ?_
  exact hf v u s2 x y H2 I2 r1 r2 q2
def tVar (i : Nat) : TE := fun σ H Q => ∃ v, σ[i]? = some (some v) ∧ Q v H
def tC (v : V) : TE := fun _ H Q => Q v H
theorem pe_var {i : Nat} {x : Str} {pos : Pos} (hN : X.N[i]? = some x) (hv : Vis X.env.scope x) (hd : (x == ("__debug__" : Str)) = false := by decide) (hcd : (x == ("__classdict__" : Str)) = false := by decide) : PE X (.Name x pos) (tVar i) := by
  intro pins s σ H Q I h
  obtain ⟨v, e, h⟩ := h
  obtain ⟨m, hn, hl⟩ := I.loc
  obtain ⟨u, r, l⟩ := hl i x v hN e hv
  have fin : EP X pins σ Q u s := ⟨v, H, I, r, h⟩
  rcases l with ⟨hk, hm⟩ | ⟨hk, c, hc, hcell⟩
  · exact wpAny_Name (wpAny_loadName_local I.ok.kind hk hn hm fin) hd
  · rcases hk with hk | hk
    · exact wpAny_Name (wpAny_loadName_cell I.ok.kind hk hc hcell fin) hd
    · exact wpAny_Name (wpAny_loadName_free I.ok.kind hk hc hcell fin hcd) hd
theorem pe_int {i j pos} : PE X (.Constant (.int i) j pos) (tC (.int i)) := fun _ _ _ H _ I h => wpAny_Constant_int ⟨.int i, H, I.tok _, ⟨_, rfl⟩, h⟩
theorem pe_bl {b j pos} : PE X (.Constant (.bool b) j pos) (tC (.bl b)) := fun _ _ _ H _ I h => Constant_bool ⟨.bl b, H, I, rfl, h⟩
theorem pe_non {j pos} : PE X (.Constant .none j pos) (tC .non) := fun _ _ _ H _ I h => Constant_none ⟨.non, H, I, rfl, h⟩
def Gl (X : Cx) (x : Str) : Prop := X.env.kindOf x = some .globalImplicit
theorem ld_glob {E : Value → Shared → Prop} {pins : List (Addr × Obj)} {s : Shared} {σ : St} {H : Hp} {x : Str} {u : Value} {pos : Pos} {Q : Value → Shared → Prop} (I : Inv X pins σ H s) (hg : Gl X x) (hm : X.mg x = some u) (h : Q u s)
    (hd : (x == ("__debug__" : Str)) = false := by decide) : wpAny (model X.prog X.w) X.A (eval (.Name x pos) X.env) Q E s :=
  Calls.Name_function_global I.ok.kind hg (Calls.loadGlobal_global (by rw [I.ok.glob]; exact I.mod.glob.keeps I.bk) hm h) hd
theorem ld_blt {E : Value → Shared → Prop} {pins : List (Addr × Obj)} {s : Shared} {σ : St} {H : Hp} {x : Str} {u : Value} {pos : Pos} {Q : Value → Shared → Prop} (I : Inv X pins σ H s) (hg : Gl X x) (hm : X.mg x = none) (hv : bootBuiltins x = some u) (h : Q u s)
    (hn : x ≠ "__name__" := by decide) (hd : (x == ("__debug__" : Str)) = false := by decide) : wpAny (model X.prog X.w) X.A (eval (.Name x pos) X.env) Q E s := by
  obtain ⟨mb, h1, h2⟩ := I.mod.blt
  exact Calls.Name_function_global I.ok.kind hg (Calls.loadGlobal_builtin (by rw [I.ok.glob]; exact I.mod.glob.keeps I.bk) hm (by rw [I.ok.blt]; exact h1.keeps I.bk) ((h2 x hn).trans hv) h) hd
theorem pe_glob {x : Str} {v : V} {u : Value} {pos : Pos} (hg : Gl X x) (hm : X.mg x = some u) (r : RelV v u) (hd : (x == ("__debug__" : Str)) = false := by decide) : PE X (.Name x pos) (tC v) :=
  fun _ _ _ H _ I h => ld_glob I hg hm ⟨v, H, I, r, h⟩ hd
variable {a b : Expr} {ta tb : TE} {pos : Pos}
def PC (X : Cx) (op : CmpOp) (a b : Expr) (t : TE) : Prop :=
  ∀ (pins : List (Addr × Obj)) (s : Shared) (σ : St) (H : Hp) (Q : VK), Inv X pins σ H s → t σ H Q →
    wpAny (model X.prog X.w) X.A (eval a X.env) (fun v s₁ => wpAny (model X.prog X.w) X.A (eval b X.env) (fun u s₂ => wpAny (model X.prog X.w) X.A (compareOp op v u) (EP X pins σ Q) X.xe s₂) X.xe s₁) X.xe s
def tB (t : TE) : TT := fun σ H Q => t σ H fun x H1 => ∃ c, x = .bl c ∧ Q c H1
theorem pt_cmp {op : CmpOp} {t : TE} (h : PC X op a b t) (h1 : behindInMarks op b = false := by first | exact nobehind _ (by decide) (by decide) | rfl) : PT X (.Compare a [op] [b] pos) (tB t) := by
  intro pins s σ H Q I hw
  refine wpAny_isTrue_Compare1 (thn (h pins s σ H _ I hw) fun v s1 h1 => thn h1 fun u s2 h2 => thn h2 fun c s3 ⟨x, H1, I1, r1, q1⟩ => ?_) h1
  obtain ⟨d, rfl, q⟩ := q1
  cases r1
  exact wpAny_truthy_bool ⟨H1, I1, q⟩
theorem pt_val {e : Expr} {t : TE} (h : PE X e t) (he : ∀ whole, isTrue e X.env whole = (do let v ← whole; standAt e.pos; holding [v] (truthy v)) := by intro _; rfl) : PT X e (tB t) := by
  intro pins s σ H Q I hw
  refine isTrue_plain (thn (h pins s σ H _ I hw) fun v s1 ⟨x, H1, I1, r1, q1⟩ => ?_) (he _)
  obtain ⟨d, rfl, q⟩ := q1
  cases r1
  exact wpAny_truthy_bool ⟨H1, I1, q⟩
variable {tA tB' : TT} {rest : List Expr}
def tAnd (t u : TT) : TT := fun σ H Q => t σ H fun c H1 => if c = true then u σ H1 Q else Q false H1
def tOr (t u : TT) : TT := fun σ H Q => t σ H fun c H1 => if c = true then Q true H1 else u σ H1 Q
def tNot (t : TT) : TT := fun σ H Q => t σ H fun c H1 => Q (!c) H1
theorem pw_and1 (ha : PT X a tA) : PW X (.BoolOp .And [a] pos) tA := by
  intro wh pins s σ H Q I h
  refine isTrue_and (thn (ha pins s σ H Q I h) fun c s1 e => ?_)
  cases c with
  | true => exact isTrue_and_nil e
  | false => exact e
theorem pw_or1 (ha : PT X a tA) : PW X (.BoolOp .Or [a] pos) tA := by
  intro wh pins s σ H Q I h
  refine isTrue_or (thn (ha pins s σ H Q I h) fun c s1 e => ?_)
  cases c with
  | false => exact isTrue_or_nil e
  | true => exact e
theorem pw_and (ha : PT X a tA) (hb : PW X (.BoolOp .And (b :: rest) pos) tB') : PW X (.BoolOp .And (a :: b :: rest) pos) (tAnd tA tB') := by
  intro wh pins s σ H Q I h
  refine isTrue_and (thn (ha pins s σ H _ I h) fun c s1 ⟨H1, I1, q1⟩ => ?_)
  cases c with
  | true => exact hb wh pins s1 σ H1 Q I1 q1
  | false => exact ⟨H1, I1, q1⟩
theorem pw_or (ha : PT X a tA) (hb : PW X (.BoolOp .Or (b :: rest) pos) tB') : PW X (.BoolOp .Or (a :: b :: rest) pos) (tOr tA tB') := by
  intro wh pins s σ H Q I h
  refine isTrue_or (thn (ha pins s σ H _ I h) fun c s1 ⟨H1, I1, q1⟩ => ?_)
  cases c with
  | true => exact ⟨H1, I1, q1⟩
  | false => exact hb wh pins s1 σ H1 Q I1 q1
theorem pt_not (ha : PT X a tA) : PT X (.UnaryOp .Not a pos) (tNot tA) := by
  intro pins s σ H Q I h
  exact isTrue_not (ha pins s σ H (fun c H1 => Q (!c) H1) I h)
def tAndV (ta tb : TE) : TE := fun σ H Q => ta σ H fun x H1 => ∃ c, x = .bl c ∧ if c = true then tb σ H1 Q else Q (.bl false) H1
theorem pe_one {op} {t : TE} (h : PE X a t) : PE X (.BoolOp op [a] pos) t := fun pins s σ H Q I hw => BoolOp_one (h pins s σ H Q I hw)
theorem pe_and (ha : PE X a ta) (hb : PE X (.BoolOp .And (b :: rest) pos) tb) : PE X (.BoolOp .And (a :: b :: rest) pos) (tAndV ta tb) := by
  intro pins s σ H Q I h
  refine BoolOp_and (thn (ha pins s σ H _ I h) fun v s1 ⟨x, H1, I1, r1, q1⟩ => ?_)
  obtain ⟨c, rfl, q1⟩ := q1
  cases r1
  refine wpAny_truthy_bool ?_
  cases c with
  | true => exact hb pins s1 σ H1 Q I1 q1
  | false => exact ⟨.bl false, H1, I1, rfl, q1⟩
def tIf (t : TT) (ta tb : TE) : TE := fun σ H Q => t σ H fun c H1 => if c = true then ta σ H1 Q else tb σ H1 Q
theorem pe_ifExp {c : Expr} (hc : PT X c tA) (ha : PE X a ta) (hb : PE X b tb) : PE X (.IfExp c a b pos) (tIf tA ta tb) := by
  intro pins s σ H Q I h
  refine wpAny_IfExp (thn (hc pins s σ H _ I h) fun d s1 ⟨H1, I1, q1⟩ => ?_)
  cases d with
  | true => exact ha pins s1 σ H1 Q I1 q1
  | false => exact hb pins s1 σ H1 Q I1 q1
end
end L2
namespace L2
open PySem PySem.Spec PyProof.Rows
def SqL (K : PySem.W.Frag) (H : Hp) (a : Addr) (xs : List V) : Prop :=
  Rd H a (.lst xs) ∨
    ∃ (o : Obj) (its : Array Value) (n : Nat), K.lookup a = some o ∧ o.cls = .type "list" ∧ o.dict = none ∧ o.data = .seq its n ∧ its.size ≤ sizeLine ∧ Vals xs its.toList
def SqT (K : PySem.W.Frag) (H : Hp) (a : Addr) (xs : List V) : Prop :=
  Rd H a (.tup xs) ∨
    ∃ (o : Obj) (its : Array Value) (n : Nat), K.lookup a = some o ∧ o.cls = .type "tuple" ∧ o.data = .seq its n ∧ its.size ≤ sizeLine ∧ Vals xs its.toList
def absV : Value → Option V
  | .none => some .non
  | .bool b => some (.bl b)
  | .int i _ => some (.int i)
  | .str x _ => some (.str x)
  | .bytes b _ => some (.byt b)
  | .float b _ => some (.flt b)
  | .ref a => some (.ref a)
  | .type n => some (.ty n)
  | _ => none
theorem RelV.abs {x : V} {u : Value} (r : RelV x u) : absV u = some x := by
  cases x with
  | non => cases r; rfl
  | bl _ => cases r; rfl
  | int _ => obtain ⟨t, rfl⟩ := r; rfl
  | str _ => obtain ⟨t, rfl⟩ := r; rfl
  | byt _ => obtain ⟨t, rfl⟩ := r; rfl
  | flt _ => obtain ⟨t, rfl⟩ := r; rfl
  | ref _ => cases r; rfl
  | ty _ => cases r; rfl
theorem RelV.inj {x y : V} {u : Value} (r : RelV x u) (q : RelV y u) : x = y := Option.some.inj (r.abs.symm.trans q.abs)
theorem Vals.inj : ∀ {xs ys : List V} {us : List Value}, Vals xs us → Vals ys us → xs = ys
  | _, _, _, .nil, .nil => rfl
  | _, _, _, .cons r t, .cons r' t' => by rw [r.inj r', Vals.inj t t']
section
variable {X : Cx} {pins : List (Addr × Obj)} {σ : St} {H : Hp} {s : Shared} {a : Addr} {xs ys : List V}
theorem SqL.of {K : PySem.W.Frag} (h : H a = some (.lst xs)) : SqL K H a xs := .inl (.inl h)
theorem SqT.of {K : PySem.W.Frag} (h : H a = some (.tup xs)) : SqT K H a xs := .inl (.inl h)
theorem Inv.list (I : Inv X pins σ H s) (h : SqL X.K H a xs) : ∃ its : List Value, Vals xs its ∧ PlainL s.heap a its.toArray ∧ xs.length ≤ sizeLine := by
  rcases h with h | ⟨o, its, n, hk, hc, hd, hs, hz, r⟩
  · obtain ⟨z, its, n, r, e⟩ := h.ok I.hok
    exact ⟨its, r, ⟨_, n, e, rfl, rfl, rfl⟩, z⟩
  · refine ⟨its.toList, r, ⟨o, n, I.kIn a o hk, hc, hd, by simpa using hs⟩, ?_⟩
    have e := r.length
    simp only [Array.length_toList] at e
    omega
theorem Inv.tuple (I : Inv X pins σ H s) (h : SqT X.K H a xs) : ∃ its : List Value, Vals xs its ∧ IsTup s.heap a its.toArray ∧ xs.length ≤ sizeLine := by
  rcases h with h | ⟨o, its, n, hk, hc, hs, hz, r⟩
  · obtain ⟨z, its, r, p⟩ := h.ok I.hok
    exact ⟨its, r, p, z⟩
  · refine ⟨its.toList, r, ⟨o, I.kIn a o hk, hc, n, by simpa using hs⟩, ?_⟩
    have e := r.length
    simp only [Array.length_toList] at e
    omega
theorem Inv.list_inj (I : Inv X pins σ H s) (h : SqL X.K H a xs) (h' : SqL X.K H a ys) : xs = ys := by
  obtain ⟨its, r, ⟨o, n, e, _, _, d⟩, _⟩ := I.list h
  obtain ⟨its', r', ⟨o', n', e', _, _, d'⟩, _⟩ := I.list h'
  rw [e] at e'; cases e'
  rw [d] at d'
  injection d' with d1 _
  have : its = its' := by simpa using congrArg Array.toList d1
  subst this
  exact r.inj r'
theorem Inv.tuple_inj (I : Inv X pins σ H s) (h : SqT X.K H a xs) (h' : SqT X.K H a ys) : xs = ys := by
  obtain ⟨its, r, ⟨o, e, _, n, d⟩, _⟩ := I.tuple h
  obtain ⟨its', r', ⟨o', e', _, n', d'⟩, _⟩ := I.tuple h'
  rw [e] at e'; cases e'
  rw [d] at d'
  injection d' with d1 _
  have : its = its' := by simpa using congrArg Array.toList d1
  subst this
  exact r.inj r'
end
abbrev Cx.wish (X : Cx) (E : Value → Shared → Prop) : Cx := { X with xe := E }
abbrev Cx.nox (X : Cx) : Cx := X.wish fun _ _ => False
theorem Cx.Ok.wish {X : Cx} (ok : X.Ok) (E : Value → Shared → Prop) : (X.wish E).Ok :=
  ⟨ok.mod, ok.kind, ok.glob, ok.blt, ok.above, ok.inj, ok.has, ok.cab, ok.hd, ok.frames, ok.stk, ok.exf, ok.bs, ok.bsz, ok.noex, ok.exfs, ok.funs, ok.frf⟩
theorem Cx.Ok.unwish {X : Cx} {E : Value → Shared → Prop} (ok : (X.wish E).Ok) : X.Ok :=
  ⟨ok.mod, ok.kind, ok.glob, ok.blt, ok.above, ok.inj, ok.has, ok.cab, ok.hd, ok.frames, ok.stk, ok.exf, ok.bs, ok.bsz, ok.noex, ok.exfs, ok.funs, ok.frf⟩
section
variable {X : Cx} {pins : List (Addr × Obj)} {σ : St} {H : Hp} {s : Shared} {E : Value → Shared → Prop}
theorem Inv.wish (I : Inv X pins σ H s) (E : Value → Shared → Prop) : Inv (X.wish E) pins σ H s := ⟨I.ok.wish E, I.os, I.bare, I.base, I.loc, I.cell, I.free, I.freeC, I.pin, I.hok, I.len⟩
theorem Inv.unwish (I : Inv (X.wish E) pins σ H s) : Inv X pins σ H s := ⟨I.ok.unwish, I.os, I.bare, I.base, I.loc, I.cell, I.free, I.freeC, I.pin, I.hok, I.len⟩
theorem SP.unwish {D : Ends} {f : Flow} {s' : Shared} (h : SP (X.wish E) pins D f s') : SP X pins D f s' := by
  cases f with
  | next => obtain ⟨σ', H', I, q⟩ := h; exact ⟨σ', H', I.unwish, q⟩
  | brk => obtain ⟨σ', H', I, q⟩ := h; exact ⟨σ', H', I.unwish, q⟩
  | cont => obtain ⟨σ', H', I, q⟩ := h; exact ⟨σ', H', I.unwish, q⟩
  | ret u => obtain ⟨v, σ', H', I, r, q⟩ := h; exact ⟨v, σ', H', I.unwish, r, q⟩
theorem PSs.nox {st : List Stmt} {t : TS} (h : PSs X.nox st t) : PSs X st t := fun pins s σ H D I hw =>
  wpAny_mono (h pins s σ H D (I.wish _) hw) (fun _ _ q => q.unwish) fun _ _ z => False.elim z
end
section
variable {X : Cx} {st : Stmt} {rest : List Stmt} {t u : TS} {e : Expr} {te : TE} {pos : Pos}
def tNext : TS := fun D σ H => D.nx σ H
def tSeq (t u : TS) : TS := fun D σ H => t { D with nx := u D } σ H
theorem pss_nil : PSs X [] tNext := fun _ _ σ H _ I h => wpAny_execs_nil ⟨σ, H, I, h⟩
theorem pss_cons (h1 : PS X st t) (h2 : PSs X rest u) : PSs X (st :: rest) (tSeq t u) := by
  intro pins s σ H D I h
  refine wpAny_execs_cons (thn (h1 pins s σ H { D with nx := u D } I h) fun f s1 q => ?_)
  cases f with
  | next =>
    obtain ⟨σ', H', I', q⟩ := q
    exact h2 pins s1 σ' H' D I' q
  | ret v => exact q
  | brk => exact q
  | cont => exact q
theorem pss_one (h1 : PS X st t) : PSs X [st] t := by
  intro pins s σ H D I h
  refine wpAny_execs_cons (thn (h1 pins s σ H D I h) fun f s1 q => ?_)
  cases f with
  | next => exact wpAny_execs_nil q
  | ret v => exact q
  | brk => exact q
  | cont => exact q
theorem Inv.quiet {pins : List (Addr × Obj)} {σ : St} {H : Hp} {s : Shared} (I : Inv X pins σ H s) : interactive X.env = false := by simp [interactive, I.ok.kind]
def tDrop (te : TE) : TS := fun D σ H => te σ H fun _ H1 => D.nx σ H1
theorem ps_expr (he : PE X e te) (hs : swapsWith e none pos.line X.env = pure false := by rfl) : PS X (.Expr e pos) (tDrop te) := by
  intro pins s σ H D I h
  exact wpAny_Expr_any (thn (he pins s σ H _ I h) fun v s1 ⟨x, H1, I1, r1, q1⟩ => ⟨σ, H1, I1, q1⟩) I.quiet hs
def tRet (te : TE) : TS := fun D σ H => te σ H D.rt
theorem ps_ret (he : PE X e te) : PS X (.Return (some e) pos) (tRet te) := by
  intro pins s σ H D I h
  exact wpAny_Return_some (thn (he pins s σ H _ I h) fun v s1 ⟨x, H1, I1, r1, q1⟩ => ⟨x, σ, H1, I1, r1, q1⟩)
def tIfS (c : TT) (t u : TS) : TS := fun D σ H => c σ H fun b H1 => if b = true then t D σ H1 else u D σ H1
theorem ps_if {c : Expr} {a b : List Stmt} {tc : TT} (hc : PT X c tc) (ha : PSs X a t) (hb : PSs X b u) : PS X (.If c a b pos) (tIfS tc t u) := by
  intro pins s σ H D I h
  refine wpAny_If (thn (hc pins s σ H _ I h) fun d s1 ⟨H1, I1, q1⟩ => ?_)
  cases d with
  | true => exact ha pins s1 σ H1 D I1 q1
  | false => exact hb pins s1 σ H1 D I1 q1
def tNever : TS := fun _ _ _ => False
theorem ps_never : PS X st tNever := fun _ _ _ _ _ _ h => h.elim
end
abbrev TG := V → St → Hp → (St → Hp → Prop) → Prop
abbrev TGs := List V → St → Hp → (St → Hp → Prop) → Prop
def PG (X : Cx) (target : Expr) (t : TG) : Prop :=
  ∀ (pins : List (Addr × Obj)) (s : Shared) (σ : St) (H : Hp) (v : V) (u : Value) (Q : St → Hp → Prop), Inv X pins σ H s → RelV v u → t v σ H Q →
    wpAny (model X.prog X.w) X.A (assign target X.env u) (fun _ s' => ∃ σ' H', Inv X pins σ' H' s' ∧ Q σ' H') X.xe s
def PGs (X : Cx) (ts : List Expr) (t : TGs) : Prop :=
  ∀ (pins : List (Addr × Obj)) (s : Shared) (σ : St) (H : Hp) (vs : List V) (us : List Value) (Q : St → Hp → Prop), Inv X pins σ H s → Vals vs us → t vs σ H Q →
    wpAny (model X.prog X.w) X.A (assignInOrder ((assignEach ts X.env).map (·.2)) us) (fun _ s' => ∃ σ' H', Inv X pins σ' H' s' ∧ Q σ' H') X.xe s
abbrev TIp := V → V → Hp → VK → Prop
def PIp (X : Cx) (op : Operator) (t : TIp) : Prop :=
  ∀ (pins : List (Addr × Obj)) (s : Shared) (σ : St) (H : Hp) (x y : V) (v u : Value) (Q : VK), Inv X pins σ H s → RelV x v → RelV y u → t x y H Q →
    wpAny (model X.prog X.w) X.A (inplaceOp op v u) (EP X pins σ Q) X.xe s
section
variable {X : Cx} {pos : Pos}
def gName (i : Nat) : TG := fun v σ H Q => Q (σ.set i (some v)) H
theorem pg_name {i : Nat} {x : Str} (hN : X.N.Nodup) (hi : X.N[i]? = some x) (hx : Loc X.env.scope x) (hf : X.fn x = true ∨ X.env.scope.names.lookup x = some .local := by first | exact .inl rfl | exact .inr rfl | assumption) : PG X (.Name x pos) (gName i) := by
  intro pins s σ H v u Q I r h
  exact wpAny_assign_Name (store_ok I hN hi hx r (fun s' I' => ⟨_, H, I', h⟩) hf)
def gNil : TGs := fun vs σ H Q => vs = [] ∧ Q σ H
def gCons (t : TG) (u : TGs) : TGs := fun vs σ H Q => ∃ v r, vs = v :: r ∧ t v σ H fun σ' H' => u r σ' H' Q
theorem pgs_nil : PGs X [] gNil := by
  intro pins s σ H vs us Q I r h
  obtain ⟨e, h⟩ := h
  subst e
  cases r
  exact assignInOrder_nil ⟨σ, H, I, h⟩
theorem pgs_cons {e : Expr} {es : List Expr} {t : TG} {u : TGs} (h1 : PG X e t) (h2 : PGs X es u)
    (hs : (assignEach (e :: es) X.env).map (·.2) = assign e X.env :: (assignEach es X.env).map (·.2) := by rfl) : PGs X (e :: es) (gCons t u) := by
  intro pins s σ H vs us Q I r h
  obtain ⟨v, vr, e1, h⟩ := h
  subst e1
  cases r with
  | cons r rr =>
    rw [hs]
    refine assignInOrder_cons (thn (h1 pins s σ H _ _ _ I r h) fun _ s1 ⟨σ1, H1, I1, q1⟩ => ?_)
    exact h2 pins s1 σ1 H1 _ _ Q I1 rr q1
def gTup (K : PySem.W.Frag) (n : Nat) (t : TGs) : TG := fun v σ H Q => ∃ a xs, v = .ref a ∧ SqT K H a xs ∧ xs.length = n ∧ t xs σ H Q
theorem pg_tup {es : List Expr} {k : Nat} {t : TGs} {n : Nat} (hc : X.calm = true) (h : PGs X es t)
    (hn : (assignEach es X.env).length = n := by rfl) (hst : (assignEach es X.env).findIdx? (·.1) = none := by rfl) : PG X (.Tuple es k pos) (gTup X.K n t) := by
  intro pins s σ H v u Q I r hw
  obtain ⟨a, xs, e1, hq, hl, hw⟩ := hw
  subst e1
  cases r
  obtain ⟨its, rv, ht, hz⟩ := I.tuple hq
  refine assign_Tuple_tuple (I.ok.hd hc) ht (by simp [hn, ← hl, rv.length]) hst fun h' hx => ?_
  have I1 : Inv X pins σ H { s with heap := h' } := I.kept (t' := s.toks) fun b o e => hx b o (Nat.ne_of_lt (Heap.lt_size e)) e
  exact h pins _ σ H xs _ Q I1 (by simpa using rv) hw
def tAsg (te : TE) (g : TG) : TS := fun D σ H => te σ H fun x H1 => g x σ H1 D.nx
theorem ps_set {i : Nat} {x : Str} {e : Expr} {te : TE} {pos' : Pos} (hN : X.N.Nodup) (hi : X.N[i]? = some x) (hx : Loc X.env.scope x) (he : PE X e te) (hs : swapsWith e (some (.Name x pos')) pos.line X.env = pure false := by rfl) (hf : X.fn x = true ∨ X.env.scope.names.lookup x = some .local := by first | exact .inl rfl | exact .inr rfl | assumption) :
    PS X (.Assign [.Name x pos'] e pos) (tAsg te (gName i)) := by
  intro pins s σ H D I h
  refine wpAny_Assign_Name (thn (he pins s σ H _ I h) fun v s1 ⟨y, H1, I1, r1, q1⟩ => ?_) hs
  exact store_ok I1 hN hi hx r1 (fun s2 I2 => ⟨_, H1, I2, q1⟩) hf
def tAug (i : Nat) (te : TE) (ti : TIp) : TS := fun D σ H => ∃ x, σ[i]? = some (some x) ∧ te σ H fun y H1 => ti x y H1 fun z H2 => D.nx (σ.set i (some z)) H2
theorem ps_aug {i : Nat} {x : Str} {e : Expr} {te : TE} {op : Operator} {ti : TIp} {pos' : Pos} (hN : X.N.Nodup) (hi : X.N[i]? = some x) (hx : Loc X.env.scope x) (he : PE X e te) (ho : PIp X op ti) (hf : X.fn x = true ∨ X.env.scope.names.lookup x = some .local := by first | exact .inl rfl | exact .inr rfl | assumption) :
    PS X (.AugAssign (.Name x pos') op e pos) (tAug i te ti) := by
  intro pins s σ H D I h
  obtain ⟨v, e1, h⟩ := h
  obtain ⟨m, hn, hl⟩ := I.loc
  have vis : Vis X.env.scope x := by rcases hx with k | k; exact .inl k; exact .inr (.inl k)
  obtain ⟨u, r, l⟩ := hl i x v hi e1 vis
  refine wpAny_AugAssign_Name ?_
  have go : wpAny (model X.prog X.w) X.A (eval e X.env) (fun w s₂ => wpAny (model X.prog X.w) X.A (inplaceOp op u w) (fun r s₃ => wpAny (model X.prog X.w) X.A (storeName X.env x r) (fun _ => SP X pins D .next) X.xe s₃) X.xe s₂) X.xe s := by
    refine thn (he pins s σ H _ I h) fun w s1 ⟨y, H1, I1, r1, q1⟩ => ?_
    refine thn (ho pins s1 σ H1 v y u w _ I1 r r1 q1) fun z s2 ⟨zv, H2, I2, r2, q2⟩ => ?_
    exact store_ok I2 hN hi hx r2 (fun s3 I3 => ⟨_, H2, I3, q2⟩) hf
  rcases l with ⟨hk, hm⟩ | ⟨hk, c, hc, hcell⟩
  · exact wpAny_loadName_local I.ok.kind hk hn hm go
  · rcases hk with hk | hk
    · exact wpAny_loadName_cell I.ok.kind hk hc hcell go
    · rcases hx with k | k
      · have : X.env.scope.names.lookup x = some .free := hk
        rw [k] at this; cases this
      · have : X.env.scope.names.lookup x = some .free := hk
        rw [k] at this; cases this
end
section
variable {X : Cx} {pos : Pos}
def tWhile (c : TT) (tb : TS) : TS := fun D σ H => ∃ W : Nat → St → Hp → Prop, (∃ m, W m σ H) ∧ ∀ m σ H, W m σ H →
  c σ H fun b H1 => if b = true then ∃ N : St → Hp → Prop, (∀ σ' H', N σ' H' → ∃ m', m' < m ∧ W m' σ' H') ∧ tb { D with nx := N, ct := N, bk := D.nx } σ H1 else D.nx σ H1
theorem ps_while {c : Expr} {body : List Stmt} {tc : TT} {tb : TS} (hp : PassesOwn (model X.prog X.w) X.A X.env X.xe) (hc : PT X c tc) (hb : PSs X body tb) : PS X (.While c body [] pos) (tWhile tc tb) := by
  intro pins s σ H D I h
  obtain ⟨W, ⟨m0, w0⟩, turn⟩ := h
  refine wpAny_While (codeAny_whileLoop (fun n s' => ∃ σ' H', Inv X pins σ' H' s' ∧ W n σ' H') ?_ m0 ⟨σ, H, I, w0⟩)
  rintro n s1 ⟨σ1, H1, I1, w1⟩
  refine wpAny_passesOwn hp (thn (hc pins s1 σ1 H1 _ I1 (turn n σ1 H1 w1)) fun b s2 ⟨H2, I2, q2⟩ => ?_)
  cases b with
  | true =>
    obtain ⟨N, hN, q2⟩ := q2
    rw [if_pos rfl]
    refine wpAny_passesOwn hp (thn (hb pins s2 σ1 H2 _ I2 q2) fun f s3 q3 => ?_)
    cases f with
    | next =>
      obtain ⟨σ3, H3, I3, n3⟩ := q3
      obtain ⟨m', hm, w3⟩ := hN σ3 H3 n3
      exact ⟨m', hm, σ3, H3, I3, w3⟩
    | cont =>
      obtain ⟨σ3, H3, I3, n3⟩ := q3
      obtain ⟨m', hm, w3⟩ := hN σ3 H3 n3
      exact ⟨m', hm, σ3, H3, I3, w3⟩
    | brk => exact q3
    | ret v => exact q3
  | false =>
    rw [if_neg Bool.false_ne_true]
    exact wpAny_execs_nil ⟨σ1, H2, I2, q2⟩
end
structure It where
  go : Nat → Hp → Prop
  yld : Nat → Hp → V → Hp → Prop
  stop : Nat → Hp → Prop
def FpOk (X : Cx) (pins : List (Addr × Obj)) (H : Hp) (b : Addr) : Prop :=
  H b = none ∧ b ≠ X.env.locals ∧ b ∉ X.fs ∧ (b ∈ X.ex ∨ X.s_0.heap.objs.size ≤ b) ∧ (∀ x c, X.env.cells.lookup x = some c → c ≠ b) ∧ ∀ p ∈ X.pn ++ pins, p.1 ≠ b
theorem Inv.fpOk {X : Cx} {pins : List (Addr × Obj)} {σ : St} {H H' : Hp} {s : Shared} {b : Addr} (I : Inv X pins σ H s) (hb : s.heap.objs.size ≤ b) (hn : H' b = none) : FpOk X pins H' b := by
  refine ⟨hn, Nat.ne_of_gt (Nat.lt_of_lt_of_le I.lt hb), I.nofs hb, .inr (Nat.le_trans I.sz hb), fun x c e z => ?_, fun p hp z => ?_⟩
  · obtain ⟨v, q⟩ := I.cell x c e
    exact absurd (Nat.lt_of_lt_of_le q.lt (by rw [z]; exact hb)) (Nat.lt_irrefl _)
  · exact absurd (Nat.lt_of_lt_of_le (Heap.lt_size (I.pin p hp).1) (by rw [z]; exact hb)) (Nat.lt_irrefl _)
structure Turn (P : Program) (w : World) (K : PySem.W.Frag) (tg : Expr) (J : It) (fp : List Addr) (it : Addr) (tn : Nat → Heap → Prop) : Prop where
  mem : it ∈ fp
  obj : ∀ i h, tn i h → ∀ b ∈ fp, ∃ o, h.get? b = some o ∧ ∀ v, o.data ≠ .cell v
  keep : ∀ i h h', tn i h → (∀ b ∈ fp, ∀ o, h.get? b = some o → h'.get? b = some o) → tn i h'
  item : ∀ (X : Cx), X.prog = P → X.w = w → X.K = K → X.calm = true → ∀ (i : Nat) (pins : List (Addr × Obj)) (s : Shared) (σ : St) (H : Hp) (E : Value → Shared → Prop), Inv X pins σ H s → (∀ b ∈ fp, FpOk X pins H b) → tn i s.heap → J.go i H →
    wpAny (model P w) X.A (pyNext (.ref it)) (fun r s1 => ∃ u, r = some u ∧
      wpAny (model P w) X.A (letOwnedTupleGo tg (.ref it) u) (fun _ s2 => ∃ x H', Inv X pins σ H' s2 ∧ RelV x u ∧ J.yld i H x H' ∧ tn (i + 1) s2.heap ∧ ∀ b ∈ fp, H' b = none) E s1) E s
  done : ∀ (X : Cx), X.prog = P → X.w = w → X.K = K → X.calm = true → ∀ (i : Nat) (pins : List (Addr × Obj)) (s : Shared) (σ : St) (H : Hp) (E : Value → Shared → Prop), Inv X pins σ H s → (∀ b ∈ fp, FpOk X pins H b) → tn i s.heap → J.stop i H →
    wpAny (model P w) X.A (pyNext (.ref it)) (fun r s1 => r = none ∧ Inv X pins σ H s1) E s
  self : ∀ (A : Around) (i : Nat) (s : Shared) (Q : Value → Shared → Prop) (E : Value → Shared → Prop), tn i s.heap → Q (.ref it) s → wpAny (model P w) A (pyIter (.ref it)) Q E s
abbrev TI := St → Hp → (It → Hp → Prop) → Prop
def PIE (X : Cx) (pins : List (Addr × Obj)) (σ : St) (tg : Expr) (R : It → Hp → Prop) (itv : Value) (s2 : Shared) : Prop :=
  ∃ (it : Addr) (fp : List Addr) (tn : Nat → Heap → Prop) (J : It) (H' : Hp), itv = .ref it ∧ Inv X pins σ H' s2 ∧ Turn X.prog X.w X.K tg J fp it tn ∧ tn 0 s2.heap ∧ (∀ b ∈ fp, FpOk X pins H' b) ∧ R J H'
def PI (X : Cx) (tg iter : Expr) (wi : TI) : Prop :=
  ∀ (pins : List (Addr × Obj)) (s : Shared) (σ : St) (H : Hp) (R : It → Hp → Prop), Inv X pins σ H s → wi σ H R →
    wpAny (model X.prog X.w) X.A (eval iter X.env) (fun v s1 => wpAny (model X.prog X.w) X.A (pyIter v) (PIE X pins σ tg R) X.xe s1) X.xe s
theorem go_of {M : Model} {A : Around} {E : Value → Shared → Prop} {s : Shared} {tg : Expr} {it : Addr} {u : Value} {o : Obj} {n : String} {vs : Array Value} {Q : Unit → Shared → Prop} (ho : s.heap.get? it = some o) (hc : o.cls = .type n) (hd : o.data = .fields vs)
    (hn : ["enumerate", "zip", "dict_itemiterator", "dict_reverseitemiterator", "odict_iterator", "itertools.zip_longest", "itertools.pairwise"].contains n = false) (hQ : Q () s) : wpAny M A (letOwnedTupleGo tg (.ref it) u) Q E s := by
  unfold letOwnedTupleGo
  cases tg <;> first
    | exact wpAny_pure hQ
    | (cases u <;> first
        | exact wpAny_pure hQ
        | (refine wpAny_bind (wpAny_load ho ?_)
           rw [hc, hd]
           show wpAny M A (if (["enumerate", "zip", "dict_itemiterator", "dict_reverseitemiterator", "odict_iterator", "itertools.zip_longest", "itertools.pairwise"].contains n && vs[0]? == some (rawInt _)) = true then _ else _) Q E s
           rw [if_neg (by intro h; rw [hn, Bool.false_and] at h; cases h)]
           exact wpAny_pure hQ))
def Itl (K : PySem.W.Frag) (a : Addr) : It :=
  ⟨fun i H => ∃ xs x, SqL K H a xs ∧ xs[i]? = some x, fun i H x H' => H' = H ∧ ∀ xs, SqL K H a xs → xs[i]? = some x, fun i H => ∃ xs, SqL K H a xs ∧ xs.length ≤ i⟩
def Itt (K : PySem.W.Frag) (a : Addr) : It :=
  ⟨fun i H => ∃ xs x, SqT K H a xs ∧ xs[i]? = some x, fun i H x H' => H' = H ∧ ∀ xs, SqT K H a xs → xs[i]? = some x, fun i H => ∃ xs, SqT K H a xs ∧ xs.length ≤ i⟩
theorem turn_list {P : Program} {w : World} {K : PySem.W.Frag} {tg : Expr} (a it : Addr) : Turn P w K tg (Itl K a) [it] it (fun i h => h.IsListIter it a i) where
  mem := by simp
  obj := fun i h st b hb => by
    have e : b = it := by simpa using hb
    subst e
    obtain ⟨o, e, c, d⟩ := st
    exact ⟨o, e, fun v z => by rw [d] at z; cases z⟩
  keep := fun i h h' st k => st.at fun o e => k it (by simp) o e
  item := by
    intro X hP hw hK hc i pins s σ H E I hf st hg
    subst hP hw hK
    obtain ⟨xs, x, hq, hx⟩ := hg
    obtain ⟨its, rv, p, hz⟩ := I.list hq
    obtain ⟨u, hu, ru⟩ := rv.get hx
    obtain ⟨f0, f1, f2, f3, f4, f5⟩ := hf it (by simp)
    refine wpAny_pyNext_list_item st p.isList (x := u) (by simpa using hu) fun h' st' sb => ?_
    have I1 : Inv X pins σ H { s with heap := h' } := I.turned (t' := s.toks) (fun b o hb e => (sb.2 b hb).trans e) f0 f1 f3 f4 f5
    obtain ⟨o, e, c, d⟩ := id st'
    exact ⟨u, rfl, go_of (s := { s with heap := h' }) e c d (by decide) ⟨x, H, I1, ru, ⟨rfl, fun ys hy => by rw [I.list_inj hy hq]; exact hx⟩, st', fun b hb => (hf b hb).1⟩⟩
  done := by
    intro X hP hw hK hc i pins s σ H E I hf st hg
    subst hP hw hK
    obtain ⟨xs, hq, hx⟩ := hg
    obtain ⟨its, rv, p, hz⟩ := I.list hq
    obtain ⟨f0, f1, f2, f3, f4, f5⟩ := hf it (by simp)
    have hl := rv.length
    exact wpAny_pyNext_list_end (I.ok.hd hc) st p.isList (by simp; omega) fun h' eb => ⟨rfl, I.turned (t' := s.toks) (fun b o hb e => eb b o hb e) f0 f1 f3 f4 f5⟩
  self := fun _ _ _ _ _ st h => wpAny_pyIter_listiter st h
theorem turn_tuple {P : Program} {w : World} {K : PySem.W.Frag} {tg : Expr} (a it : Addr) : Turn P w K tg (Itt K a) [it] it (fun i h => h.IsTupleIter it a i) where
  mem := by simp
  obj := fun i h st b hb => by
    have e : b = it := by simpa using hb
    subst e
    obtain ⟨o, e, c, d⟩ := st
    exact ⟨o, e, fun v z => by rw [d] at z; cases z⟩
  keep := fun i h h' st k => st.at fun o e => k it (by simp) o e
  item := by
    intro X hP hw hK hc i pins s σ H E I hf st hg
    subst hP hw hK
    obtain ⟨xs, x, hq, hx⟩ := hg
    obtain ⟨its, rv, p, hz⟩ := I.tuple hq
    obtain ⟨u, hu, ru⟩ := rv.get hx
    obtain ⟨f0, f1, f2, f3, f4, f5⟩ := hf it (by simp)
    refine wpAny_pyNext_tuple_item st (show s.heap.IsTuple a its.toArray from p) (x := u) (by simpa using hu) fun h' st' sb => ?_
    have I1 : Inv X pins σ H { s with heap := h' } := I.turned (t' := s.toks) (fun b o hb e => (sb.2 b hb).trans e) f0 f1 f3 f4 f5
    obtain ⟨o, e, c, d⟩ := id st'
    exact ⟨u, rfl, go_of (s := { s with heap := h' }) e c d (by decide) ⟨x, H, I1, ru, ⟨rfl, fun ys hy => by rw [I.tuple_inj hy hq]; exact hx⟩, st', fun b hb => (hf b hb).1⟩⟩
  done := by
    intro X hP hw hK hc i pins s σ H E I hf st hg
    subst hP hw hK
    obtain ⟨xs, hq, hx⟩ := hg
    obtain ⟨its, rv, p, hz⟩ := I.tuple hq
    obtain ⟨f0, f1, f2, f3, f4, f5⟩ := hf it (by simp)
    have hl := rv.length
    exact wpAny_pyNext_tuple_end (I.ok.hd hc) st (show s.heap.IsTuple a its.toArray from p) (by simp; omega) fun h' eb => ⟨rfl, I.turned (t' := s.toks) (fun b o hb e => eb b o hb e) f0 f1 f3 f4 f5⟩
  self := fun _ _ _ _ _ st h => wpAny_pyIter_tupleiter st h
end L2
namespace L2
open PySem PySem.Spec PyProof.Rows
section
variable {X : Cx} {tg : Expr}
def iList (K : PySem.W.Frag) (tl : TE) : TI := fun σ H R => tl σ H fun x H1 => ∃ a, x = .ref a ∧ (∃ xs, SqL K H1 a xs) ∧ R (Itl K a) H1
def iTup (K : PySem.W.Frag) (tl : TE) : TI := fun σ H R => tl σ H fun x H1 => ∃ a, x = .ref a ∧ (∃ xs, SqT K H1 a xs) ∧ R (Itt K a) H1
theorem pi_list {l : Expr} {tl : TE} (hl : PE X l tl) : PI X tg l (iList X.K tl) := by
  intro pins s σ H R I h
  refine thn (hl pins s σ H _ I h) fun v s1 ⟨x, H1, I1, r1, q1⟩ => ?_
  obtain ⟨a, e, ⟨xs, hq⟩, q⟩ := q1
  subst e
  cases r1
  obtain ⟨its, rv, p, hz⟩ := I1.list hq
  refine wpAny_pyIter_list p.isList ?_
  refine ⟨s1.heap.objs.size, [s1.heap.objs.size], _, _, H1, rfl, I1.kept (t' := s1.toks) fun b o e => Heap.get?_push_of_some _ e, turn_list a _, ⟨_, Heap.get?_push_size _ rfl, rfl, rfl⟩, fun b hb => ?_, q⟩
  have e : b = s1.heap.objs.size := by simpa using hb
  subst e
  exact I1.fpOk (Nat.le_refl _) (I1.hok.fresh (Nat.le_refl _))
theorem pi_tup {l : Expr} {tl : TE} (hl : PE X l tl) : PI X tg l (iTup X.K tl) := by
  intro pins s σ H R I h
  refine thn (hl pins s σ H _ I h) fun v s1 ⟨x, H1, I1, r1, q1⟩ => ?_
  obtain ⟨a, e, ⟨xs, hq⟩, q⟩ := q1
  subst e
  cases r1
  obtain ⟨its, rv, p, hz⟩ := I1.tuple hq
  refine wpAny_pyIter_tuple (show s1.heap.IsTuple a its.toArray from p) ?_
  refine ⟨s1.heap.objs.size, [s1.heap.objs.size], _, _, H1, rfl, I1.kept (t' := s1.toks) fun b o e => Heap.get?_push_of_some _ e, turn_tuple a _, ⟨_, Heap.get?_push_size _ rfl, rfl, rfl⟩, fun b hb => ?_, q⟩
  have e : b = s1.heap.objs.size := by simpa using hb
  subst e
  exact I1.fpOk (Nat.le_refl _) (I1.hok.fresh (Nat.le_refl _))
def tFor (wi : TI) (g : TG) (tb : TS) : TS := fun D σ H => wi σ H fun J H1 => ∃ W : Nat → Nat → St → Hp → Prop, (∃ m, W 0 m σ H1) ∧ ∀ i m σ H, W i m σ H →
  (J.stop i H ∧ D.nx σ H) ∨ (J.go i H ∧ ∃ N : St → Hp → Prop, (∀ σ' H', N σ' H' → ∃ m', m' < m ∧ W (i + 1) m' σ' H') ∧ ∀ x H', J.yld i H x H' → g x σ H' fun σ2 H2 => tb { D with nx := N, ct := N, bk := D.nx } σ2 H2)
def pinsAt (fp : List Addr) (h : Heap) : List (Addr × Obj) := fp.filterMap fun b => (h.get? b).map fun o => (b, o)
theorem mem_pinsAt {fp : List Addr} {h : Heap} {b : Addr} {o : Obj} (hb : b ∈ fp) (e : h.get? b = some o) : (b, o) ∈ pinsAt fp h := List.mem_filterMap.mpr ⟨b, hb, by rw [e]; rfl⟩
theorem of_pinsAt {fp : List Addr} {h : Heap} {p : Addr × Obj} (hp : p ∈ pinsAt fp h) : p.1 ∈ fp ∧ h.get? p.1 = some p.2 := by
  obtain ⟨b, hb, e⟩ := List.mem_filterMap.mp hp
  cases q : h.get? b with
  | none => rw [q] at e; cases e
  | some o =>
    rw [q] at e
    have e' : (b, o) = p := Option.some.inj e
    subst e'
    exact ⟨hb, q⟩
theorem Inv.pinned {pins : List (Addr × Obj)} {σ : St} {H : Hp} {s : Shared} {fp : List Addr} (I : Inv X pins σ H s) (hf : ∀ b ∈ fp, FpOk X pins H b) (ho : ∀ b ∈ fp, ∃ o, s.heap.get? b = some o ∧ ∀ v, o.data ≠ .cell v) : Inv X (pins ++ pinsAt fp s.heap) σ H s :=
  I.pins_of fun p hp => (List.mem_append.mp hp).elim (fun z => I.pin p (List.mem_append_right _ z)) fun z => by
    obtain ⟨hb, e⟩ := of_pinsAt z
    obtain ⟨f0, f1, f2, _⟩ := hf p.1 hb
    obtain ⟨o, e', d⟩ := ho p.1 hb
    rw [e] at e'; cases e'
    exact ⟨e, f0, f1, f2, d⟩
theorem Inv.unpinned {pins pl : List (Addr × Obj)} {σ : St} {H : Hp} {s : Shared} (I : Inv X (pins ++ pl) σ H s) : Inv X pins σ H s := I.pins_of fun p hp => I.pin p (List.mem_append_right _ (List.mem_append_left _ hp))
theorem ps_for {iter : Expr} {body : List Stmt} {wi : TI} {g : TG} {tb : TS} {pos : Pos} (hp : PassesOwn (model X.prog X.w) X.A X.env X.xe) (hc : X.calm = true) (hi : PI X tg iter wi) (hg : PG X tg g) (hb : PSs X body tb)
    (hs : ∀ x, foldedSetIterable iter X.env x = pure x := by intro _; rfl) : PS X (.For tg iter body [] pos) (tFor wi g tb) := by
  intro pins s σ H D I h
  refine wpAny_For (thn (hi pins s σ H _ I h) fun v s1 h1 => thn h1 fun itv s2 h2 => ?_) hs
  obtain ⟨it, fp, tn, J, H2, e, I2, T, st2, f2, W, ⟨m0, w0⟩, turn⟩ := h2
  subst e
  have stat : ∀ {H' : Hp}, (∀ b ∈ fp, H' b = none) → ∀ b ∈ fp, FpOk X pins H' b := fun hn b hb => ⟨hn b hb, (f2 b hb).2⟩
  refine codeAny_forLoop_any (fun n s' => ∃ i σ' H', Inv X pins σ' H' s' ∧ tn i s'.heap ∧ (∀ b ∈ fp, H' b = none) ∧ W i n σ' H') ?_ m0 ⟨0, σ, H2, I2, st2, fun b hb => (f2 b hb).1, w0⟩
  rintro n s3 ⟨i, σ3, H3, I3, st3, fr3, w3⟩
  rcases turn i n σ3 H3 w3 with ⟨stop, qn⟩ | ⟨go, N, hN, step⟩
  · refine wpAny_passesOwn hp (thn (T.done X rfl rfl rfl hc i pins s3 σ3 H3 X.xe I3 (stat fr3) st3 stop) fun r s4 ⟨hr, I4⟩ => ?_)
    subst hr
    exact wpAny_execs_nil ⟨σ3, H3, I4, qn⟩
  · refine wpAny_passesOwn hp (thn (T.item X rfl rfl rfl hc i pins s3 σ3 H3 X.xe I3 (stat fr3) st3 go) fun r s4 ⟨u, hr, h4⟩ => ?_)
    subst hr
    refine wpAny_passesOwn hp (thn h4 fun _ s5 ⟨x, H5, I5, r5, y5, st5, fr5⟩ => ?_)
    have I5' := I5.pinned (stat fr5) (T.obj _ _ st5)
    refine wpAny_passesOwn hp (thn (hg _ s5 σ3 H5 x u _ I5' r5 (step x H5 y5)) fun _ s6 ⟨σ6, H6, I6, q6⟩ => ?_)
    refine wpAny_passesOwn hp (thn (hb _ s6 σ6 H6 _ I6 q6) fun f s7 q7 => ?_)
    have again : ∀ {σ7 : St} {H7 : Hp}, Inv X (pins ++ pinsAt fp s5.heap) σ7 H7 s7 → N σ7 H7 → ∃ m, m < n ∧ ∃ i σ' H', Inv X pins σ' H' s7 ∧ tn i s7.heap ∧ (∀ b ∈ fp, H' b = none) ∧ W i m σ' H' := fun {σ7 H7} I7 n7 => by
      obtain ⟨m', hm, w7⟩ := hN σ7 H7 n7
      refine ⟨m', hm, i + 1, σ7, H7, I7.unpinned, T.keep _ _ _ st5 fun b hb o e => (I7.pin (b, o) (List.mem_append_right _ (List.mem_append_right _ (mem_pinsAt hb e)))).1, fun b hb => ?_, w7⟩
      obtain ⟨o, e, d⟩ := T.obj _ _ st5 b hb
      exact (I7.pin (b, o) (List.mem_append_right _ (List.mem_append_right _ (mem_pinsAt hb e)))).2.1
    cases f with
    | next => obtain ⟨σ7, H7, I7, n7⟩ := q7; exact again I7 n7
    | cont => obtain ⟨σ7, H7, I7, n7⟩ := q7; exact again I7 n7
    | brk => obtain ⟨σ7, H7, I7, q7⟩ := q7; exact ⟨σ7, H7, I7.unpinned, q7⟩
    | ret v => obtain ⟨x7, σ7, H7, I7, r7, q7⟩ := q7; exact ⟨x7, σ7, H7, I7.unpinned, r7, q7⟩
end
theorem for_list {K : PySem.W.Frag} {a : Addr} {xs : List V} {g : TG} {tb : TS} {D : Ends} {σ : St} {H : Hp} (Pv : Nat → St → Hp → Prop) (h0 : Pv 0 σ H) (hl : ∀ i σ H, i ≤ xs.length → Pv i σ H → SqL K H a xs)
    (hs : ∀ i x σ H, xs[i]? = some x → Pv i σ H → g x σ H fun σ2 H2 => tb { D with nx := Pv (i + 1), ct := Pv (i + 1), bk := D.nx } σ2 H2) (hd : ∀ σ H, Pv xs.length σ H → D.nx σ H) :
    ∃ W : Nat → Nat → St → Hp → Prop, (∃ m, W 0 m σ H) ∧ ∀ i m σ H, W i m σ H →
      ((Itl K a).stop i H ∧ D.nx σ H) ∨ ((Itl K a).go i H ∧ ∃ N : St → Hp → Prop, (∀ σ' H', N σ' H' → ∃ m', m' < m ∧ W (i + 1) m' σ' H') ∧ ∀ x H', (Itl K a).yld i H x H' → g x σ H' fun σ2 H2 => tb { D with nx := N, ct := N, bk := D.nx } σ2 H2) := by
  refine ⟨fun i m σ H => m = xs.length - i ∧ i ≤ xs.length ∧ Pv i σ H, ⟨xs.length, by simp, Nat.zero_le _, h0⟩, ?_⟩
  rintro i m σ H ⟨rfl, hi, p⟩
  have q := hl i σ H hi p
  by_cases hlt : i < xs.length
  · refine .inr ⟨⟨xs, xs[i], q, by simp [hlt]⟩, Pv (i + 1), fun σ' H' p' => ⟨xs.length - (i + 1), by omega, rfl, hlt, p'⟩, fun x H' y => ?_⟩
    obtain ⟨e, y⟩ := y
    subst e
    exact hs i x σ _ (y xs q) p
  · have e : i = xs.length := by omega
    subst e
    exact .inl ⟨⟨xs, q, Nat.le_refl _⟩, hd σ H p⟩
theorem for_tup {K : PySem.W.Frag} {a : Addr} {xs : List V} {g : TG} {tb : TS} {D : Ends} {σ : St} {H : Hp} (Pv : Nat → St → Hp → Prop) (h0 : Pv 0 σ H) (hl : ∀ i σ H, i ≤ xs.length → Pv i σ H → SqT K H a xs)
    (hs : ∀ i x σ H, xs[i]? = some x → Pv i σ H → g x σ H fun σ2 H2 => tb { D with nx := Pv (i + 1), ct := Pv (i + 1), bk := D.nx } σ2 H2) (hd : ∀ σ H, Pv xs.length σ H → D.nx σ H) :
    ∃ W : Nat → Nat → St → Hp → Prop, (∃ m, W 0 m σ H) ∧ ∀ i m σ H, W i m σ H →
      ((Itt K a).stop i H ∧ D.nx σ H) ∨ ((Itt K a).go i H ∧ ∃ N : St → Hp → Prop, (∀ σ' H', N σ' H' → ∃ m', m' < m ∧ W (i + 1) m' σ' H') ∧ ∀ x H', (Itt K a).yld i H x H' → g x σ H' fun σ2 H2 => tb { D with nx := N, ct := N, bk := D.nx } σ2 H2) := by
  refine ⟨fun i m σ H => m = xs.length - i ∧ i ≤ xs.length ∧ Pv i σ H, ⟨xs.length, by simp, Nat.zero_le _, h0⟩, ?_⟩
  rintro i m σ H ⟨rfl, hi, p⟩
  have q := hl i σ H hi p
  by_cases hlt : i < xs.length
  · refine .inr ⟨⟨xs, xs[i], q, by simp [hlt]⟩, Pv (i + 1), fun σ' H' p' => ⟨xs.length - (i + 1), by omega, rfl, hlt, p'⟩, fun x H' y => ?_⟩
    obtain ⟨e, y⟩ := y
    subst e
    exact hs i x σ _ (y xs q) p
  · have e : i = xs.length := by omega
    subst e
    exact .inl ⟨⟨xs, q, Nat.le_refl _⟩, hd σ H p⟩
end L2
namespace L2
open PySem PySem.Spec PyProof.Rows
abbrev R2 := V → V → Hp → VK → Prop
def OpR (X : Cx) (f : Value → Value → Sem Value) (r : R2) : Prop :=
  ∀ (pins : List (Addr × Obj)) (s : Shared) (σ : St) (H : Hp) (x y : V) (v u : Value) (Q : VK), Inv X pins σ H s → RelV x v → RelV y u → r x y H Q →
    wpAny (model X.prog X.w) X.A (f v u) (EP X pins σ Q) X.xe s
def UnR (X : Cx) (f : Value → Sem Value) (r : V → Hp → VK → Prop) : Prop :=
  ∀ (pins : List (Addr × Obj)) (s : Shared) (σ : St) (H : Hp) (x : V) (v : Value) (Q : VK), Inv X pins σ H s → RelV x v → r x H Q →
    wpAny (model X.prog X.w) X.A (f v) (EP X pins σ Q) X.xe s
def CallR (X : Cx) (f : Value) (r : List V → Hp → VK → Prop) : Prop :=
  ∀ (pins : List (Addr × Obj)) (s : Shared) (σ : St) (H : Hp) (xs : List V) (us : List Value) (Q : VK), Inv X pins σ H s → Vals xs us → r xs H Q →
    wpAny (model X.prog X.w) X.A (call f us) (EP X pins σ Q) X.xe s
def tOp (r : R2) (ta tb : TE) : TE := fun σ H Q => ta σ H fun x H1 => tb σ H1 fun y H2 => r x y H2 Q
def tUn (r : V → Hp → VK → Prop) (ta : TE) : TE := fun σ H Q => ta σ H fun x H1 => r x H1 Q
def rI (C : Int → Int → Prop) (g : Int → Int → V) : R2 := fun x y H Q => ∃ i j, x = .int i ∧ y = .int j ∧ C i j ∧ Q (g i j) H
def rI0 (g : Int → Int → V) : R2 := fun x y H Q => ∃ i j, x = .int i ∧ y = .int j ∧ Q (g i j) H
def rU (g : Int → V) : V → Hp → VK → Prop := fun x H Q => ∃ i, x = .int i ∧ Q (g i) H
section
variable {X : Cx} {a b c : Expr} {ta tb tc : TE} {pos : Pos}
theorem binT (ha : PE X a ta) (hb : PE X b tb) {pins : List (Addr × Obj)} {s : Shared} {σ : St} {H : Hp} {R : V → V → Hp → Prop} (I : Inv X pins σ H s)
    (h : ta σ H fun x H1 => tb σ H1 fun y H2 => R x y H2) {Q : Value → Shared → Prop} {f : Value → Value → Sem Value}
    (hf : ∀ v u s2 x y H2, Inv X pins σ H2 s2 → RelV x v → RelV y u → R x y H2 → wpAny (model X.prog X.w) X.A (f v u) Q X.xe s2) :
    wpAny (model X.prog X.w) X.A (eval a X.env) (fun v s₁ => wpAny (model X.prog X.w) X.A (eval b X.env) (fun u s₂ => wpAny (model X.prog X.w) X.A (f v u) Q X.xe s₂) X.xe s₁) X.xe s := by
  refine thn (ha pins s σ H _ I h) fun v s1 ⟨x, H1, I1, r1, q1⟩ => ?_
  refine thn (hb pins s1 σ H1 _ I1 q1) fun u s2 ⟨y, H2, I2, r2, q2⟩ => ?_
  exact hf v u s2 x y H2 I2 r1 r2 q2
theorem pe_op {op : Operator} {r : R2} (ho : OpR X (binaryOp op) r) (ha : PE X a ta) (hb : PE X b tb) : PE X (.BinOp a op b pos) (tOp r ta tb) := by
  intro pins s σ H Q I h
  exact wpAny_BinOp (binT ha hb I h fun v u s2 x y H2 I2 rx ry q => ho pins s2 σ H2 x y v u Q I2 rx ry q)
theorem pe_un {op : UnaryOp} {r : V → Hp → VK → Prop} (ho : UnR X (unaryOp op) r) (ha : PE X a ta) : PE X (.UnaryOp op a pos) (tUn r ta) := by
  intro pins s σ H Q I h
  exact UnaryOp_ (thn (ha pins s σ H _ I h) fun v s1 ⟨x, H1, I1, r1, q1⟩ => ho pins s1 σ H1 x v Q I1 r1 q1)
theorem opI {f : Value → Value → Sem Value} {C : Int → Int → Prop} {g : Int → Int → Int}
    (rule : ∀ (i j : Int) (t u : Tok) (s : Shared) (Q : Value → Shared → Prop) (E : Value → Shared → Prop), C i j → Q (.int (g i j) s.toks) { s with toks := s.toks + 1 } → wpAny (model X.prog X.w) X.A (f (.int i t) (.int j u)) Q E s) :
    OpR X f (rI C fun i j => .int (g i j)) := by
  intro pins s σ H x y v u Q I rx ry h
  obtain ⟨i, j, rfl, rfl, hc, q⟩ := h
  obtain ⟨t, rfl⟩ := rx
  obtain ⟨t', rfl⟩ := ry
  exact rule i j t t' s _ _ hc ⟨.int (g i j), H, I.tok _, ⟨_, rfl⟩, q⟩
theorem opI0 {f : Value → Value → Sem Value} {g : Int → Int → Int}
    (rule : ∀ (i j : Int) (t u : Tok) (s : Shared) (Q : Value → Shared → Prop) (E : Value → Shared → Prop), Q (.int (g i j) s.toks) { s with toks := s.toks + 1 } → wpAny (model X.prog X.w) X.A (f (.int i t) (.int j u)) Q E s) :
    OpR X f (rI0 fun i j => .int (g i j)) := by
  intro pins s σ H x y v u Q I rx ry h
  obtain ⟨i, j, rfl, rfl, q⟩ := h
  obtain ⟨t, rfl⟩ := rx
  obtain ⟨t', rfl⟩ := ry
  exact rule i j t t' s _ _ ⟨.int (g i j), H, I.tok _, ⟨_, rfl⟩, q⟩
theorem opB0 {f : Value → Value → Sem Value} {g : Int → Int → Bool}
    (rule : ∀ (i j : Int) (t u : Tok) (s : Shared) (Q : Value → Shared → Prop) (E : Value → Shared → Prop), Q (.bool (g i j)) s → wpAny (model X.prog X.w) X.A (f (.int i t) (.int j u)) Q E s) :
    OpR X f (rI0 fun i j => .bl (g i j)) := by
  intro pins s σ H x y v u Q I rx ry h
  obtain ⟨i, j, rfl, rfl, q⟩ := h
  obtain ⟨t, rfl⟩ := rx
  obtain ⟨t', rfl⟩ := ry
  exact rule i j t t' s _ _ ⟨.bl (g i j), H, I, rfl, q⟩
def CMul (i j : Int) : Prop := (-(2 ^ 64) < i ∧ i < 2 ^ 64) ∨ (-(2 ^ 64) < j ∧ j < 2 ^ 64)
theorem CMul.ok {i j : Int} (h : CMul i j) : IntMulOk i j := by
  rcases h with ⟨h1, h2⟩ | ⟨h1, h2⟩
  · exact .of_left (intBits_le_64 h1 h2)
  · exact .of_right (intBits_le_64 h1 h2)
theorem op_add : OpR X (binaryOp .Add) (rI0 fun i j => .int (i + j)) := opI0 fun _ _ _ _ _ _ _ q => add_int q
theorem op_sub : OpR X (binaryOp .Sub) (rI0 fun i j => .int (i - j)) := opI0 fun _ _ _ _ _ _ _ q => sub_int q
theorem op_mul : OpR X (binaryOp .Mult) (rI CMul fun i j => .int (i * j)) := opI fun _ _ _ _ _ _ _ hc q => mul_int q hc.ok
theorem op_mod : OpR X (binaryOp .Mod) (rI (fun _ j => 0 < j) fun i j => .int (i % j)) := opI fun i j _ _ _ _ _ hc q => by
  have h1 : (0 : Int) < j := hc
  exact mod_int' (by omega) (by rw [Int.fmod_eq_emod_of_nonneg i (by omega)]; exact q)
theorem iop_mul : OpR X (inplaceOp .Mult) (rI CMul fun i j => .int (i * j)) := opI fun _ _ _ _ _ _ _ hc q => imul_int q hc.ok
theorem unI {f : Value → Sem Value} {g : Int → Int}
    (rule : ∀ (i : Int) (t : Tok) (s : Shared) (Q : Value → Shared → Prop) (E : Value → Shared → Prop), Q (.int (g i) s.toks) { s with toks := s.toks + 1 } → wpAny (model X.prog X.w) X.A (f (.int i t)) Q E s) :
    UnR X f (rU fun i => .int (g i)) := by
  intro pins s σ H x v Q I rx h
  obtain ⟨i, rfl, q⟩ := h
  obtain ⟨t, rfl⟩ := rx
  exact rule i t s _ _ ⟨.int (g i), H, I.tok _, ⟨_, rfl⟩, q⟩
theorem un_neg : UnR X (unaryOp .USub) (rU fun i => .int (-i)) := unI fun _ _ _ _ _ q => neg_int q
end
def scal : V → V → Bool
  | .non, .non => true | .non, .int _ => true | .int _, .non => true | .non, .bl _ => true | .bl _, .non => true | .non, .str _ => true | .str _, .non => true
  | .int _, .int _ => true | .bl _, .bl _ => true | .str _, .str _ => true | .byt _, .byt _ => true
  | .int _, .str _ => true | .str _, .int _ => true | .bl _, .str _ => true | .str _, .bl _ => true
  | _, _ => false
def rEq : R2 := fun x y H Q => scal x y = true ∧ Q (.bl (decide (x = y))) H
theorem dec_int {i j : Int} : decide (V.int i = V.int j) = (i == j) := by
  rw [Bool.eq_iff_iff]
  simp
theorem dec_bl {i j : Bool} : decide (V.bl i = V.bl j) = (i == j) := by
  rw [Bool.eq_iff_iff]
  simp
theorem dec_str {i j : Str} : decide (V.str i = V.str j) = (i == j) := by
  rw [Bool.eq_iff_iff]
  simp
theorem dec_byt {i j : Array UInt8} : decide (V.byt i = V.byt j) = (i.toList == j.toList) := by
  rw [Bool.eq_iff_iff]
  cases i
  cases j
  simp
section
variable {X : Cx} {a b c : Expr} {ta tb tc : TE} {pos : Pos}
theorem fin_bl {pins : List (Addr × Obj)} {σ : St} {H : Hp} {s : Shared} {Q : VK} {k k' : Bool} (I : Inv X pins σ H s) (q : Q (.bl k) H) (e : k = k') : EP X pins σ Q (.bool k') s := by
  subst e
  exact ⟨.bl k, H, I, rfl, q⟩
theorem op_eq : OpR X (compareOp .Eq) rEq := by
  intro pins s σ H x y v u Q I rx ry h
  obtain ⟨hs, q⟩ := h
  cases x with
  | non =>
    cases rx
    cases y with
    | non => cases ry; exact PySem.EqNone.eq_none_none (fin_bl I q (by simp))
    | bl j => cases ry; exact PySem.EqNone.eq_none_bool (fin_bl I q (by simp))
    | int j => obtain ⟨t', rfl⟩ := ry; exact PySem.EqNone.eq_none_int (fin_bl I q (by simp))
    | str j => obtain ⟨t', rfl⟩ := ry; exact PySem.EqNone.eq_none_str (fin_bl I q (by simp))
    | _ => exact absurd (show false = true from hs) Bool.false_ne_true
  | bl i =>
    cases rx
    cases y with
    | non => cases ry; exact PySem.EqNone.eq_bool_none (fin_bl I q (by simp))
    | bl j => cases ry; exact eq_bool (fin_bl I q dec_bl)
    | str j => obtain ⟨t', rfl⟩ := ry; exact PySem.EqMixed.eq_bool_str (fin_bl I q (by simp))
    | _ => exact absurd (show false = true from hs) Bool.false_ne_true
  | int i =>
    obtain ⟨t, rfl⟩ := rx
    cases y with
    | non => cases ry; exact PySem.EqNone.eq_int_none (fin_bl I q (by simp))
    | int j => obtain ⟨t', rfl⟩ := ry; exact eq_int (fin_bl I q dec_int)
    | str j => obtain ⟨t', rfl⟩ := ry; exact PySem.EqMixed.eq_int_str (fin_bl I q (by simp))
    | _ => exact absurd (show false = true from hs) Bool.false_ne_true
  | str i =>
    obtain ⟨t, rfl⟩ := rx
    cases y with
    | non => cases ry; exact PySem.EqNone.eq_str_none (fin_bl I q (by simp))
    | bl j => cases ry; exact PySem.EqMixed.eq_str_bool (fin_bl I q (by simp))
    | int j => obtain ⟨t', rfl⟩ := ry; exact PySem.EqMixed.eq_str_int (fin_bl I q (by simp))
    | str j => obtain ⟨t', rfl⟩ := ry; exact eq_str (fin_bl I q dec_str)
    | _ => exact absurd (show false = true from hs) Bool.false_ne_true
  | byt i =>
    obtain ⟨t, rfl⟩ := rx
    cases y with
    | byt j => obtain ⟨t', rfl⟩ := ry; exact PySem.W.eq_bytes (fin_bl I q dec_byt)
    | _ => exact absurd (show false = true from hs) Bool.false_ne_true
  | _ => cases y <;> exact absurd (show false = true from hs) Bool.false_ne_true
theorem op_lt : OpR X (compareOp .Lt) (rI0 fun i j => .bl (decide (i < j))) := opB0 fun _ _ _ _ _ _ _ q => lt_int q
theorem op_le : OpR X (compareOp .LtE) (rI0 fun i j => .bl (decide (i ≤ j))) := opB0 fun _ _ _ _ _ _ _ q => le_int q
theorem op_gt : OpR X (compareOp .Gt) (rI0 fun i j => .bl (decide (j < i))) := opB0 fun _ _ _ _ _ _ _ q => gt_int q
theorem op_isN : OpR X (compareOp .Is) (fun x y H Q => y = .non ∧ Q (.bl (decide (x = .non))) H) := by
  intro pins s σ H x y v u Q I rx ry h
  obtain ⟨rfl, q⟩ := h
  cases ry
  refine is_none_gen (fin_bl I q ?_)
  cases x <;> first
    | (cases rx; rfl)
    | (obtain ⟨t, rfl⟩ := rx; rfl)
theorem nomark (b : Expr) {op : CmpOp} (h : op ≠ .In := by decide) (h2 : op ≠ .NotIn := by decide) : behindInMarks op b = false := by
  have e1 : (op == CmpOp.In) = false := by cases op <;> first | rfl | exact absurd rfl h
  have e2 : (op == CmpOp.NotIn) = false := by cases op <;> first | rfl | exact absurd rfl h2
  cases b <;> simp [behindInMarks, e1, e2]
theorem pe_cmpR {op : CmpOp} {r : R2} (ho : OpR X (compareOp op) r) (ha : PE X a ta) (hb : PE X b tb) (hm : behindInMarks op b = false) : PE X (.Compare a [op] [b] pos) (tOp r ta tb) := by
  intro pins s σ H Q I h
  exact wpAny_Compare1 (binT ha hb I h fun v u s2 x y H2 I2 rx ry q => ho pins s2 σ H2 x y v u Q I2 rx ry q) hm
def tTest (t : TE) : TT := fun σ H Q => t σ H fun x H' => ∃ k, x = .bl k ∧ Q k H'
theorem pt_cmpR {op : CmpOp} {r : R2} (ho : OpR X (compareOp op) r) (ha : PE X a ta) (hb : PE X b tb) (hm : behindInMarks op b = false) : PT X (.Compare a [op] [b] pos) (tTest (tOp r ta tb)) := by
  intro pins s σ H Q I h
  refine wpAny_isTrue_Compare1 (thn (ha pins s σ H _ I h) fun v s1 ⟨x, H1, I1, r1, q1⟩ => thn (hb pins s1 σ H1 _ I1 q1) fun u s2 ⟨y, H2, I2, r2, q2⟩ =>
    thn (ho pins s2 σ H2 x y v u _ I2 r1 r2 q2) fun c s3 ⟨z, H3, I3, r3, k, e, q3⟩ => ?_) hm
  subst e
  cases r3
  exact wpAny_truthy_bool ⟨H3, I3, q3⟩
def tChain (r r' : R2) (ta tb tc : TE) : TE := fun σ H Q => ta σ H fun x H1 => tb σ H1 fun y H2 => r x y H2 fun z H3 => ∃ k, z = .bl k ∧
  (if k = true then tc σ H3 fun w' H4 => r' y w' H4 Q else Q (.bl false) H3)
theorem pe_chain {op op' : CmpOp} {r r' : R2} (ho : OpR X (compareOp op) r) (ho' : OpR X (compareOp op') r') (ha : PE X a ta) (hb : PE X b tb) (hc : PE X c tc)
    (hm : lastMarks [op, op'] [b, c] = false := by with_unfolding_all rfl) : PE X (.Compare a [op, op'] [b, c] pos) (tChain r r' ta tb tc) := by
  intro pins s σ H Q I h
  refine Compare_chain (thn (ha pins s σ H _ I h) fun v s1 ⟨x, H1, I1, r1, q1⟩ => chain_link (thn (hb pins s1 σ H1 _ I1 q1) fun u s2 ⟨y, H2, I2, r2, q2⟩ =>
    thn (ho pins s2 σ H2 x y v u _ I2 r1 r2 q2) fun d s3 ⟨z, H3, I3, r3, k, e, q3⟩ => ?_)) hm
  subst e
  cases r3
  refine wpAny_truthy_bool ?_
  cases k with
  | false => exact ite_ff ⟨.bl false, H3, I3, rfl, q3⟩
  | true => exact ite_tt (chain_last (thn (hc pins s3 σ H3 _ I3 q3) fun w' s4 ⟨z', H4, I4, r4, q4⟩ => ho' pins s4 σ H4 y z' u w' Q I4 r2 r4 q4))
theorem pt_chain {op op' : CmpOp} {r r' : R2} (ho : OpR X (compareOp op) r) (ho' : OpR X (compareOp op') r') (ha : PE X a ta) (hb : PE X b tb) (hc : PE X c tc)
    (hm : lastMarks [op, op'] [b, c] = false := by with_unfolding_all rfl) : PT X (.Compare a [op, op'] [b, c] pos) (tTest (tChain r r' ta tb tc)) := by
  intro pins s σ H Q I h
  refine isTrue_chain (thn (ha pins s σ H _ I h) fun v s1 ⟨x, H1, I1, r1, q1⟩ => test_link (thn (hb pins s1 σ H1 _ I1 q1) fun u s2 ⟨y, H2, I2, r2, q2⟩ =>
    thn (ho pins s2 σ H2 x y v u _ I2 r1 r2 q2) fun d s3 ⟨z, H3, I3, r3, k, e, q3⟩ => ?_)) hm
  subst e
  cases r3
  refine wpAny_truthy_bool ?_
  cases k with
  | false =>
    obtain ⟨k', e', q'⟩ := q3
    cases e'
    exact ite_ff ⟨H3, I3, q'⟩
  | true =>
    refine ite_tt (test_last (thn (hc pins s3 σ H3 _ I3 q3) fun w' s4 ⟨z', H4, I4, r4, q4⟩ => thn (ho' pins s4 σ H4 y z' u w' _ I4 r2 r4 q4) fun d' s5 ⟨z2, H5, I5, r5, k2, e2, q5⟩ => ?_))
    subst e2
    cases r5
    exact wpAny_truthy_bool ⟨H5, I5, q5⟩
theorem line63 : (sizeLine : Nat) < 2 ^ 63 := by rw [sizeLine_eq]; decide
theorem vals1 {x : V} {us : List Value} (r : Vals [x] us) : ∃ u, us = [u] ∧ RelV x u := by
  cases r with
  | cons r1 r2 => cases r2; exact ⟨_, rfl, r1⟩
theorem vals2 {x y : V} {us : List Value} (r : Vals [x, y] us) : ∃ u w', us = [u, w'] ∧ RelV x u ∧ RelV y w' := by
  cases r with
  | cons r1 r2 =>
    cases r2 with
    | cons r3 r4 => cases r4; exact ⟨_, _, rfl, r1, r3⟩
theorem call_max2 (hc : X.calm = true) : CallR X (.builtin "max") (fun xs H Q => ∃ i j, xs = [.int i, .int j] ∧ Q (.int (if j > i then j else i)) H) := by
  intro pins s σ H xs us Q I r h
  obtain ⟨i, j, rfl, q⟩ := h
  obtain ⟨u, w', rfl, ⟨t, rfl⟩, ⟨t', rfl⟩⟩ := vals2 r
  refine max_two_ints (I.ok.hd hc) fun h' tk k => ⟨_, H, I.kept k, ?_, q⟩
  by_cases hj : j > i
  · rw [if_pos hj, if_pos hj]; exact ⟨_, rfl⟩
  · rw [if_neg hj, if_neg hj]; exact ⟨_, rfl⟩
theorem call_str_int : CallR X (.type "str") (fun xs H Q => ∃ i, xs = [.int i] ∧ i.natAbs.log2 < 1920 ∧ Q (.str (toString i)) H) := by
  intro pins s σ H xs us Q I r h
  obtain ⟨i, rfl, hz, q⟩ := h
  obtain ⟨u, rfl, t, rfl⟩ := vals1 r
  exact PySem.P.str_of_int hz ⟨.str _, H, I.tok _, ⟨_, rfl⟩, q⟩
theorem call_ord : CallR X (.builtin "ord") (fun xs H Q => ∃ x, xs = [.str x] ∧ x.length = 1 ∧ Q (.int (x.cps.getD 0 0 : Nat)) H) := by
  intro pins s σ H xs us Q I r h
  obtain ⟨x, rfl, hz, q⟩ := h
  obtain ⟨u, rfl, t, rfl⟩ := vals1 r
  exact ord_of_one hz ⟨.int _, H, I.tok _, ⟨_, rfl⟩, q⟩
end
end L2
namespace L2
open PySem PySem.Spec PyProof.Rows
structure ObjM (h : Heap) (x dx C : Addr) (mA : Str → Option Value) : Prop where
  obj : h.get? x = some (PySem.W.instObj C dx)
  ns : h.Ns1 dx mA
  ne : dx ≠ x
theorem lookIn_ns {h : Heap} {dx : Addr} {mA : Str → Option Value} (n : h.Ns1 dx mA) : ∃ od, h.get? dx = some od ∧ ∀ name, PySem.W.lookIn name od = some (mA name) := by
  obtain ⟨o, es, ep, ho, hd, hk, _, hm⟩ := n
  refine ⟨o, ho, fun name => ?_⟩
  have e := hm name
  unfold nsFind findBy at e
  rw [← Array.find?_toList] at e
  unfold PySem.W.lookIn
  rw [hd]
  dsimp only
  split
  · rename_i y q
    rw [q] at e
    exact congrArg some e
  · rename_i q
    rw [q] at e
    have a : es.toList.any (·.refKey) = false := by
      rw [List.any_eq_false]
      intro y hy
      obtain ⟨z, t, hkey⟩ := hk y (Array.mem_toList_iff.mp hy)
      simp [DictEntry.refKey, hkey]
    have a' : ¬ es.toList.any (·.refKey) = true := by rw [a]; exact Bool.false_ne_true
    rw [if_neg a']
    exact congrArg some e
theorem ObjM.look {h : Heap} {x dx C : Addr} {mA : Str → Option Value} (I : ObjM h x dx C mA) : ∃ od, PySem.W.InstAt h x (PySem.W.instObj C dx) C (some od) ∧ ∀ name, PySem.W.lookIn name od = some (mA name) :=
  let ⟨od, ho, hl⟩ := lookIn_ns I.ns
  ⟨od, ⟨I.obj, rfl, rfl, ho⟩, hl⟩
section
variable {prog : Program} {w : World} {A : Around} {E : Value → Shared → Prop} {s : Shared} {K : PySem.W.Frag} {x dx C f : Addr} {mA : Str → Option Value} {name : Str} {v : Value}
theorem get_map {expr : Bool} {Q : Value → Shared → Prop} (X : K.In s.heap) (I : ObjM s.heap x dx C mA) (hg : PySem.W.plainGet K C name = true) (hh : PySem.W.hasDictIn K C = true)
    (ha : PySem.W.findIn K (.ref C) name = some none) (hv : mA name = some v) (hv' : PySem.W.handedIn v = true) (h : Q v { s with toks := s.toks + 1 }) :
    wpAny (model prog w) A (getAttr (.ref x) name expr) Q E s := by
  obtain ⟨od, J, hl⟩ := I.look
  exact PySem.W.get_value X J (PySem.W.plainGet_of hg).1 (PySem.W.findObj_own hh ha rfl (by rw [hl, hv])) hv' h
theorem get_meth {pl : Sem Bool} {Q : Value × List Value → Shared → Prop} (X : K.In s.heap) (I : ObjM s.heap x dx C mA) (hg : PySem.W.plainGet K C name = true)
    (hf : PySem.W.findIn K (.ref C) name = some (some (.ref f))) (ht : PySem.W.isFn K (.ref f) = true) (hv : mA name = none) (h : Q (.ref f, [.ref x]) s) :
    wpAny (model prog w) A (getMethod (.ref x) name pl) Q E s := by
  obtain ⟨od, J, hl⟩ := I.look
  exact PySem.W.method_fn X J (PySem.W.plainGet_of hg).1 (PySem.W.plainGet_of hg).2 hf (beq_iff_eq.mp ht) (by show (PySem.W.lookIn name od).map (·.isSome) = some false; rw [hl, hv]; rfl) h
theorem set_map {ns : List Str} {Q : Unit → Shared → Prop} (X : K.In s.heap) (I : ObjM s.heap x dx C mA)
    (hs : PySem.W.findIn K (.ref C) "__setattr__" = some (some (.builtin "object.__setattr__"))) (hp : PySem.W.plainOver K C = true) (ht : PySem.W.takerIn K C name = some none) (hh : PySem.W.hasDictIn K C = true)
    (hw : PySem.Within mA ns) (hsz : ns.length ≤ sizeLine)
    (h : ∀ h', ObjM h' x dx C (fun y => if y = name then some v else mA y) → Heap.SameBut dx s.heap h' → Q () { s with heap := h', toks := s.toks + 2 }) :
    wpAny (model prog w) A (setAttr (.ref x) name v) Q E s := by
  obtain ⟨od, J, hl⟩ := I.look
  refine PySem.W.set_plain X J hs (PySem.W.osa_open (s := { s with toks := s.toks + 1 }) (r := none) X J hp ht fun b => ?_)
  obtain ⟨cd, hc, hd'⟩ := PySem.W.any_some hh
  have hx : s.heap.get? x = some ⟨.ref C, some dx, .plain, #[]⟩ := I.obj
  refine wpAny_bind (wpAny_pure (wpAny_bind (wpAny_bind (wpAny_loadPart hx (wpAny_bind (PySem.W.Looks.here (s := { s with toks := s.toks + 1 }) (PySem.W.looks_clsIn X hc) ?_))))))
  rw [hd']
  refine wpAny_pure (a := some dx) (wpAny_bind (wpAny_pure (wpAny_bind ?_)))
  refine wpAny_nsSet1 (s := { s with toks := s.toks + 1 }) I.ns fun h' hn2 hs2 => ?_
  obtain ⟨oD, esD, epD, hoD, hdD, hcD⟩ := hn2.count (PySem.Within.cons name v hw)
  refine wpAny_bind (wpAny_lookBehind hoD (by rw [hdD]; exact pastItsLine_dict (Nat.le_trans hcD (by rw [List.length_cons]; omega))) ?_)
  exact wpAny_pure (h _ ⟨(hs2.2 _ (Ne.symm I.ne)).trans I.obj, hn2, I.ne⟩ hs2)
theorem make_map {R : Result → Shared → Prop} {vs : List Value} {kw : List (Str × Value)} (X : K.In s.heap) (hm : PySem.W.makesIn K C = true)
    (hi : PySem.W.findIn K (.ref C) "__init__" = some (some (.ref f))) (hf : PySem.W.typeIn K (.ref f) = some (.type "function"))
    (h : codeAny (model prog w) (A.under (.builtin "type.__call__" ⟨.ref C :: vs, kw⟩)) (.call (.ref f) ⟨.ref (s.heap.objs.size + 1) :: vs, kw⟩) (PySem.W.InitBack (s.heap.objs.size + 1) R)
      { s with heap := (s.heap.push PySem.W.emptyDict).push (PySem.W.instObj C s.heap.objs.size) }) :
    codeAny (model prog w) A (.call (.ref C) ⟨vs, kw⟩) R s := by
  obtain ⟨hh, g, d, t, os⟩ := s
  exact PySem.W.make_core (PySem.W.makes_of X hm) (PySem.W.looks_findIn X hi) (fun self => PySem.W.bind_fn X self hf) (.inl rfl) h
end
def putF (f : Str) (v : V) : List (Str × V) → List (Str × V)
  | [] => [(f, v)]
  | (g, x) :: r => if g = f then (g, v) :: r else (g, x) :: putF f v r
theorem lookup_putF (f g : Str) (v : V) : ∀ fs : List (Str × V), (putF f v fs).lookup g = if g = f then some v else fs.lookup g
  | [] => by
    show List.lookup g [(f, v)] = _
    by_cases h : g = f
    · have hb : (g == f) = true := beq_iff_eq.mpr h
      simp only [List.lookup, hb, if_pos h]
    · have hb : (g == f) = false := beq_eq_false_iff_ne.mpr h
      simp only [List.lookup, hb, if_neg h]
  | (k, x) :: r => by
    have ih := lookup_putF f g v r
    rw [show putF f v ((k, x) :: r) = (if k = f then (k, v) :: r else (k, x) :: putF f v r) from rfl]
    by_cases hk : k = f
    · rw [if_pos hk]
      by_cases h : g = k
      · have hb : (g == k) = true := beq_iff_eq.mpr h
        simp only [List.lookup, hb, if_pos (h.trans hk)]
      · have hb : (g == k) = false := beq_eq_false_iff_ne.mpr h
        simp only [List.lookup, hb, if_neg (fun e : g = f => h (e.trans hk.symm))]
    · rw [if_neg hk]
      by_cases h : g = k
      · have hb : (g == k) = true := beq_iff_eq.mpr h
        simp only [List.lookup, hb, if_neg (fun e : g = f => hk (h.symm.trans e))]
      · have hb : (g == k) = false := beq_eq_false_iff_ne.mpr h
        simp only [List.lookup, hb]
        exact ih
theorem keys_putF (f : Str) (v : V) : ∀ fs : List (Str × V), f ∈ (putF f v fs).map (·.1) ∧ ∀ g, g ∈ fs.map (·.1) → g ∈ (putF f v fs).map (·.1)
  | [] => ⟨by simp [putF], fun g h => by simp at h⟩
  | (k, x) :: r => by
    obtain ⟨i1, i2⟩ := keys_putF f v r
    rw [show putF f v ((k, x) :: r) = (if k = f then (k, v) :: r else (k, x) :: putF f v r) from rfl]
    by_cases hk : k = f
    · rw [if_pos hk]
      subst hk
      exact ⟨by simp, fun g h => by simpa using h⟩
    · rw [if_neg hk]
      refine ⟨?_, fun g h => ?_⟩
      · rw [List.map_cons]
        exact List.mem_cons_of_mem _ i1
      · rw [List.map_cons] at h ⊢
        rcases List.mem_cons.mp h with e | e
        · exact List.mem_cons.mpr (.inl e)
        · exact List.mem_cons_of_mem _ (i2 g e)
theorem length_putF (f : Str) (v : V) : ∀ fs : List (Str × V), (putF f v fs).length ≤ fs.length + 1
  | [] => by simp [putF]
  | (k, x) :: r => by
    have ih := length_putF f v r
    rw [show putF f v ((k, x) :: r) = (if k = f then (k, v) :: r else (k, x) :: putF f v r) from rfl]
    by_cases hk : k = f
    · rw [if_pos hk, List.length_cons, List.length_cons]; omega
    · rw [if_neg hk, List.length_cons, List.length_cons]; omega
theorem RelO.some_of {v : V} {o : Option Value} (r : RelO (some v) o) : ∃ u, o = some u ∧ RelV v u := by
  cases o with
  | none => exact (show False from r).elim
  | some u => exact ⟨u, rfl, r⟩
theorem RelO.none_of {o : Option Value} (r : RelO none o) : o = none := by
  cases o with
  | none => rfl
  | some u => exact (show False from r).elim
theorem handed_of {v : V} {u : Value} (r : RelV v u) : PySem.W.handedIn u = true := by
  cases v with
  | non => cases (show u = Value.none from r); rfl
  | bl b => cases (show u = Value.bool b from r); rfl
  | int i => obtain ⟨t, e⟩ := (show ∃ t, u = Value.int i t from r); cases e; rfl
  | str x => obtain ⟨t, e⟩ := (show ∃ t, u = Value.str x t from r); cases e; rfl
  | byt b => obtain ⟨t, e⟩ := (show ∃ t, u = Value.bytes b t from r); cases e; rfl
  | flt b => obtain ⟨t, e⟩ := (show ∃ t, u = Value.float b t from r); cases e; rfl
  | ref a => cases (show u = Value.ref a from r); rfl
  | ty n => cases (show u = Value.type n from r); rfl
section
variable {P : Program} {w : World} {H H' : Hp} {h h' : Heap} {a C dx : Addr} {fs fs' : List (Str × V)}
theorem ins_get (hok : HOk P w H h) (e : H a = some (.ins C dx fs)) : ∃ mA, ObjM h a dx C mA ∧ (∀ f, RelO (fs.lookup f) (mA f)) ∧ PySem.Within mA (fs.map (·.1)) ∧ fs.length ≤ 1000 ∧ H dx = some (.own a) := by
  obtain ⟨d, z, ne, ob, mA, n, r, q⟩ := (show ObjOk P w H h a (.ins C dx fs) from hok a _ e)
  exact ⟨mA, ⟨ob, n, ne⟩, r, q, z, d⟩
end
structure Cls (K : PySem.W.Frag) (C : Addr) : Prop where
  pg : PySem.W.plainGet K C Str.empty = true
  hd : PySem.W.hasDictIn K C = true
  po : PySem.W.plainOver K C = true
  sa : PySem.W.findIn K (.ref C) "__setattr__" = some (some (.builtin "object.__setattr__"))
theorem Cls.get {K : PySem.W.Frag} {C : Addr} (c : Cls K C) (f : Str) : PySem.W.plainGet K C f = true := c.pg
def NoAttr (K : PySem.W.Frag) (C : Addr) (f : Str) : Prop := PySem.W.findIn K (.ref C) f = some none
theorem NoAttr.taker {K : PySem.W.Frag} {C : Addr} {f : Str} (n : NoAttr K C f) : PySem.W.takerIn K C f = some none := by
  unfold PySem.W.takerIn
  rw [show PySem.W.findIn K (.ref C) f = some none from n]
  rfl
structure Con (K : PySem.W.Frag) (C : Addr) (f : Str) (v : V) (u : Value) : Prop where
  at_ : PySem.W.findIn K (.ref C) f = some (some u)
  rel : RelV v u
  get : PySem.W.specialIn K u "__get__" = some none
  cp : PySem.W.copiedNames.contains f = false
structure Meth (K : PySem.W.Frag) (C : Addr) (m : Str) (f : Addr) : Prop where
  at_ : PySem.W.findIn K (.ref C) m = some (some (.ref f))
  fn : PySem.W.isFn K (.ref f) = true
  kp : PySem.W.keepIn K (.ref f) = true
section
variable {X : Cx} {pins : List (Addr × Obj)} {σ : St} {H : Hp} {s : Shared} {a C dx : Addr} {fs : List (Str × V)} {f : Str} {v : V} {A : Around} {E : Value → Shared → Prop}
theorem getattr_ok {b : Bool} {Q : Value → Shared → Prop} (I : Inv X pins σ H s) (e : H a = some (.ins C dx fs)) (c : Cls X.K C) (n : NoAttr X.K C f) (l : fs.lookup f = some v)
    (h : ∀ u s', Inv X pins σ H s' → RelV v u → Q u s') : wpAny (model X.prog X.w) A (getAttr (.ref a) f b) Q E s := by
  obtain ⟨mA, O, r, _, _, _⟩ := ins_get I.hok e
  obtain ⟨u, hu, ru⟩ := RelO.some_of (v := v) (o := mA f) (by rw [← l]; exact r f)
  exact get_map I.kIn O (c.get f) c.hd n hu (handed_of ru) (h u _ (I.tok _) ru)
theorem getmeth_ok {m : Str} {g : Addr} {pl : Sem Bool} {Q : Value × List Value → Shared → Prop} (I : Inv X pins σ H s) (e : H a = some (.ins C dx fs)) (c : Cls X.K C) (k : Meth X.K C m g) (l : fs.lookup m = none)
    (h : Q (.ref g, [.ref a]) s) : wpAny (model X.prog X.w) A (getMethod (.ref a) m pl) Q E s := by
  obtain ⟨mA, O, r, _, _, _⟩ := ins_get I.hok e
  have hn : mA m = none := RelO.none_of (by rw [← l]; exact r m)
  exact get_meth I.kIn O (c.get m) k.at_ k.fn hn h
theorem setattr_ok {y : V} {u : Value} {Q : Unit → Shared → Prop} (I : Inv X pins σ H s) (e : H a = some (.ins C dx fs)) (c : Cls X.K C) (n : NoAttr X.K C f) (hl : fs.length < 1000) (ry : RelV y u)
    (h : ∀ s', Inv X pins σ (upd H a (.ins C dx (putF f y fs))) s' → Q () s') : wpAny (model X.prog X.w) A (setAttr (.ref a) f u) Q E s := by
  obtain ⟨mA, O, r, wi, _, ho⟩ := ins_get I.hok e
  have hz : (fs.map (·.1)).length ≤ sizeLine := by rw [List.length_map, sizeLine_eq]; omega
  refine set_map I.kIn O c.sa c.po n.taker c.hd wi hz fun h' O' sb => h _ ?_
  have hd : ∃ o, h'.get? dx = some o := let ⟨o, _, _, e', _⟩ := O'.ns; ⟨o, e'⟩
  refine I.write (x := a) (e := dx) (by rw [e]; exact True.intro) (.inr ho) (fun b q hb z => (sb.2 b hb).trans z) hd ?_
  refine ⟨by rw [upd_ne O.ne]; exact ho, ?_, O.ne, O'.obj, _, O'.ns, fun g => ?_, fun g hg => ?_⟩
  · have := length_putF f y fs; omega
  · show RelO ((putF f y fs).lookup g) (if g = f then some u else mA g)
    rw [lookup_putF]
    by_cases q : g = f
    · rw [if_pos q, if_pos q]; exact ry
    · rw [if_neg q, if_neg q]; exact r g
  · by_cases q : g = f
    · rw [q]; exact (keys_putF f y fs).1
    · refine (keys_putF f y fs).2 g (wi g fun z => hg ?_)
      show (if g = f then some u else mA g) = none
      rw [if_neg q]; exact z
theorem Inv.made (I : Inv X pins σ H s) : Inv X pins σ (upd (upd H s.heap.objs.size (.own (s.heap.objs.size + 1))) (s.heap.objs.size + 1) (.ins C s.heap.objs.size []))
    { s with heap := (s.heap.push PySem.W.emptyDict).push (PySem.W.instObj C s.heap.objs.size) } := by
  have e1 : (s.heap.push PySem.W.emptyDict).get? s.heap.objs.size = some PySem.W.emptyDict := Heap.get?_push_size s.heap rfl
  have e2 : ((s.heap.push PySem.W.emptyDict).push (PySem.W.instObj C s.heap.objs.size)).get? (s.heap.objs.size + 1) = some (PySem.W.instObj C s.heap.objs.size) := by
    have := Heap.get?_push_size (s.heap.push PySem.W.emptyDict) (o := PySem.W.instObj C s.heap.objs.size) rfl
    rwa [Heap.size_push] at this
  have e3 : (s.heap.push PySem.W.emptyDict).Ns s.heap.objs.size (fun _ => none) := ⟨PySem.W.emptyDict, #[], _, e1, rfl, (fun e he => absurd he (by simp)), fun _ => rfl⟩
  have I1 := I.laid (a := s.heap.objs.size) (o := .own (s.heap.objs.size + 1)) (h' := s.heap.push PySem.W.emptyDict) (t' := s.toks) (fun b u q => Heap.get?_push_of_some _ q) (Nat.le_refl _) ⟨_, e1⟩
  refine I1.laid (a := s.heap.objs.size + 1) (o := .ins C s.heap.objs.size []) (t' := s.toks) (fun b u q => Heap.get?_push_of_some _ q) (Nat.le_of_eq (Heap.size_push _ _)) ?_
  have ne : s.heap.objs.size ≠ s.heap.objs.size + 1 := Nat.ne_of_lt (Nat.lt_succ_self _)
  refine ⟨by rw [upd_ne ne, upd_same], Nat.zero_le _, ne, e2, fun _ => none, (Heap.Ns1.of_empty e3).at fun o q => Heap.get?_push_of_some _ q, fun _ => True.intro, fun y hy => absurd rfl hy⟩
theorem attr_of {prog : Program} {w : World} {env : Env} {e : Expr} {f : Str} {pos : Pos} {s : Shared} {Q : Value → Shared → Prop} (hb : attributeBase e f env (eval e env) = eval e env)
    (h : wpAny (model prog w) A (eval e env) (fun o s₁ => wpAny (model prog w) A (getAttr o f true) Q E s₁) E s) : wpAny (model prog w) A (eval (.Attribute e f pos) env) Q E s :=
  Attribute_any_ h (by rw [arm_eval_Attribute, hb])
end
def tFld (K : PySem.W.Frag) (ta : TE) (f : Str) : TE := fun σ H Q => ta σ H fun x H1 => ∃ a C dx fs v, x = .ref a ∧ H1 a = some (.ins C dx fs) ∧ Cls K C ∧ NoAttr K C f ∧ fs.lookup f = some v ∧ Q v H1
def sFld (K : PySem.W.Frag) (ta tv : TE) (f : Str) : TS := fun D σ H => tv σ H fun y H1 => ta σ H1 fun x H2 => ∃ a C dx fs, x = .ref a ∧ H2 a = some (.ins C dx fs) ∧ Cls K C ∧ NoAttr K C f ∧ fs.length < 1000 ∧
  D.nx σ (upd H2 a (.ins C dx (putF f y fs)))
def InOp (X : Cx) (op : Operator) (rd : V → V → Hp → VK → Prop) : Prop :=
  ∀ (pins : List (Addr × Obj)) (s : Shared) (σ : St) (H : Hp) (x y : V) (u v : Value) (Q : VK), Inv X pins σ H s → RelV x u → RelV y v → rd x y H Q → wpAny (model X.prog X.w) X.A (inplaceOp op u v) (EP X pins σ Q) X.xe s
def sFldAug (K : PySem.W.Frag) (ta tv : TE) (rd : V → V → Hp → VK → Prop) (f : Str) : TS := fun D σ H => ta σ H fun x H1 => ∃ a C dx fs v, x = .ref a ∧ H1 a = some (.ins C dx fs) ∧ Cls K C ∧ NoAttr K C f ∧ fs.lookup f = some v ∧
  tv σ H1 fun y H2 => rd v y H2 fun z H3 => ∃ dx' fs', H3 a = some (.ins C dx' fs') ∧ fs'.length < 1000 ∧ D.nx σ (upd H3 a (.ins C dx' (putF f z fs')))
section
variable {X : Cx} {o e value : Expr} {f : Str} {pos pos' tpos : Pos} {ta tv : TE}
theorem pe_fld (he : PE X e ta) (hb : attributeBase e f X.env (eval e X.env) = eval e X.env) : PE X (.Attribute e f pos) (tFld X.K ta f) := by
  intro pins s σ H Q I h
  refine attr_of hb (thn (he pins s σ H _ I h) fun u s1 ⟨x, H1, I1, rx, a, C, dx, fs, v, ex, ea, c, n, l, q⟩ => ?_)
  subst ex
  obtain rfl : u = Value.ref a := rx
  exact getattr_ok I1 ea c n l fun u' s2 I2 ru => ⟨v, H1, I2, ru, q⟩
theorem ps_fld (ha : PE X o ta) (hv : PE X value tv) (hs : swapsWith value (some (.Attribute o f pos')) pos.line X.env = pure false) : PS X (.Assign [.Attribute o f pos'] value pos) (sFld X.K ta tv f) := by
  intro pins s σ H D I h
  refine plainObj_wpAny_Assign_Attribute (thn (hv pins s σ H _ I h) fun u s1 ⟨y, H1, I1, ry, q⟩ => thn (ha pins s1 σ H1 _ I1 q) fun ov s2 ⟨x, H2, I2, rx, a, C, dx, fs, ex, ea, c, n, l, q2⟩ => ?_) hs
  subst ex
  obtain rfl : ov = Value.ref a := rx
  exact setattr_ok I2 ea c n l ry fun s3 I3 => ⟨σ, _, I3, q2⟩
theorem ps_fldaug {op : Operator} {rd : V → V → Hp → VK → Prop} (ha : PE X o ta) (hv : PE X value tv) (hop : InOp X op rd) : PS X (.AugAssign (.Attribute o f tpos) op value pos) (sFldAug X.K ta tv rd f) := by
  intro pins s σ H D I h
  refine wpAny_AugAssign_AttributeAny (thn (ha pins s σ H _ I h) fun ov s1 ⟨x, H1, I1, rx, a, C, dx, fs, v, ex, ea, c, n, l, q⟩ => ?_)
  subst ex
  obtain rfl : ov = Value.ref a := rx
  refine getattr_ok I1 ea c n l fun u s2 I2 ru => thn (hv pins s2 σ H1 _ I2 q) fun w3 s3 ⟨y, H2, I3, ry, q3⟩ => thn (hop pins s3 σ H2 v y u w3 _ I3 ru ry q3) fun w4 s4 ⟨z, H3, I4, rz, dx', fs', ea', l', q4⟩ => ?_
  exact setattr_ok I4 ea' c n l' rz fun s5 I5 => ⟨σ, _, I5, q4⟩
def rAdd : V → V → Hp → VK → Prop := fun x y H Q => ∃ i j, x = .int i ∧ y = .int j ∧ Q (.int (i + j)) H
theorem in_add : InOp X .Add rAdd := by
  rintro pins s σ H x y u v Q I rx ry ⟨i, j, rfl, rfl, q⟩
  obtain ⟨t, rfl⟩ := (show ∃ t, u = Value.int i t from rx)
  obtain ⟨t', rfl⟩ := (show ∃ t', v = Value.int j t' from ry)
  exact PyProof.Rows.iadd_int ⟨.int (i + j), H, I.tok _, ⟨_, rfl⟩, q⟩
theorem methcall_of {pl : Sem Bool} {m : Str} {apos : Pos} {args : List Expr} {pins : List (Addr × Obj)} {s : Shared} {σ : St} {H : Hp} {Q : Value → Shared → Prop} {te : TE} (he : PE X e te) (I : Inv X pins σ H s)
    (h : te σ H fun x H1 => ∃ a C dx fs g, x = .ref a ∧ H1 a = some (.ins C dx fs) ∧ Cls X.K C ∧ Meth X.K C m g ∧ fs.lookup m = none ∧
      ∀ s1, Inv X pins σ H1 s1 → wpAny (model X.prog X.w) X.A (callWith pos (.ref g) [.ref a] (backTo pos (starEach args X.env)) (backToKw pos (keywordEach [] X.env))) Q X.xe s1)
    (ht : eval (.Call (.Attribute e m apos) args [] pos) X.env = (do
      let ov ← eval e X.env
      standAt apos.atName
      let (f, first) ← holding [ov] (getMethod ov m pl)
      callWith pos f first (backTo pos (starEach args X.env)) (backToKw pos (keywordEach [] X.env)))) :
    wpAny (model X.prog X.w) X.A (eval (.Call (.Attribute e m apos) args [] pos) X.env) Q X.xe s := by
  refine PySem.W.methodCall_KW (pl := pl) (thn (he pins s σ H _ I h) fun u s1 ⟨x, H1, I1, rx, a, C, dx, fs, g, ex, ea, c, k, l, q⟩ => ?_) ht
  subst ex
  obtain rfl : u = Value.ref a := rx
  exact getmeth_ok I1 ea c k l (q s1 I1)
end
section
variable {X : Cx} {pins : List (Addr × Obj)} {σ : St} {H : Hp} {s : Shared} {A : Around} {E : Value → Shared → Prop} {Q : Value → Shared → Prop} {c : Value} {b : Bool}
inductive TyOf (K : PySem.W.Frag) (H : Hp) : V → Value → Prop where
  | non : TyOf K H .non (.type "NoneType")
  | bl (x : Bool) : TyOf K H (.bl x) (.type "bool")
  | int (i : Int) : TyOf K H (.int i) (.type "int")
  | str (x : Str) : TyOf K H (.str x) (.type "str")
  | flt (x : UInt64) : TyOf K H (.flt x) (.type "float")
  | lst {a : Addr} {xs : List V} (e : H a = some (.lst xs)) : TyOf K H (.ref a) (.type "list")
  | frz {a : Addr} {o : Obj} {xs : List V} (e : H a = some (.frz o (.lst xs))) : TyOf K H (.ref a) (.type "list")
  | tup {a : Addr} {xs : List V} (e : H a = some (.tup xs)) : TyOf K H (.ref a) (.type "tuple")
  | dK {a : Addr} {kvs : List (Key × V)} (e : H a = some (.dK kvs)) : TyOf K H (.ref a) (.type "dict")
  | dT {a : Addr} {kvs : List (List Key × V)} (e : H a = some (.dT kvs)) : TyOf K H (.ref a) (.type "dict")
  | ins {a C dx : Addr} {fs : List (Str × V)} (e : H a = some (.ins C dx fs)) (cl : Cls K C) (ha : PySem.W.findIn K (.ref C) "__class__" = some (some (.builtin "object.__class__")))
      (hn : PySem.W.specialIn K (.builtin "object.__class__") "__get__" = some (some (.builtin "getset_descriptor.__get__"))) (htk : PySem.W.takesIn K (.builtin "object.__class__") = some true)
      (hm : PySem.W.mroIn K C (.type "object") = some true) : TyOf K H (.ref a) (.ref C)
end
end L2
namespace L2
open PySem PySem.Spec PyProof.Rows
structure Room (k : Nat) (A : Around) : Prop where
  hd : A.handled = none
  dp : A.depth + 3 * k + 5 < recursionLimit
  un : A.units + 16 * k + 200 < cLine
theorem Room.mono {j k : Nat} {A : Around} (r : Room k A) (h : j ≤ k) : Room j A := ⟨r.hd, by have := r.dp; omega, by have := r.un; omega⟩
theorem Room.deeper {k : Nat} {A : Around} (r : Room (k + 1) A) (env : Env) : Room k (A.deeper env) :=
  ⟨r.hd, by have := r.dp; show A.depth + 1 + 3 * k + 5 < _; omega, by have := r.un; show A.units + 3 + 16 * k + 200 < _; omega⟩
theorem Room.in1 {k : Nat} {A : Around} (r : Room (k + 1) A) : Room k A.in1 :=
  ⟨r.hd, by have := r.dp; show A.depth + 3 * k + 5 < _; omega, by have := r.un; show A.units + 1 + 16 * k + 200 < _; omega⟩
theorem make_depth {A : Around} {C : Addr} {us : List Value} {kw : List (Str × Value)} : (A.under (.builtin "type.__call__" ⟨.ref C :: us, kw⟩)).depth = A.depth + 1 := by
  first | rfl | simp [Around.under, Code.weight, Code.isCreation, Code.isGuard, Code.isCaller, Code.frames, Code.isFrame, guardIds]
theorem make_units {A : Around} {C : Addr} {us : List Value} {kw : List (Str × Value)} : (A.under (.builtin "type.__call__" ⟨.ref C :: us, kw⟩)).units = A.units + 1 := by
  first | rfl | simp [Around.under, Code.cUnits, Code.frames, Code.isFrame]
theorem Room.make {k : Nat} {A : Around} (r : Room (k + 1) A) (C : Addr) (us : List Value) (kw : List (Str × Value)) : Room k (A.under (.builtin "type.__call__" ⟨.ref C :: us, kw⟩)) :=
  ⟨r.hd, by have := r.dp; rw [make_depth]; omega, by have := r.un; rw [make_units]; omega⟩
theorem Room.depth {k : Nat} {A : Around} (r : Room k A) : A.depth < recursionLimit := by have := r.dp; omega
theorem Room.units {k : Nat} {A : Around} (r : Room k A) : A.units + 64 < cLine := by have := r.un; omega
def tNil : TA := fun _ H Q => Q [] H
def tCons (ta : TE) (tr : TA) : TA := fun σ H Q => ta σ H fun x H1 => tr σ H1 fun xs H2 => Q (x :: xs) H2
section
variable {X : Cx} {e : Expr} {es : List Expr} {te : TE} {t : TA} {pos : Pos}
theorem pa_nil : PA X [] tNil := fun _ _ _ _ H Q I h => Calls.spliced_nil ⟨[], H, I, .nil, h⟩
theorem pa_cons (ha : PE X e te) (hr : PA X es t) (hs : starEach (e :: es) X.env = (false, eval e X.env) :: starEach es X.env := by rfl) : PA X (e :: es) (tCons te t) := by
  intro pos pins s σ H Q I h
  rw [hs]
  show wpAny _ _ (spliced ((false, eval e X.env) :: backTo pos (starEach es X.env))) _ _ s
  refine Calls.spliced_cons (thn (ha pins s σ H _ I h) fun u s1 ⟨x, H1, I1, r1, q1⟩ => ?_)
  exact thn (hr pos pins s1 σ H1 _ I1 q1) fun us s2 ⟨xs, H2, I2, r2, q2⟩ => ⟨x :: xs, H2, I2, .cons r1 r2, q2⟩
def tTup (t : TA) : TE := fun σ H Q => t σ H fun xs H1 => xs.length ≤ sizeLine ∧ ∀ p, H1 p = none → Q (.ref p) (upd H1 p (.tup xs))
def tLst (t : TA) : TE := fun σ H Q => t σ H fun xs H1 => xs.length ≤ sizeLine ∧ ∀ p, H1 p = none → Q (.ref p) (upd H1 p (.lst xs))
theorem pe_tup {x1} (h : PA X es t) : PE X (.Tuple es x1 pos) (tTup t) := by
  intro pins s σ H Q I hq
  refine wpAny_Tuple_spliced (thn (h pos pins s σ H _ I hq) fun us s1 ⟨xs, H1, I1, r, z, q⟩ => ⟨by rw [← r.length]; exact z, ?_⟩)
  have hf : H1 s1.heap.objs.size = none := I1.hok.fresh (Nat.le_refl _)
  refine ⟨.ref s1.heap.objs.size, upd H1 s1.heap.objs.size (.tup xs), I1.laid (t' := s1.toks) (fun b u e => Heap.get?_push_of_some _ e) (Nat.le_refl _) ?_, rfl, q _ hf⟩
  exact ⟨z, us, r, ⟨_, Heap.get?_push_size _ rfl, rfl, _, rfl⟩⟩
theorem pe_lst (h : PA X es t) : PE X (.List es pos) (tLst t) := by
  intro pins s σ H Q I hq
  refine wpAny_List_spliced (thn (h pos pins s σ H _ I hq) fun us s1 ⟨xs, H1, I1, r, z, q⟩ => ⟨by rw [← r.length]; exact z, ?_⟩)
  have hf : H1 s1.heap.objs.size = none := I1.hok.fresh (Nat.le_refl _)
  refine ⟨.ref s1.heap.objs.size, upd H1 s1.heap.objs.size (.lst xs), I1.laid (t' := s1.toks) (fun b u e => Heap.get?_push_of_some _ e) (Nat.le_refl _) ?_, rfl, q _ hf⟩
  exact ⟨z, us, 0, r, Heap.get?_push_size _ rfl⟩
end
abbrev Sp := List V → Hp → VK → XK → Prop
abbrev CXT := List Env → Hp → Shared → XK → Value → Shared → Prop
structure Env0 (P : Program) (w : World) (K : PySem.W.Frag) (mg : Str → Option Value) (base : Heap) (A : Around) (outer : List Env) (s : Shared) (H : Hp) : Prop where
  frames : A.frames = some outer
  mod : Mod K mg base
  bs : ∀ b o, base.get? b = some o → s.heap.get? b = some o ∧ H b = none
  bsz : base.objs.size ≤ s.heap.objs.size
  funs : s.heap.FunFrames base outer
  frf : ∀ b ∈ frs outer, H b = none
  hok : HOk P w H s.heap
  bare : AllBare s.gens
def CE (outer : List Env) (P : Program) (w : World) (H : Hp) (s : Shared) (Q : VK) (u : Value) (s' : Shared) : Prop :=
  ∃ v H', s'.os = s.os ∧ AllBare s'.gens ∧ Un (frs outer) [] H H' s.heap s'.heap ∧ HOk P w H' s'.heap ∧ RelV v u ∧ Q v H'
def CR (CX : CXT) (outer : List Env) (P : Program) (w : World) (H : Hp) (s : Shared) (Q : VK) (E : XK) (r : Result) (s' : Shared) : Prop :=
  match r with
  | .ok (.ret u) => CE outer P w H s Q u s'
  | .ok _ => False
  | .error e => CX outer H s E e s'
structure FnOk (P : Program) (w : World) (K : PySem.W.Frag) (mg : Str → Option Value) (base : Heap) (CX : CXT) (k : Nat) (f : Addr) (fd : FuncData) (ps : List Str) (sp : Sp) : Prop where
  len : ∀ vs H Q E, sp vs H Q E → vs.length = ps.length
  run : ∀ (A : Around) (outer : List Env) (s : Shared) (H : Hp) (args : Args) (us : List Value) (vs : List V) (Q : VK) (E : XK), Room k A → Env0 P w K mg base A outer s H → BindsTo s fd args (ps.zip us) → Vals vs us → sp vs H Q E →
    codeAny (model P w) A (.call (.ref f) args) (CR CX outer P w H s Q E) s
theorem Env0.make {P : Program} {w : World} {K : PySem.W.Frag} {mg : Str → Option Value} {base : Heap} {A : Around} {outer : List Env} {s : Shared} {H : Hp} (e : Env0 P w K mg base A outer s H) (C : Addr) (us : List Value) (kw : List (Str × Value)) :
    Env0 P w K mg base (A.under (.builtin "type.__call__" ⟨.ref C :: us, kw⟩)) outer s H := ⟨by first | exact e.frames | (simpa [Around.under, Code.envs, Code.isFrame, pushEnvs] using e.frames), e.mod, e.bs, e.bsz, e.funs, e.frf, e.hok, e.bare⟩
theorem Env0.in1 {P : Program} {w : World} {K : PySem.W.Frag} {mg : Str → Option Value} {base : Heap} {A : Around} {outer : List Env} {s : Shared} {H : Hp} (e : Env0 P w K mg base A outer s H) :
    Env0 P w K mg base A.in1 outer s H := ⟨e.frames, e.mod, e.bs, e.bsz, e.funs, e.frf, e.hok, e.bare⟩
section
variable {X : Cx} {pins : List (Addr × Obj)} {σ : St} {H : Hp} {s s' : Shared}
theorem Inv.env0 (I : Inv X pins σ H s) : Env0 X.prog X.w X.K X.mg X.base X.A X.stack s H :=
  ⟨I.ok.frames, I.ok.mod, I.bs, Nat.le_trans I.ok.bsz I.sz, I.stack, I.stkFree, I.hok, I.bare⟩
theorem Inv.after {Q : VK} {u : Value} (I : Inv X pins σ H s) (h : CE X.stack X.prog X.w H s Q u s') : EP X pins σ Q u s' := by
  obtain ⟨v, H', os, bare, un, hok, r, q⟩ := h
  obtain ⟨hh, g, d, t, os'⟩ := s'
  obtain rfl : os' = s.os := os
  exact ⟨v, H', I.call (h' := hh) (g' := g) (d' := d) (t' := t) (ch := []) un hok bare (fun b z => absurd z (by simp)), r, q⟩
end
def tCall (sp : Sp) (dvs : List V) (E : XK) (t : TA) : TE := fun σ H Q => t σ H fun vs H1 => sp (vs ++ dvs) H1 Q E
def tMeth (C : Addr) (m : Str) (sp : Sp) (dvs : List V) (E : XK) (ta : TE) (t : TA) : TE := fun σ H Q => ta σ H fun x H1 => ∃ a dx fs, x = .ref a ∧ H1 a = some (.ins C dx fs) ∧ fs.lookup m = none ∧
  t σ H1 fun vs H2 => sp (x :: (vs ++ dvs)) H2 Q E
def tMake (C : Addr) (sp : Sp) (dvs : List V) (E : XK) (t : TA) : TE := fun σ H Q => t σ H fun vs H1 => ∀ x dx, H1 x = none → H1 dx = none → dx ≠ x →
  sp (.ref x :: (vs ++ dvs)) (upd (upd H1 dx (.own x)) x (.ins C dx [])) (fun v H2 => v = .non ∧ Q (.ref x) H2) E
def Binds (K : PySem.W.Frag) (fd : FuncData) (ps : List Str) (ds : List Value) : Prop :=
  ∀ (s : Shared) (us : List Value), K.In s.heap → (us ++ ds).length = ps.length → BindsTo s fd ⟨us, []⟩ (ps.zip (us ++ ds))
theorem Binds.all {K : PySem.W.Frag} {fd : FuncData} {ps : List Str} (h : ∀ us : List Value, us.length = ps.length → bindArgs fd ⟨us, []⟩ = pure (ps.zip us)) : Binds K fd ps [] := fun s us _ hl => by
  rw [List.append_nil] at hl ⊢
  exact .of_eq (h us hl)
def Passes (CX : CXT) (X : Cx) (E : XK) : Prop := ∀ (pins : List (Addr × Obj)) (σ : St) (H : Hp) (s : Shared) (e : Value) (s' : Shared), Inv X pins σ H s → CX X.stack H s E e s' → X.xe e s'
section
variable {X : Cx} {CX : CXT} {k : Nat} {f C : Addr} {fd : FuncData} {ps : List Str} {sp : Sp} {dvs : List V} {ds : List Value} {E : XK} {x m : Str} {p pos apos : Pos} {e o : Expr} {es : List Expr} {ta : TE} {t : TA}
theorem run_fn {pins : List (Addr × Obj)} {σ : St} {H : Hp} {s : Shared} {Q : VK} {us : List Value} {vs : List V} (F : FnOk X.prog X.w X.K X.mg X.base CX k f fd ps sp) (hr : Room k X.A) (hb : Binds X.K fd ps ds) (hd : Vals dvs ds) (hx : Passes CX X E)
    (I : Inv X pins σ H s) (r : Vals vs us) (h : sp (vs ++ dvs) H Q E) : wpAny (model X.prog X.w) X.A (call (.ref f) us) (EP X pins σ Q) X.xe s := by
  have r2 : Vals (vs ++ dvs) (us ++ ds) := r.append hd
  have hl : (us ++ ds).length = ps.length := by rw [← r2.length]; exact F.len _ _ _ _ h
  refine wpAny_call (codeAny_mono (F.run X.A X.stack s H ⟨us, []⟩ (us ++ ds) (vs ++ dvs) Q E hr I.env0 (hb s us I.kIn hl) r2 h) fun r s' hq => ?_)
  cases r with
  | error e => exact hx pins σ H s e s' I hq
  | ok fl =>
    cases fl with
    | ret u => exact I.after hq
    | next => exact False.elim hq
    | brk => exact False.elim hq
    | cont => exact False.elim hq
theorem pe_call (F : FnOk X.prog X.w X.K X.mg X.base CX k f fd ps sp) (hr : Room k X.A) (hg : Gl X x) (hm : X.mg x = some (.ref f)) (hk : PySem.W.keepIn X.K (.ref f) = true) (hb : Binds X.K fd ps ds) (hd : Vals dvs ds) (hx : Passes CX X E)
    (ha : PA X (e :: es) t) (hdb : (x == ("__debug__" : Str)) = false := by decide) (he : starEach (e :: es) X.env = (false, eval e X.env) :: starEach es X.env := by rfl) (hpl : (backTo pos (starEach es X.env)).any (·.1) = false := by rfl) :
    PE X (.Call (.Name x p) (e :: es) [] pos) (tCall sp dvs E t) := by
  intro pins s σ H Q I h
  refine wpAny_Call_Name_kw (ld_glob I hg hm ?_ hdb)
  refine PySem.W.callWith_K (h₀ := X.base) I.ok.mod.kin hk (thn (ha pos pins s σ H _ I h) fun us s1 ⟨vs, H1, I1, r, q⟩ => ⟨I1.kIn, ?_⟩) he hpl
  exact run_fn F hr hb hd hx I1 r q
theorem pe_meth {pl : Sem Bool} (he : PE X o ta) (c : Cls X.K C) (hm : Meth X.K C m f) (F : FnOk X.prog X.w X.K X.mg X.base CX k f fd ps sp) (hr : Room k X.A) (hb : Binds X.K fd ps ds) (hd : Vals dvs ds) (hx : Passes CX X E) (ha : PA X (e :: es) t)
    (hst : starEach (e :: es) X.env = (false, eval e X.env) :: starEach es X.env := by rfl) (hpl : (backTo pos (starEach es X.env)).any (·.1) = false := by rfl)
    (ht : eval (.Call (.Attribute o m apos) (e :: es) [] pos) X.env = (do
      let ov ← eval o X.env
      standAt apos.atName
      let (f, first) ← holding [ov] (getMethod ov m pl)
      callWith pos f first (backTo pos (starEach (e :: es) X.env)) (backToKw pos (keywordEach [] X.env))) := by rfl) :
    PE X (.Call (.Attribute o m apos) (e :: es) [] pos) (tMeth C m sp dvs E ta t) := by
  intro pins s σ H Q I h
  refine PySem.W.methodCall_KW (pl := pl) (thn (he pins s σ H _ I h) fun u s1 ⟨x, H1, I1, rx, a, dx, fs, ex, ea, l, q⟩ => ?_) ht
  subst ex
  obtain rfl : u = Value.ref a := rx
  refine getmeth_ok I1 ea c hm l ?_
  refine PySem.W.callWith_K (first := [.ref a]) (h₀ := X.base) I.ok.mod.kin hm.kp (thn (ha pos pins s1 σ H1 _ I1 q) fun us s2 ⟨vs, H2, I2, r, q2⟩ => ⟨I2.kIn, ?_⟩) hst hpl
  exact run_fn (us := .ref a :: us) (vs := .ref a :: vs) F hr hb hd hx I2 (.cons rfl r) q2
theorem pe_meth0 {pl : Sem Bool} (he : PE X o ta) (c : Cls X.K C) (hm : Meth X.K C m f) (F : FnOk X.prog X.w X.K X.mg X.base CX k f fd ps sp) (hr : Room k X.A) (hb : Binds X.K fd ps ds) (hd : Vals dvs ds) (hx : Passes CX X E)
    (ht : eval (.Call (.Attribute o m apos) [] [] pos) X.env = (do
      let ov ← eval o X.env
      standAt apos.atName
      let (f, first) ← holding [ov] (getMethod ov m pl)
      callWith pos f first (backTo pos (starEach [] X.env)) (backToKw pos (keywordEach [] X.env))) := by rfl) :
    PE X (.Call (.Attribute o m apos) [] [] pos) (tMeth C m sp dvs E ta tNil) := by
  intro pins s σ H Q I h
  refine PySem.W.methodCall_KW (pl := pl) (thn (he pins s σ H _ I h) fun u s1 ⟨x, H1, I1, rx, a, dx, fs, ex, ea, l, q⟩ => ?_) ht
  subst ex
  obtain rfl : u = Value.ref a := rx
  refine getmeth_ok I1 ea c hm l ?_
  exact PySem.W.callWith_K0 (first := [.ref a]) I1.kIn hm.kp (run_fn (us := [.ref a]) (vs := [.ref a]) F hr hb hd hx I1 (.cons rfl .nil) q)
structure Mk (K : PySem.W.Frag) (C f : Addr) : Prop where
  makes : PySem.W.makesIn K C = true
  init : PySem.W.findIn K (.ref C) "__init__" = some (some (.ref f))
  fn : PySem.W.isFn K (.ref f) = true
  kp : PySem.W.keepIn K (.ref C) = true
theorem run_make {pins : List (Addr × Obj)} {σ : St} {H : Hp} {s : Shared} {Q : VK} {us : List Value} {vs : List V} (M : Mk X.K C f) (F : FnOk X.prog X.w X.K X.mg X.base CX k f fd ps sp) (hr : Room (k + 1) X.A) (hb : Binds X.K fd ps ds) (hd : Vals dvs ds)
    (hx : Passes CX X E) (I : Inv X pins σ H s) (r : Vals vs us)
    (h : ∀ x dx, H x = none → H dx = none → dx ≠ x → sp (.ref x :: (vs ++ dvs)) (upd (upd H dx (.own x)) x (.ins C dx [])) (fun v H2 => v = .non ∧ Q (.ref x) H2) E) :
    wpAny (model X.prog X.w) X.A (call (.ref C) us) (EP X pins σ Q) X.xe s := by
  have hq := h (s.heap.objs.size + 1) s.heap.objs.size (I.hok.fresh (Nat.le_succ _)) (I.hok.fresh (Nat.le_refl _)) (Nat.ne_of_lt (Nat.lt_succ_self _))
  have I2 := Inv.made (C := C) I
  have r2 : Vals (V.ref (s.heap.objs.size + 1) :: (vs ++ dvs)) (Value.ref (s.heap.objs.size + 1) :: (us ++ ds)) := .cons rfl (r.append hd)
  have hl : (Value.ref (s.heap.objs.size + 1) :: us ++ ds).length = ps.length := by
    have e := r2.length
    rw [F.len _ _ _ _ hq] at e
    exact e.symm
  refine wpAny_call (make_map (f := f) I.kIn M.makes M.init (beq_iff_eq.mp M.fn) (codeAny_mono (F.run _ X.stack _ _ ⟨Value.ref (s.heap.objs.size + 1) :: us, []⟩ (Value.ref (s.heap.objs.size + 1) :: (us ++ ds)) _ _ E (hr.make C us [])
    (I2.env0.make C us []) (hb _ (Value.ref (s.heap.objs.size + 1) :: us) I2.kIn hl) r2 hq) fun r s' hq' => ?_))
  cases r with
  | error e => exact hx pins σ _ _ e s' I2 hq'
  | ok fl =>
    cases fl with
    | ret u =>
      obtain ⟨v, H', I3, rv, ev, q3⟩ := I2.after hq'
      subst ev
      exact ⟨rv, ⟨V.ref (s.heap.objs.size + 1), H', I3, rfl, q3⟩⟩
    | next => exact False.elim hq'
    | brk => exact False.elim hq'
    | cont => exact False.elim hq'
theorem pe_make (M : Mk X.K C f) (F : FnOk X.prog X.w X.K X.mg X.base CX k f fd ps sp) (hr : Room (k + 1) X.A) (hg : Gl X x) (hm : X.mg x = some (.ref C)) (hb : Binds X.K fd ps ds) (hd : Vals dvs ds) (hx : Passes CX X E)
    (ha : PA X (e :: es) t) (hdb : (x == ("__debug__" : Str)) = false := by decide) (he : starEach (e :: es) X.env = (false, eval e X.env) :: starEach es X.env := by rfl) (hpl : (backTo pos (starEach es X.env)).any (·.1) = false := by rfl) :
    PE X (.Call (.Name x p) (e :: es) [] pos) (tMake C sp dvs E t) := by
  intro pins s σ H Q I h
  refine wpAny_Call_Name_kw (ld_glob I hg hm ?_ hdb)
  refine PySem.W.callWith_K (h₀ := X.base) I.ok.mod.kin M.kp (thn (ha pos pins s σ H _ I h) fun us s1 ⟨vs, H1, I1, r, q⟩ => ⟨I1.kIn, ?_⟩) he hpl
  exact run_make M F hr hb hd hx I1 r q
theorem pe_make0 (M : Mk X.K C f) (F : FnOk X.prog X.w X.K X.mg X.base CX k f fd ps sp) (hr : Room (k + 1) X.A) (hg : Gl X x) (hm : X.mg x = some (.ref C)) (hb : Binds X.K fd ps ds) (hd : Vals dvs ds) (hx : Passes CX X E)
    (hdb : (x == ("__debug__" : Str)) = false := by decide) : PE X (.Call (.Name x p) [] [] pos) (tMake C sp dvs E tNil) := by
  intro pins s σ H Q I h
  refine wpAny_Call_Name_kw (ld_glob I hg hm ?_ hdb)
  exact PySem.W.callWith_K0 I.kIn M.kp (run_make (us := []) M F hr hb hd hx I .nil h)
end
def PK (X : Cx) (kws : List Keyword) (t : TA) : Prop :=
  ∀ (pos : Pos) (pins : List (Addr × Obj)) (s : Shared) (σ : St) (H : Hp) (Q : List V → Hp → Prop), Inv X pins σ H s → t σ H Q → wpAny (model X.prog X.w) X.A (evalAll ((backToKw pos (keywordEach kws X.env)).map (·.2))) (AP X pins σ Q) X.xe s
section
variable {X : Cx} {CX : CXT} {k : Nat} {f C : Addr} {fd : FuncData} {ps ks : List Str} {sp : Sp} {E : XK} {x m : Str} {p pos apos kpos : Pos} {e o : Expr} {es : List Expr} {kws : List Keyword} {te ta : TE} {t tk : TA} {nm : Option Str}
theorem pk_nil : PK X [] tNil := fun _ _ _ _ H Q I h => wpAny_evalAll_nil ⟨[], H, I, .nil, h⟩
theorem pk_cons (ha : PE X e te) (hr : PK X kws t) : PK X (⟨nm, e, kpos⟩ :: kws) (tCons te t) := by
  intro pos pins s σ H Q I h
  show wpAny _ _ (evalAll ((do let v ← eval e X.env; standAt pos; pure v) :: (backToKw pos (keywordEach kws X.env)).map (·.2))) _ _ s
  refine wpAny_evalAll_cons (wpAny_bind (thn (ha pins s σ H _ I h) fun u s1 ⟨x, H1, I1, r1, q1⟩ => wpAny_bind (wpAny_standAt (wpAny_pure ?_))))
  exact thn (hr pos pins s1 σ H1 _ I1 q1) fun us s2 ⟨xs, H2, I2, r2, q2⟩ => ⟨x :: xs, H2, I2, .cons r1 r2, q2⟩
structure KBinds (K : PySem.W.Frag) (fd : FuncData) (ps ks : List Str) (g : List Value → List Value → List Value) (gV : List V → List V → List V) : Prop where
  to : ∀ (s : Shared) (us ws : List Value), K.In s.heap → (g us ws).length = ps.length → BindsTo s fd ⟨us, ks.zip ws⟩ (ps.zip (g us ws))
  rel : ∀ {vs : List V} {us : List Value} {zs : List V} {ws : List Value}, Vals vs us → Vals zs ws → Vals (gV vs zs) (g us ws)
variable {g : List Value → List Value → List Value} {gV : List V → List V → List V}
end
structure FnScope (N P : List Str) (sc : Scope) : Prop where
  kind : sc.kind = .function
  co : sc.isCoroutine = false
  gen : sc.isGenerator = false
  nd : N.Nodup
  pre : N.take P.length = P
  par : ∀ x ∈ P, sc.names.lookup x = some .local ∨ sc.names.lookup x = some .cell
  nofree : ∀ y ∈ sc.names, y.2 ≠ .free
theorem bindL_out {kindOf : Str → Option NameKind} {x : Str} : ∀ {binds : List (Str × Value)} {m : Str → Option Value}, (∀ v, (x, v) ∉ binds) → bindL kindOf binds m x = m x
  | [], _, _ => rfl
  | (n, v) :: r, m, h => by
    unfold bindL
    rw [bindL_out fun w hw => h w (List.mem_cons_of_mem _ hw)]
    split
    · have : x ≠ n := by rintro rfl; exact h v List.mem_cons_self
      simp [this]
    · rfl
theorem bindC_out {kindOf : Str → Option NameKind} {x : Str} : ∀ {binds : List (Str × Value)} {m : Str → Option Value}, (∀ v, (x, v) ∉ binds) → bindC kindOf binds m x = m x
  | [], _, _ => rfl
  | (n, v) :: r, m, h => by
    unfold bindC
    rw [bindC_out fun w hw => h w (List.mem_cons_of_mem _ hw)]
    split
    · rfl
    · have : x ≠ n := by rintro rfl; exact h v List.mem_cons_self
      simp [this]
theorem bindL_get {kindOf : Str → Option NameKind} {x : Str} {v : Value} : ∀ {P : List Str} {vs : List Value} {i : Nat} {m : Str → Option Value}, P.Nodup → P[i]? = some x → vs[i]? = some v → kindOf x = some .local →
    bindL kindOf (P.zip vs) m x = some v
  | [], _, _, _, _, h, _, _ => by simp at h
  | _ :: _, [], _, _, _, _, h, _ => by simp at h
  | p :: P, w :: vs, 0, m, nd, h1, h2, hk => by
    simp at h1 h2; subst h1; subst h2
    show bindL kindOf ((p, w) :: P.zip vs) m p = _
    unfold bindL
    rw [bindL_out fun v hv => (List.nodup_cons.mp nd).1 (List.of_mem_zip hv).1, if_pos hk]
    simp
  | p :: P, w :: vs, i + 1, m, nd, h1, h2, hk => by
    show bindL kindOf ((p, w) :: P.zip vs) m x = _
    unfold bindL
    exact bindL_get (i := i) (List.nodup_cons.mp nd).2 (by simpa using h1) (by simpa using h2) hk
theorem bindC_get {kindOf : Str → Option NameKind} {x : Str} {v : Value} : ∀ {P : List Str} {vs : List Value} {i : Nat} {m : Str → Option Value}, P.Nodup → P[i]? = some x → vs[i]? = some v → kindOf x ≠ some .local →
    bindC kindOf (P.zip vs) m x = some v
  | [], _, _, _, _, h, _, _ => by simp at h
  | _ :: _, [], _, _, _, _, h, _ => by simp at h
  | p :: P, w :: vs, 0, m, nd, h1, h2, hk => by
    simp at h1 h2; subst h1; subst h2
    show bindC kindOf ((p, w) :: P.zip vs) m p = _
    unfold bindC
    rw [bindC_out fun v hv => (List.nodup_cons.mp nd).1 (List.of_mem_zip hv).1, if_neg hk]
    simp
  | p :: P, w :: vs, i + 1, m, nd, h1, h2, hk => by
    show bindC kindOf ((p, w) :: P.zip vs) m x = _
    unfold bindC
    exact bindC_get (i := i) (List.nodup_cons.mp nd).2 (by simpa using h1) (by simpa using h2) hk
def start (N : List Str) (vs : List V) : St := vs.map some ++ List.replicate (N.length - vs.length) none
def cxOf (CX : CXT) (P : Program) (w : World) (K : PySem.W.Frag) (mg : Str → Option Value) (base : Heap) (N : List Str) (qual : Str) (scope : Scope) (f : Addr) (cd : Value) (A : Around) (outer : List Env) (s : Shared) (H : Hp) (E : XK) : Cx where
  prog := P
  w := w
  K := K
  mg := mg
  base := base
  A := A.deeper (envOfC qual scope s.heap.objs.size f cd)
  N := N
  s_0 := s
  H_0 := H
  env := envOfC qual scope s.heap.objs.size f cd
  outer := outer
  stack := envOfC qual scope s.heap.objs.size f cd :: outer
  ex := []
  calm := true
  fn := fun _ => true
  pn := []
  xe := fun e s' => wpAny (model P w) (A.deeper (envOfC qual scope s.heap.objs.size f cd)) (leaving (envOfC qual scope s.heap.objs.size f cd) e) (fun _ s'' => CX outer H s E e s'') (fun e' s'' => CX outer H s E e' s'') s'
theorem cell_has {sc : Scope} {n : Nat} {x : Str} (h : sc.names.lookup x = some .cell) : ∃ c, (cellsFrom n sc.names []).lookup x = some c := by
  have q := PySem.W.cellsFrom_some sc.names n [] (.inl h)
  exact Option.isSome_iff_exists.mp q
theorem inv_start {CX : CXT} {P : Program} {w : World} {K : PySem.W.Frag} {mg : Str → Option Value} {base : Heap} {N ps : List Str} {qual : Str} {scope : Scope} {f : Addr} {cd : Value} {A : Around} {outer : List Env} {s s1 : Shared} {H : Hp} {E : XK} {us : List Value} {vs : List V}
    (S : FnScope N ps scope) (hd : A.handled = none) (e0 : Env0 P w K mg base A outer s H) (hl : vs.length = ps.length) (r : Vals vs us)
    (x : InCallC s s.heap.objs.size (bindL (envOfC qual scope s.heap.objs.size f cd).kindOf (ps.zip us) fun _ => none) (cellsFrom (s.heap.objs.size + 1) scope.names []) (bindC (envOfC qual scope s.heap.objs.size f cd).kindOf (ps.zip us) fun _ => none) s1) :
    Inv (cxOf CX P w K mg base N qual scope f cd A outer s H E) [] (start N vs) H s1 := by
  have hpl : ps.length ≤ N.length := by have := congrArg List.length S.pre; rw [List.length_take] at this; omega
  obtain ⟨h1, tk, rfl, hk⟩ := x.done
  have noA : ∀ b : Addr, b ∉ (cxOf CX P w K mg base N qual scope f cd A outer s H E).ex := fun b z => absurd (show b ∈ ([] : List Addr) from z) (by simp)
  refine ⟨⟨e0.mod, S.kind, rfl, rfl, Nat.le_refl _, fun y z c h1 h2 => ?_, fun y hy => ?_, fun y c _ h => ?_, fun _ => hd, Around.frames_deeper e0.frames, .inr ⟨rfl, rfl⟩, fun b z => absurd z (noA b), e0.bs, e0.bsz, fun b _ _ => noA b, fun b z => absurd z (noA b), e0.funs, e0.frf⟩,
    rfl, e0.bare, Un.kept hk, ⟨_, x.toInCall.ns, fun i y v h1 h2 h3 => ?_⟩, fun y c h => ⟨_, x.cell y c h⟩, e0.hok.fresh (Nat.le_refl _), fun y c h => ?_, fun p hp => absurd (show p ∈ ([] : List (Addr × Obj)) from hp) (by simp), e0.hok.kept hk, ?_⟩
  · exact name_of_addr x.apart (PySem.mem_of_lookup h1) (PySem.mem_of_lookup h2)
  · have hy : scope.names.lookup y = some .cell ∨ scope.names.lookup y = some .free := hy
    rcases hy with hy | hy
    · exact cell_has hy
    · exact absurd rfl (S.nofree _ (PySem.mem_of_lookup hy))
  · exact Nat.le_of_lt (x.above y c (PySem.mem_of_lookup h))
  · have hi : i < vs.length := by
      unfold start at h2
      by_cases hi : i < vs.length
      · exact hi
      · rw [List.getElem?_append_right (by simpa using hi)] at h2
        rw [List.getElem?_replicate] at h2
        split at h2 <;> cases h2
    have ha : vs[i]? = some v := by
      unfold start at h2
      rw [List.getElem?_append_left (by simpa using hi), List.getElem?_map] at h2
      cases e : vs[i]? with
      | none => rw [e] at h2; cases h2
      | some a => rw [e] at h2; cases h2; rfl
    obtain ⟨u, hu, rv⟩ := r.get ha
    have hp : ps[i]? = some y := by
      rw [← S.pre, List.getElem?_take_of_lt (by omega)]; exact h1
    have ndP : ps.Nodup := by rw [← S.pre]; exact S.nd.sublist (List.take_sublist _ _)
    refine ⟨u, rv, ?_⟩
    rcases S.par y (List.mem_of_getElem? hp) with k | k
    · exact .inl ⟨k, bindL_get ndP hp hu k⟩
    · obtain ⟨c, e⟩ := cell_has (n := s.heap.objs.size + 1) k
      refine .inr ⟨.inl k, c, e, ?_⟩
      have q := x.cell y c e
      rw [bindC_get ndP hp hu (by show scope.names.lookup y ≠ _; rw [k]; decide)] at q
      exact q
  · exact e0.hok.fresh (Nat.le_of_lt (x.above y c (PySem.mem_of_lookup h)))
  · unfold start
    show _ = N.length
    rw [List.length_append, List.length_map, List.length_replicate]
    omega
theorem fn_of {CX : CXT} {P : Program} {w : World} {K : PySem.W.Frag} {mg : Str → Option Value} {base : Heap} {k : Nat} {f : Addr} {name qual : Str} {params : Arguments} {body : List Stmt} {scope : Scope} {dV kV doc pm cdv ct oc : Value} {an od : Option Addr}
    {osl : Array (Option Value)} {N ps : List Str} {sp : Sp} (lk : K.lookup f = some ⟨oc, od, .func (PySem.W.fnOf name qual params body scope dV kV doc pm an cdv ct), osl⟩) (hcd : PySem.W.codeIn K cdv qual = true) (S : FnScope N ps scope)
    (len : ∀ vs H Q E, sp vs H Q E → vs.length = ps.length)
    (hbody : ∀ (A : Around) (outer : List Env) (s : Shared) (H : Hp) (vs : List V) (Q : VK) (E : XK), Room k (A.deeper (envOfC qual scope s.heap.objs.size f cdv)) → sp vs H Q E →
      ∃ t, PSs (cxOf CX P w K mg base N qual scope f cdv A outer s H E) body t ∧ t { nx := fun _ H' => Q .non H', rt := Q } (start N vs) H) :
    FnOk P w K mg base CX (k + 1) f (PySem.W.fnOf name qual params body scope dV kV doc pm an cdv ct) ps sp := by
  refine ⟨len, fun A outer s H args us vs Q E hr e0 hb r hsp => ?_⟩
  have hl := len _ _ _ _ hsp
  have KX : K.In s.heap := e0.mod.kin.keeps fun b o e => (e0.bs b o e).1
  have lim : s.heap.NoLimit := e0.mod.nolimit.keeps fun b o e => (e0.bs b o e).1
  have hkind : ∀ y ∈ ps.zip us, scope.names.lookup y.1 = some .local ∨ (scope.names.lookup y.1 = some .cell ∧ ((cellsFrom (s.heap.objs.size + 1) scope.names []).lookup y.1).isSome = true) := fun ⟨n, v⟩ hy => by
    rcases S.par n (List.of_mem_zip hy).1 with q | q
    · exact .inl q
    · exact .inr ⟨q, PySem.W.cellsFrom_some _ _ _ (.inl q)⟩
  refine codeAny_call_function hr.depth (KX _ _ lk) rfl S.co S.gen rfl (PySem.W.codeRec_of KX hcd) (hb _ _ _ _ ?_)
  refine wpAny_newFunctionEnv_cells S.kind hkind fun env he s1 x => ?_
  subst he
  refine ⟨lim.keeps x.toInCall.keep, codeAny_func ?_⟩
  obtain ⟨t, ht, hq⟩ := hbody A outer s H vs Q E (hr.deeper _) hsp
  have I : Inv (cxOf CX P w K mg base N qual scope f cdv A outer s H E) [] (start N vs) H s1 := inv_start S hr.hd e0 hl r x
  refine wpAny_mono (ht [] s1 (start N vs) H _ I hq) (fun fl s' hs => ?_) fun e s' hs => hs
  have fin : ∀ {σ' : St} {H' : Hp} {v : V} {u : Value}, Inv (cxOf CX P w K mg base N qual scope f cdv A outer s H E) [] σ' H' s' → RelV v u → Q v H' → CE outer P w H s Q u s' :=
    fun {σ' H' v u} J rv q => ⟨v, H', J.os, J.bare, J.base, J.hok, rv, q⟩
  cases fl with
  | ret u =>
    obtain ⟨v, σ', H', J, rv, q⟩ := hs
    exact fin J rv q
  | next =>
    obtain ⟨σ', H', J, q⟩ := hs
    exact fin (v := V.non) (u := Value.none) J rfl q
  | brk =>
    obtain ⟨_, _, _, q⟩ := hs
    exact False.elim q
  | cont =>
    obtain ⟨_, _, _, q⟩ := hs
    exact False.elim q
end L2
namespace L2
open PySem PySem.Spec PyProof.Rows
section
variable {X : Cx} {x : Str} {p pos : Pos} {e : Expr} {es : List Expr} {t : TA} {id T : String} {r : List V → Hp → VK → Prop}
def tCB (r : List V → Hp → VK → Prop) (t : TA) : TE := fun σ H Q => t σ H fun vs H1 => r vs H1 Q
theorem pe_callB (hc : CallR X (.builtin id) r) (hg : Gl X x) (hm : X.mg x = none) (hv : bootBuiltins x = some (.builtin id)) (ha : PA X (e :: es) t) (hn : x ≠ "__name__" := by decide) (hdb : (x == ("__debug__" : Str)) = false := by decide)
    (he : starEach (e :: es) X.env = (false, eval e X.env) :: starEach es X.env := by rfl) (hpl : (backTo pos (starEach es X.env)).any (·.1) = false := by rfl) : PE X (.Call (.Name x p) (e :: es) [] pos) (tCB r t) := by
  intro pins s σ H Q I h
  refine wpAny_Call_Name_kw (ld_blt I hg hm hv ?_ hn hdb)
  exact PyProof.Rows.callWith_builtin1 (thn (ha pos pins s σ H _ I h) fun us s1 ⟨vs, H1, I1, r1, q1⟩ => hc pins s1 σ H1 vs us Q I1 r1 q1) he hpl
theorem pe_callTy (hc : CallR X (.type T) r) (hg : Gl X x) (hm : X.mg x = none) (hv : bootBuiltins x = some (.type T)) (ha : PA X (e :: es) t) (hn : x ≠ "__name__" := by decide) (hdb : (x == ("__debug__" : Str)) = false := by decide)
    (he : starEach (e :: es) X.env = (false, eval e X.env) :: starEach es X.env := by rfl) (hpl : (backTo pos (starEach es X.env)).any (·.1) = false := by rfl) : PE X (.Call (.Name x p) (e :: es) [] pos) (tCB r t) := by
  intro pins s σ H Q I h
  refine wpAny_Call_Name_kw (ld_blt I hg hm hv ?_ hn hdb)
  exact PyProof.Rows.callWith_type1 (thn (ha pos pins s σ H _ I h) fun us s1 ⟨vs, H1, I1, r1, q1⟩ => hc pins s1 σ H1 vs us Q I1 r1 q1) he hpl
end
end L2
namespace HT
open PySem PyProof.Rows
section
open PySem.SeqAt
open PySem.AutoSeq1 (wpAny_loadPart')
open PySem.MeetsSeq PySem.MeetsSeq2 PySem.MeetsSeq3
end
section
variable {prog : Program} {w : World} {A : Around} {E : Value → Shared → Prop} {s : Shared}
theorem cat_tup {t b : Addr} {vs ws : List Value} {Q : Value → Shared → Prop} (ht : IsTup s.heap t vs.toArray) (hb : IsTup s.heap b ws.toArray) (hv : vs ≠ [])
    (h1 : ws = [] → Q (.ref t) s) (h2 : ws ≠ [] → Q (.ref s.heap.objs.size) { s with heap := s.heap.push { cls := .type "tuple", data := .seq (vs ++ ws).toArray } })
    (hsz : vs.length + ws.length ≤ sizeLine) : wpAny (model prog w) A (binaryOp .Add (.ref t) (.ref b)) Q E s := by
  obtain ⟨⟨cls, dd, data, sl⟩, ho, hc, n, hd⟩ := id ht
  obtain ⟨⟨cls2, dd2, data2, sl2⟩, ho2, hc2, n2, hd2⟩ := id hb
  simp only at hc hd hc2 hd2
  subst hc hd hc2 hd2
  have e : vs.toArray ++ ws.toArray = (vs ++ ws).toArray := by simp
  by_cases hw : ws = []
  · exact concat_meets ⟨_, ho, rfl⟩ ⟨_, ho2, rfl⟩ noFill_tuple_add seq_tuple_add PySem.F.slot_tuple_add PySem.F.entry_tuple_add (PySem.F.args_tuple_add_2 _ _)
      (tuple_addW1 t b vs.toArray ws.toArray n n2 dd dd2 sl sl2 (by simpa using hv) (by simp [hw])) ⟨ho, ho2, h1 hw⟩
  · refine concat_meets ⟨_, ho, rfl⟩ ⟨_, ho2, rfl⟩ noFill_tuple_add seq_tuple_add PySem.F.slot_tuple_add PySem.F.entry_tuple_add (PySem.F.args_tuple_add_2 _ _)
      (tuple_addW2 t b vs.toArray ws.toArray n n2 dd dd2 sl sl2 (by simpa using hv) (by simpa using hw) (by rw [List.size_toArray, List.size_toArray]; exact hsz)) ⟨ho, ho2, ?_⟩
    rw [e]
    exact h2 hw
def sIx (n d : Nat) : Option Int → Nat
  | none => d
  | some v => if v < 0 then (v + (n : Int)).toNat else min v.toNat n
theorem sIx_none (n d : Nat) : sIx n d none = d := rfl
theorem sIx_nat (n d k : Nat) : sIx n d (some (k : Int)) = min k n := by
  show (if (k : Int) < 0 then ((k : Int) + (n : Int)).toNat else min (k : Int).toNat n) = min k n
  rw [if_neg (by omega), Int.toNat_natCast]
theorem sIx_le (n d : Nat) (hd : d ≤ n) (o : Option Int) : sIx n d o ≤ n := by
  cases o with
  | none => exact hd
  | some v =>
    show (if v < 0 then (v + (n : Int)).toNat else min v.toNat n) ≤ n
    by_cases hv : v < 0
    · rw [if_pos hv]; omega
    · rw [if_neg hv]; exact Nat.min_le_right _ _
theorem clip_eq (v : Int) (n d : Nat) : (if v < 0 then max (v + (n : Int)) 0 else min v (n : Int)) = ((sIx n d (some v) : Nat) : Int) := by
  show (if v < 0 then max (v + (n : Int)) 0 else min v (n : Int)) = (((if v < 0 then (v + (n : Int)).toNat else min v.toNat n) : Nat) : Int)
  by_cases hv : v < 0
  · simp only [if_pos hv]; omega
  · simp only [if_neg hv]; omega
theorem adjust_gen (lo hi : Option Int) (n : Nat) : Builtin.Slice.sliceAdjust lo hi 1 (n : Int) = (((sIx n 0 lo : Nat) : Int), ((sIx n n hi : Nat) : Int)) := by
  have h1 : ¬ ((1 : Int) < 0) := by omega
  unfold Builtin.Slice.sliceAdjust
  simp only [h1, if_false]
  refine Prod.ext ?_ ?_
  · cases lo with
    | none => rfl
    | some v => exact clip_eq v n 0
  · cases hi with
    | none => rfl
    | some v => exact clip_eq v n n
theorem places_gen (i j : Nat) : Builtin.Slice.slicePlaces (i : Int) (j : Int) 1 = j - i := by
  unfold Builtin.Slice.slicePlaces
  have h1 : (1 : Int) > 0 := by omega
  simp only [h1, if_true, Int.ediv_one]
  split <;> omega
theorem slicePart_ {v : Value} {o : Option Int} {Q : Option Int → Shared → Prop} (p : IsPart v o) (h : Q o s) : wpAny (model prog w) A (Builtin.Slice.slicePartIndex v) Q E s := by
  cases p with
  | none => exact slicePart_none h
  | int i t => exact slicePart_int h
theorem sliceApplied_gen {sl : Addr} {vl vu : Value} {lo hi : Option Int} {n : Nat} {Q : Int × Int × Nat → Shared → Prop} (hs : s.heap.IsSliceOf sl vl vu .none) (pl : IsPart vl lo) (pu : IsPart vu hi)
    (h : Q (((sIx n 0 lo : Nat) : Int), 1, sIx n n hi - sIx n 0 lo) s) : wpAny (model prog w) A (Builtin.Slice.sliceApplied (.ref sl) (pure (n : Int))) Q E s := by
  obtain ⟨os, hos, hcs, hds⟩ := id hs
  unfold Builtin.Slice.sliceApplied Builtin.Slice.sliceFields
  refine wpAny_bind (wpAny_bind (wpAny_field hos hds (x := vl) rfl (wpAny_bind (wpAny_field hos hds (x := vu) rfl (wpAny_bind (wpAny_field hos hds (x := .none) rfl (wpAny_pure ?_)))))))
  refine wpAny_bind (slicePart_none ?_)
  show wpAny _ _ (if ((1 : Int) == 0) = true then _ else _) _ _ s
  rw [if_neg (by decide)]
  refine wpAny_bind (slicePart_ pl (wpAny_bind (slicePart_ pu (wpAny_bind (wpAny_pure ?_)))))
  show wpAny _ _ (match Builtin.Slice.sliceAdjust lo hi 1 (n : Int) with | (lo, hi) => pure (lo, (1 : Int), Builtin.Slice.slicePlaces lo hi 1)) _ _ s
  rw [adjust_gen lo hi n]
  show wpAny _ _ (pure (((sIx n 0 lo : Nat) : Int), (1 : Int), Builtin.Slice.slicePlaces ((sIx n 0 lo : Nat) : Int) ((sIx n n hi : Nat) : Int) 1)) _ _ s
  rw [places_gen]
  exact wpAny_pure h
theorem pick_gen (xs : Array Value) (i k : Nat) : ((List.range k).filterMap fun (m : Nat) => xs[((i : Int) + (m : Int) * 1).toNat]?).toArray = ((xs.toList.drop i).take k).toArray := by
  have e : (fun (m : Nat) => xs[((i : Int) + (m : Int) * 1).toNat]?) = fun m => xs[i + m]? := by
    funext m
    have : ((i : Int) + (m : Int) * 1).toNat = i + m := by omega
    rw [this]
  rw [e]
  have := pick_run xs i k
  rw [List.filterMap_map] at this
  have e2 : ((fun x => xs[x]?) ∘ fun x => i + x) = fun m => xs[i + m]? := rfl
  rw [e2] at this
  rw [this]
theorem getItem_tuple_cut {t sl : Addr} {items : Array Value} {vl vu : Value} {lo hi : Option Int} {Q : Value → Shared → Prop} (ht : IsTup s.heap t items) (hs : s.heap.IsSliceOf sl vl vu .none) (pl : IsPart vl lo) (pu : IsPart vu hi)
    (hw : ¬ (sIx items.size 0 lo = 0 ∧ sIx items.size items.size hi = items.size))
    (h : Q (.ref s.heap.objs.size) { s with heap := s.heap.push { cls := .type "tuple", data := .seq ((items.toList.drop (sIx items.size 0 lo)).take (sIx items.size items.size hi - sIx items.size 0 lo)).toArray } })
    (hsz : items.size ≤ sizeLine) : wpAny (model prog w) A (getItem (.ref t) (.ref sl)) Q E s := by
  have htake : sizeOk (.seq ((items.toList.drop (sIx items.size 0 lo)).take (sIx items.size items.size hi - sIx items.size 0 lo)).toArray) := by
    show ((items.toList.drop (sIx items.size 0 lo)).take (sIx items.size items.size hi - sIx items.size 0 lo)).toArray.size ≤ sizeLine
    rw [List.size_toArray, List.length_take, List.length_drop, Array.length_toList]
    omega
  have hj : sIx items.size items.size hi ≤ items.size := sIx_le _ _ (Nat.le_refl _) hi
  obtain ⟨os, hos, hcs, hds⟩ := id hs
  have hTs : s.TypeIs (.ref sl) "slice" := ⟨os, hos, hcs⟩
  unfold getItem
  try with_reducible refine wpAny_holding ?_
  first | refine wpAny_bind (wpAny_pure ?_) | skip
  refine wpAny_bind (wpAny_sequenceKey ht.typeIs (by decide) ?_)
  refine wpAny_bind (wpAny_callSpecial?_slot (name := Str.ofString "__getitem__") ht.typeIs PyProof.Rows.slot_tuple_getitem
    (wpAny_call_entry PyProof.Rows.slot_tuple_getitem ht.typeIs entry_tuple_getitem ?_ (args_tuple_getitem _ _)))
  show wpAny _ _ (Builtin.Tuple.tupleItemsOf (.ref t) >>= _) _ _ s
  refine wpAny_bind (tupleItemsOf_ ht ?_)
  refine wpAny_bind (wpAny_typeOf hTs ?_)
  rw [if_pos (by decide)]
  refine wpAny_bind (sliceApplied_gen hs pl pu ?_)
  have hno : ¬ ((((sIx items.size 0 lo : Nat) : Int) == 0 && (1 : Int) == 1 && (sIx items.size items.size hi - sIx items.size 0 lo) == items.size) = true) := by
    intro q
    rw [Bool.and_eq_true, Bool.and_eq_true] at q
    have q1 : ((sIx items.size 0 lo : Nat) : Int) = 0 := eq_of_beq q.1.1
    have q2 : sIx items.size items.size hi - sIx items.size 0 lo = items.size := eq_of_beq q.2
    exact hw ⟨by omega, by omega⟩
  show wpAny _ _ (if (((sIx items.size 0 lo : Nat) : Int) == 0 && (1 : Int) == 1 && (sIx items.size items.size hi - sIx items.size 0 lo) == items.size) = true then _ else _) _ _ s
  rw [if_neg hno, pick_gen]
  first
    | exact wpAny_bind (m := Builtin.Tuple.tupleExact _) (wpAny_newObj_type (wpAny_pure ⟨_, rfl, wpAny_pure h⟩) htake)
    | exact wpAny_bind (m := Builtin.Tuple.tupleExact _) (wpAny_newObj_type (wpAny_bind (wpAny_pure (wpAny_pure ⟨_, rfl, wpAny_pure h⟩))) htake)
    | exact wpAny_bind (wpAny_bind (m := Builtin.Tuple.tupleExact _) (wpAny_newObj_type (wpAny_pure (wpAny_pure ⟨_, rfl, wpAny_pure h⟩)) htake))
    | exact wpAny_bind (wpAny_bind (m := Builtin.Tuple.tupleExact _) (wpAny_newObj_type (wpAny_pure ⟨_, rfl, wpAny_pure h⟩) htake))
end
end HT
namespace L2
open PySem PySem.Spec PyProof.Rows
abbrev TO := St → Hp → (Option Int → Hp → Prop) → Prop
def PO (X : Cx) (e : Option Expr) (t : TO) : Prop :=
  ∀ (pins : List (Addr × Obj)) (s : Shared) (σ : St) (H : Hp) (Q : Option Int → Hp → Prop), Inv X pins σ H s → t σ H Q →
    wpAny (model X.prog X.w) X.A (evalPart e X.env) (fun u s' => ∃ o H', Inv X pins σ H' s' ∧ IsPart u o ∧ Q o H') X.xe s
def tNoPart : TO := fun _ H Q => Q none H
def tPart (t : TE) : TO := fun σ H Q => t σ H fun x H1 => ∃ i, x = .int i ∧ Q (some i) H1
section
variable {X : Cx} {e : Expr} {te : TE} {lo hi : Option Expr} {tl th : TO} {pos p2 : Pos}
theorem po_none : PO X none tNoPart := by
  intro pins s σ H Q I h
  rw [evalPart_none]
  exact wpAny_pure ⟨none, H, I, .none, h⟩
theorem po_some (h : PE X e te) : PO X (some e) (tPart te) := by
  intro pins s σ H Q I hw
  rw [evalPart_some]
  refine thn (h pins s σ H _ I hw) fun u s1 ⟨x, H1, I1, r1, q1⟩ => ?_
  obtain ⟨i, rfl, q⟩ := q1
  obtain ⟨t, rfl⟩ := r1
  exact ⟨some i, H1, I1, .int i t, q⟩
def SlR (X : Cx) (r : V → Option Int → Option Int → Hp → VK → Prop) : Prop :=
  ∀ (pins : List (Addr × Obj)) (s : Shared) (σ : St) (H : Hp) (x : V) (v vl vu : Value) (lo hi : Option Int) (sl : Addr) (Q : VK), Inv X pins σ H s → RelV x v → s.heap.IsSliceOf sl vl vu .none → IsPart vl lo → IsPart vu hi → r x lo hi H Q →
    ∃ T id, typeLookup (.type T) "__getitem__" = pure (some (.builtin id)) ∧ s.TypeIs v T ∧ wpAny (model X.prog X.w) X.A (getItem v (.ref sl)) (EP X pins σ Q) X.xe s
def tSl (r : V → Option Int → Option Int → Hp → VK → Prop) (te : TE) (tl th : TO) : TE := fun σ H Q => te σ H fun x H1 => tl σ H1 fun l H2 => th σ H2 fun u H3 => r x l u H3 Q
theorem pe_slice {r : V → Option Int → Option Int → Hp → VK → Prop} (hr : SlR X r) (he : PE X e te) (hl : PO X lo tl) (hu : PO X hi th) : PE X (.Subscript e (.Slice lo hi none p2) pos) (tSl r te tl th) := by
  intro pins s σ H Q I h
  refine Subscript_ (thn (he pins s σ H _ I h) fun v s1 ⟨x, H1, I1, r1, q1⟩ => ?_)
  refine wpAny_Slice (thn (hl pins s1 σ H1 _ I1 q1) fun vl s2 ⟨l, H2, I2, pl, q2⟩ => thn (hu pins s2 σ H2 _ I2 q2) fun vu s3 ⟨u, H3, I3, pu, q3⟩ => ?_)
  rw [evalPart_none]
  refine wpAny_pure ?_
  have I4 : Inv X pins σ H3 { s3 with heap := s3.heap.push { cls := .type "slice", data := .fields #[vl, vu, .none] } } := I3.kept (t' := s3.toks) fun b ob q => Heap.get?_push_of_some _ q
  obtain ⟨T, id, hT, ht, hg⟩ := hr pins { s3 with heap := s3.heap.push { cls := .type "slice", data := .fields #[vl, vu, .none] } } σ H3 x v vl vu l u s3.heap.objs.size Q I4 r1 (Heap.IsSliceOf.new ..) pl pu q3
  show wpAny (model X.prog X.w) X.A (subscriptTail e (.Slice lo hi none p2) v (.ref s3.heap.objs.size)) (EP X pins σ Q) X.xe { s3 with heap := s3.heap.push { cls := .type "slice", data := .fields #[vl, vu, .none] } }
  exact tail_any (ops := [.ref s3.heap.objs.size, v]) ht hT hg (by with_unfolding_all rfl)
def cutV (xs : List V) (lo hi : Option Int) : List V := (xs.drop (HT.sIx xs.length 0 lo)).take (HT.sIx xs.length xs.length hi - HT.sIx xs.length 0 lo)
theorem cutV_length (xs : List V) (lo hi : Option Int) : (cutV xs lo hi).length ≤ xs.length := by
  unfold cutV
  rw [List.length_take, List.length_drop]
  omega
def rSlT (K : PySem.W.Frag) : V → Option Int → Option Int → Hp → VK → Prop := fun x lo hi H Q => ∃ a xs, x = .ref a ∧ SqT K H a xs ∧
  ¬ (HT.sIx xs.length 0 lo = 0 ∧ HT.sIx xs.length xs.length hi = xs.length) ∧ ∀ p, H p = none → Q (.ref p) (upd H p (.tup (cutV xs lo hi)))
theorem sl_tup : SlR X (rSlT X.K) := by
  intro pins s σ H x v vl vu lo hi sl Q I rx hs pl pu h
  obtain ⟨a, xs, rfl, hx, hw, q⟩ := h
  cases rx
  obtain ⟨its, r, ht, hz⟩ := I.tuple hx
  have hlen : its.toArray.size = xs.length := by rw [List.size_toArray]; exact r.length.symm
  refine ⟨"tuple", _, PyProof.Rows.slot_tuple_getitem.lookup, ht.typeIs, ?_⟩
  refine HT.getItem_tuple_cut ht hs pl pu (by rw [hlen]; exact hw) ?_ (by rw [hlen]; exact hz)
  rw [hlen]
  refine ⟨.ref s.heap.objs.size, _, I.laid (t' := s.toks) (o := .tup (cutV xs lo hi)) (fun b ob q => Heap.get?_push_of_some _ q) (Nat.le_refl _) ?_, rfl, q _ (I.hok.fresh (Nat.le_refl _))⟩
  exact ⟨Nat.le_trans (cutV_length xs lo hi) hz, _, (r.drop (HT.sIx xs.length 0 lo)).take (HT.sIx xs.length xs.length hi - HT.sIx xs.length 0 lo), IsTup.new _ _⟩
theorem Vals.nil_iff {xs : List V} {us : List Value} (r : Vals xs us) : us = [] ↔ xs = [] := by
  cases r with
  | nil => simp
  | cons _ _ => simp
end
end L2
namespace L2
open PySem PySem.Spec PyProof.Rows
def ixN (n : Nat) (i : Int) : Option Nat := if 0 ≤ i then (if i < n then some i.toNat else none) else if -(n : Int) ≤ i then some (i + n).toNat else none
def atI {α : Type} (xs : List α) (i : Int) : Option α := (ixN xs.length i).bind fun j => xs[j]?
theorem ixN_seq {n : Nat} {i : Int} {j : Nat} (h : ixN n i = some j) : seqIndex? i n = some j ∧ j < n ∧ -(n : Int) ≤ i ∧ i < n := by
  unfold ixN at h
  by_cases h0 : 0 ≤ i
  · rw [if_pos h0] at h
    by_cases h1 : i < n
    · rw [if_pos h1] at h
      have e : i.toNat = j := Option.some.inj h
      exact ⟨by rw [seqIndex_of h0 h1, e], by omega, by omega, h1⟩
    · rw [if_neg h1] at h; cases h
  · rw [if_neg h0] at h
    by_cases h1 : -(n : Int) ≤ i
    · rw [if_pos h1] at h
      have e : (i + n).toNat = j := Option.some.inj h
      exact ⟨by rw [seqIndex_neg (by omega) h1, e], by omega, h1, by omega⟩
    · rw [if_neg h1] at h; cases h
theorem atI_get {α : Type} {xs : List α} {i : Int} {v : α} (h : atI xs i = some v) : ∃ j, seqIndex? i xs.length = some j ∧ xs[j]? = some v ∧ j < xs.length ∧ -(xs.length : Int) ≤ i ∧ i < xs.length := by
  unfold atI at h
  cases e : ixN xs.length i with
  | none => rw [e] at h; cases h
  | some j =>
    rw [e] at h
    obtain ⟨h1, h2, h3, h4⟩ := ixN_seq e
    exact ⟨j, h1, h, h2, h3, h4⟩
theorem atI_nat {α : Type} {xs : List α} {j : Nat} {v : α} (h : xs[j]? = some v) : atI xs (j : Int) = some v := by
  have hj : j < xs.length := (List.getElem?_eq_some_iff.mp h).1
  have e : ixN xs.length (j : Int) = some j := by
    unfold ixN
    rw [if_pos (by omega), if_pos (by omega)]; simp
  unfold atI; rw [e]; exact h
def PlainIx (b : Expr) : Prop := ∀ o i, subscripted b false o i = operate [o, i] (getItem o i)
def IxR (X : Cx) (r : R2) : Prop :=
  ∀ (value slice : Expr) (pins : List (Addr × Obj)) (s : Shared) (σ : St) (H : Hp) (x y : V) (v u : Value) (Q : VK), Inv X pins σ H s → RelV x v → RelV y u → r x y H Q →
    subscripted slice false v u = operate [v, u] (getItem v u) → wpAny (model X.prog X.w) X.A (subscriptTail value slice v u) (EP X pins σ Q) X.xe s
def MtR (X : Cx) (id : String) (r : V → List V → Hp → VK → Prop) : Prop :=
  ∀ (pins : List (Addr × Obj)) (s : Shared) (σ : St) (H : Hp) (x : V) (xs : List V) (v : Value) (us : List Value) (Q : VK), Inv X pins σ H s → RelV x v → Vals xs us → r x xs H Q →
    wpAny (model X.prog X.w) X.A (call (.builtin id) (v :: us)) (EP X pins σ Q) X.xe s
section
variable {X : Cx} {a b : Expr} {ta tb : TE} {pos : Pos}
theorem pe_ix {r : R2} (hr : IxR X r) (ha : PE X a ta) (hb : PE X b tb) (hs : PlainIx b) : PE X (.Subscript a b pos) (tOp r ta tb) := by
  intro pins s σ H Q I h
  exact Subscript_ (binT ha hb I h fun v u s2 x y H2 I2 rx ry q => hr a b pins s2 σ H2 x y v u Q I2 rx ry q (hs _ _))
def rIxL (K : PySem.W.Frag) : R2 := fun x y H Q => ∃ p xs i v, x = .ref p ∧ y = .int i ∧ SqL K H p xs ∧ atI xs i = some v ∧ Q v H
def rIxT (K : PySem.W.Frag) : R2 := fun x y H Q => ∃ p xs i v, x = .ref p ∧ y = .int i ∧ SqT K H p xs ∧ atI xs i = some v ∧ Q v H
theorem ix_list : IxR X (rIxL X.K) := by
  intro value slice pins s σ H x y v u Q I rx ry h hs
  obtain ⟨p, xs, i, z, rfl, rfl, hq, he, q⟩ := h
  cases rx
  obtain ⟨t, rfl⟩ := ry
  obtain ⟨its, r, pl, hz⟩ := I.list hq
  obtain ⟨j, h1, h2, h3, h4, h5⟩ := atI_get he
  obtain ⟨w, ew, rw'⟩ := r.get h2
  have hl := r.length
  have hn := line63
  have fin : EP X pins σ Q w s := ⟨z, H, I, rw', q⟩
  by_cases h0 : 0 ≤ i
  · have hj : i.toNat = j := by
      rw [seqIndex_of h0 h5] at h1
      exact Option.some.inj h1
    exact item_listR pl.isList h0 (by omega) (by rw [hj]; simpa using ew) fin hs
  · have hj : (i + (its.toArray.size : Int)).toNat = j := by
      rw [seqIndex_neg (by omega) h4] at h1
      rw [List.size_toArray, ← hl]
      exact Option.some.inj h1
    exact subscriptTail_builtinR (x := w) pl.isList.typeIs slot_list_getitem.lookup
      (wpAny_getItem_list_neg (Q := fun r s' => r = w ∧ EP X pins σ Q r s') pl.isList (by omega) (by rw [List.size_toArray] <;> omega) (by omega) (by rw [hj]; simpa using ew) ⟨rfl, fin⟩) hs
theorem ix_tup : IxR X (rIxT X.K) := by
  intro value slice pins s σ H x y v u Q I rx ry h hs
  obtain ⟨p, xs, i, z, rfl, rfl, hq, he, q⟩ := h
  cases rx
  obtain ⟨t, rfl⟩ := ry
  obtain ⟨its, r, pl, hz⟩ := I.tuple hq
  obtain ⟨j, h1, h2, h3, h4, h5⟩ := atI_get he
  obtain ⟨w, ew, rw'⟩ := r.get h2
  have hl := r.length
  have hn := line63
  have fin : EP X pins σ Q w s := ⟨z, H, I, rw', q⟩
  exact subscriptTail_builtinR (x := w) pl.typeIs slot_tuple_getitem.lookup
    (getItem_tuple (j := j) (Q := fun r s' => r = w ∧ EP X pins σ Q r s') pl (by omega) (by omega) (by rw [List.size_toArray, ← hl]; exact h1) (by simpa using ew) ⟨rfl, fin⟩) hs
theorem slice_bounds (lo hi : Option Int) (n : Nat) : (sliceBounds lo hi none n).1 = ((HT.sIx n 0 lo : Nat) : Int) ∧ (sliceBounds lo hi none n).2.1 = ((HT.sIx n n hi : Nat) : Int) ∧ (sliceBounds lo hi none n).2.2 = 1 := by
  refine ⟨?_, ?_, rfl⟩
  · cases lo with
    | none => simp [sliceBounds, HT.sIx]
    | some i =>
      simp only [sliceBounds, HT.sIx, Option.getD_none, show (1 : Int) > 0 by decide, if_true]
      by_cases h : i < 0
      · simp only [h, if_true] <;> omega
      · simp only [h, if_false] <;> omega
  · cases hi with
    | none => simp [sliceBounds, HT.sIx]
    | some i =>
      simp only [sliceBounds, HT.sIx, Option.getD_none, show (1 : Int) > 0 by decide, if_true]
      by_cases h : i < 0
      · simp only [h, if_true] <;> omega
      · simp only [h, if_false] <;> omega
theorem slicePick_cut (its : List Value) (lo hi : Option Int) : slicePick its.toArray lo hi none = ((its.drop (HT.sIx its.length 0 lo)).take (HT.sIx its.length its.length hi - HT.sIx its.length 0 lo)).toArray := by
  obtain ⟨h1, h2, h3⟩ := slice_bounds lo hi its.toArray.size
  unfold slicePick
  rw [h1, h2, h3]
  simp only [sliceRange_one, pick_run, List.size_toArray] <;> rfl
def rSlL (K : PySem.W.Frag) : V → Option Int → Option Int → Hp → VK → Prop := fun x lo hi H Q => ∃ a xs, x = .ref a ∧ SqL K H a xs ∧ ∀ p, H p = none → Q (.ref p) (upd H p (.lst (cutV xs lo hi)))
theorem sl_list : SlR X (rSlL X.K) := by
  intro pins s σ H x v vl vu lo hi sl Q I rx hs pl pu h
  obtain ⟨a, xs, rfl, hx, q⟩ := h
  cases rx
  obtain ⟨its, r, ht, hz⟩ := I.list hx
  have hlen := r.length
  refine ⟨"list", _, slot_list_getitem.lookup, ht.isList.typeIs, ?_⟩
  refine wpAny_getItem_list_slice ht.isList hs pl pu .none (by simp) ?_ (by rw [List.size_toArray] <;> omega)
  rw [slicePick_cut, ← hlen]
  refine ⟨.ref s.heap.objs.size, _, I.laid (t' := s.toks) (o := .lst (cutV xs lo hi)) (fun b ob q => Heap.get?_push_of_some _ q) (Nat.le_refl _) ?_, rfl, q _ (I.hok.fresh (Nat.le_refl _))⟩
  exact ⟨Nat.le_trans (cutV_length xs lo hi) hz, _, 0, (r.drop (HT.sIx xs.length 0 lo)).take (HT.sIx xs.length xs.length hi - HT.sIx xs.length 0 lo), Heap.get?_push_size _ rfl⟩
def flatV : V → Bool
  | .non => true
  | .bl _ => true
  | .int _ => true
  | .str _ => true
  | _ => false
def eqV : V → V → Bool
  | .non, .non => true
  | .bl a, .bl b => a == b
  | .bl a, .int b => (if a then 1 else 0) == b
  | .int a, .bl b => a == (if b then 1 else 0)
  | .int a, .int b => a == b
  | .str a, .str b => a == b
  | _, _ => false
theorem eqAt_V {A : Around} {s : Shared} {y x : V} {u v : Value} (ry : RelV y u) (rx : RelV x v) (fy : flatV y = true) (fx : flatV x = true) : SeqAt.EqAt A s u v (eqV y x) := by
  cases y with
  | non =>
    cases ry
    cases x with
    | non => cases rx; exact SeqAt.EqAt.same _
    | bl b => cases rx; exact SeqAt.EqAt.none_bool b
    | int b => obtain ⟨t, rfl⟩ := rx; exact SeqAt.EqAt.none_int b t
    | str b => obtain ⟨t, rfl⟩ := rx; exact SeqAt.EqAt.none_str b t
    | _ => exact absurd (show false = true from fx) Bool.false_ne_true
  | bl a =>
    cases ry
    cases x with
    | non => cases rx; exact SeqAt.EqAt.bool_none a
    | bl b => cases rx; exact SeqAt.EqAt.bool_bool a b
    | int b => obtain ⟨t, rfl⟩ := rx; exact SeqAt.EqAt.bool_int a b t
    | str b => obtain ⟨t, rfl⟩ := rx; exact SeqAt.EqAt.bool_str a b t
    | _ => exact absurd (show false = true from fx) Bool.false_ne_true
  | int a =>
    obtain ⟨t', rfl⟩ := ry
    cases x with
    | non => cases rx; exact SeqAt.EqAt.int_none a t'
    | bl b => cases rx; exact SeqAt.EqAt.int_bool a t' b
    | int b => obtain ⟨t, rfl⟩ := rx; exact SeqAt.EqAt.int_int a t' b t
    | str b => obtain ⟨t, rfl⟩ := rx; exact SeqAt.EqAt.int_str a t' b t
    | _ => exact absurd (show false = true from fx) Bool.false_ne_true
  | str a =>
    obtain ⟨t', rfl⟩ := ry
    cases x with
    | non => cases rx; exact SeqAt.EqAt.str_none a t'
    | bl b => cases rx; exact SeqAt.EqAt.str_bool a t' b
    | int b => obtain ⟨t, rfl⟩ := rx; exact SeqAt.EqAt.str_int a t' b t
    | str b => obtain ⟨t, rfl⟩ := rx; exact SeqAt.EqAt.str_str a t' b t
    | _ => exact absurd (show false = true from fx) Bool.false_ne_true
  | _ => exact absurd (show false = true from fy) Bool.false_ne_true
def eqU (x : V) (u : Value) : Bool := match u with
  | .none => eqV .non x
  | .bool b => eqV (.bl b) x
  | .int i _ => eqV (.int i) x
  | .str z _ => eqV (.str z) x
  | _ => false
theorem eqU_of {x y : V} {u : Value} (r : RelV y u) (f : flatV y = true) : eqU x u = eqV y x := by
  cases y with
  | non => cases r; rfl
  | bl b => cases r; rfl
  | int i => obtain ⟨t, rfl⟩ := r; rfl
  | str z => obtain ⟨t, rfl⟩ := r; rfl
  | _ => exact absurd (show false = true from f) Bool.false_ne_true
theorem any_eqU {x : V} : ∀ {xs : List V} {us : List Value}, Vals xs us → xs.all flatV = true → us.any (eqU x) = xs.any fun y => eqV y x
  | _, _, .nil, _ => rfl
  | y :: xs, u :: us, .cons r t, f => by
    rw [List.all_cons, Bool.and_eq_true] at f
    rw [List.any_cons, List.any_cons, eqU_of r f.1, any_eqU t f.2]
theorem mem_eqAt {A : Around} {s : Shared} {x : V} {v : Value} (rx : RelV x v) (fx : flatV x = true) : ∀ {xs : List V} {us : List Value}, Vals xs us → xs.all flatV = true → ∀ u ∈ us, SeqAt.EqAt A s u v (eqU x u)
  | _, _, .nil, _ => fun u hu => by cases hu
  | y :: xs, u :: us, .cons r t, f => fun u' hu => by
    rw [List.all_cons, Bool.and_eq_true] at f
    rcases List.mem_cons.mp hu with rfl | hu
    · rw [eqU_of r f.1]; exact eqAt_V r rx f.1 fx
    · exact mem_eqAt rx fx t f.2 u' hu
def inV (x : V) (xs : List V) : Bool := xs.any fun y => eqV y x
def rIn (K : PySem.W.Frag) (neg : Bool) : R2 := fun x y H Q => ∃ p xs, y = .ref p ∧ (SqL K H p xs ∨ SqT K H p xs) ∧ flatV x = true ∧ xs.all flatV = true ∧ Q (.bl (if neg then !inV x xs else inV x xs)) H
theorem op_notIn_seq : OpR X (compareOp .NotIn) (rIn X.K true) := by
  intro pins s σ H x y v u Q I rx ry h
  obtain ⟨p, xs, rfl, hq, fx, fs, q⟩ := h
  cases ry
  rcases hq with hq | hq
  · obtain ⟨its, r, pl, hz⟩ := I.list hq
    refine SeqAt.notIn_listAt (eqU x) pl.isList (fun w hw => mem_eqAt rx fx r fs w (by simpa using hw)) ⟨.bl _, H, I, rfl, ?_⟩
    rw [show its.toArray.any (eqU x) = its.any (eqU x) by simp, any_eqU r fs]
    exact q
  · obtain ⟨its, r, pl, hz⟩ := I.tuple hq
    refine SeqAt.notIn_tupleAt (eqU x) pl (fun w hw => mem_eqAt rx fx r fs w (by simpa using hw)) ⟨.bl _, H, I, rfl, ?_⟩
    rw [show its.toArray.any (eqU x) = its.any (eqU x) by simp, any_eqU r fs]
    exact q
theorem call_len_seq : CallR X (.builtin "len") (fun xs H Q => ∃ p ys, xs = [.ref p] ∧ (SqL X.K H p ys ∨ SqT X.K H p ys) ∧ Q (.int ys.length) H) := by
  intro pins s σ H xs us Q I r h
  obtain ⟨p, ys, rfl, hq, q⟩ := h
  obtain ⟨u, rfl, rx⟩ := vals1 r
  cases rx
  have hn := line63
  rcases hq with hq | hq
  · obtain ⟨its, r', pl, hz⟩ := I.list hq
    have hlen := r'.length
    exact Calls.call_len_list pl.isList (by simp only [List.size_toArray] <;> omega) ⟨.int ys.length, H, I.tok _, ⟨s.toks + 1, by rw [List.size_toArray, hlen]⟩, q⟩
  · obtain ⟨its, r', pl, hz⟩ := I.tuple hq
    have hlen := r'.length
    exact len_tuple pl (by simp only [List.size_toArray] <;> omega) ⟨.int ys.length, H, I.tok _, ⟨s.toks + 1, by rw [List.size_toArray, hlen]⟩, q⟩
theorem call_list_of : CallR X (.type "list") (fun xs H Q => ∃ p ys, xs = [.ref p] ∧ (SqL X.K H p ys ∨ SqT X.K H p ys) ∧ ∀ l, H l = none → Q (.ref l) (upd H l (.lst ys))) := by
  intro pins s σ H xs us Q I r h
  obtain ⟨p, ys, rfl, hq, q⟩ := h
  obtain ⟨u, rfl, rx⟩ := vals1 r
  cases rx
  have fin : ∀ (its : List Value), Vals ys its → ys.length ≤ sizeLine → ∀ (h' : Heap) (c' : Nat), (∀ b o', s.heap.get? b = some o' → h'.get? b = some o') →
      h'.get? s.heap.objs.size = some { cls := .type "list", dict := none, data := .seq its.toArray c', slots := #[] } → EP X pins σ Q (.ref s.heap.objs.size) { s with heap := h' } := fun its r' hz h' c' kp e =>
    ⟨.ref s.heap.objs.size, _, I.laid (t' := s.toks) kp (Nat.le_refl _) (show ObjOk X.prog X.w _ h' _ (.lst ys) from ⟨hz, its, c', r', e⟩), rfl, q _ (I.hok.fresh (Nat.le_refl _))⟩
  rcases hq with hq | hq
  · obtain ⟨its, r', pl, hz⟩ := I.list hq
    have hlen := r'.length
    obtain ⟨o, ho, hc, n, hd⟩ := pl.isList
    exact call_list_seq p (.inl rfl) ho hc hd (fun h' c' kp e => fin its r' hz h' c' kp e) (by simp only [List.size_toArray] <;> omega)
  · obtain ⟨its, r', pl, hz⟩ := I.tuple hq
    have hlen := r'.length
    obtain ⟨o, ho, hc, n, hd⟩ := pl
    exact call_list_seq p (.inr rfl) ho hc hd (fun h' c' kp e => fin its r' hz h' c' kp e) (by simp only [List.size_toArray] <;> omega)
theorem call_tuple_of : CallR X (.type "tuple") (fun xs H Q => ∃ p ys, xs = [.ref p] ∧ ((SqL X.K H p ys ∧ ∀ l, H l = none → Q (.ref l) (upd H l (.tup ys))) ∨ (SqT X.K H p ys ∧ Q (.ref p) H))) := by
  intro pins s σ H xs us Q I r h
  obtain ⟨p, ys, rfl, h⟩ := h
  obtain ⟨u, rfl, rx⟩ := vals1 r
  cases rx
  rcases h with ⟨hq, q⟩ | ⟨hq, q⟩
  · obtain ⟨its, r', pl, hz⟩ := I.list hq
    have hlen := r'.length
    refine call_tuple_list pl.isList (fun h' kp => ?_) (by simp only [List.size_toArray] <;> omega)
    have I1 : Inv X pins σ H { s with heap := h' } := I.kept (t' := s.toks) kp
    have I2 : Inv X pins σ (upd H h'.objs.size (.tup ys)) { s with heap := h'.push { cls := .type "tuple", data := .seq its.toArray } } :=
      I1.laid (t' := s.toks) (fun b o e => Heap.get?_push_of_some _ e) (Nat.le_refl _) (show ObjOk X.prog X.w _ _ _ (.tup ys) from ⟨hz, its, r', IsTup.new _ _⟩)
    exact ⟨.ref h'.objs.size, _, I2, rfl, q _ (I1.hok.fresh (Nat.le_refl _))⟩
  · obtain ⟨its, r', pl, hz⟩ := I.tuple hq
    exact call_tuple_same pl ⟨.ref p, H, I, rfl, q⟩
def tyV (K : PySem.W.Frag) (T : String) (x : V) (H : Hp) : Prop := match x with
  | .str _ => T = "str"
  | .int _ => T = "int"
  | .ref p => (T = "list" ∧ ∃ xs, SqL K H p xs) ∨ (T = "tuple" ∧ ∃ o, K.lookup p = some o ∧ o.cls = .type "tuple" ∧ o.dict = none) ∨
      (T = "dict" ∧ ((∃ kvs, H p = some (.dK kvs)) ∨ ∃ kvs, H p = some (.dT kvs))) ∨ (T = "set" ∧ ∃ S n, H p = some (.set S n))
  | _ => False
theorem tyV_is {pins : List (Addr × Obj)} {σ : St} {H : Hp} {s : Shared} {T : String} {x : V} {v : Value} (I : Inv X pins σ H s) (r : RelV x v) (ty : tyV X.K T x H) :
    s.TypeIs v T ∧ ∀ a, v = .ref a → ∃ ob, s.heap.get? a = some ob ∧ ob.dict = none := by
  cases x with
  | str z =>
    obtain ⟨t, rfl⟩ := r
    cases (show T = "str" from ty)
    exact ⟨typeIs_str s z t, fun _ e => nomatch e⟩
  | int i =>
    obtain ⟨t, rfl⟩ := r
    cases (show T = "int" from ty)
    exact ⟨typeIs_int s i t, fun _ e => nomatch e⟩
  | ref p =>
    cases r
    rcases ty with ⟨rfl, xs, hq⟩ | ⟨rfl, o, hk, hc, hd⟩ | ⟨rfl, hk⟩ | ⟨rfl, S, n, hk⟩
    · obtain ⟨its, _, pl, _⟩ := I.list hq
      refine ⟨pl.isList.typeIs, fun a e => ?_⟩
      cases e
      obtain ⟨o, n, e, c, hd, _⟩ := pl
      exact ⟨o, e, hd⟩
    · refine ⟨⟨o, I.kIn p o hk, hc⟩, fun a e => ?_⟩
      cases e
      exact ⟨o, I.kIn _ o hk, hd⟩
    · have z : ∃ o, s.heap.get? p = some o ∧ o.ExactDict := by
        rcases hk with ⟨kvs, hk⟩ | ⟨kvs, hk⟩
        · obtain ⟨_, _, _, _, o, _, _, e, ex, _⟩ := I.hok p _ hk
          exact ⟨o, e, ex⟩
        · obtain ⟨_, _, _, _, o, _, _, e, ex, _⟩ := I.hok p _ hk
          exact ⟨o, e, ex⟩
      obtain ⟨o, e, ex⟩ := z
      refine ⟨⟨o, e, ex.1⟩, fun a e2 => ?_⟩
      cases e2
      exact ⟨o, e, ex.2.1⟩
    · obtain ⟨o, _, _, _, e, ex, _⟩ := I.hok p _ hk
      refine ⟨⟨o, e, ex.1⟩, fun a e2 => ?_⟩
      cases e2
      exact ⟨o, e, ex.2.1⟩
  | _ => exact False.elim ty
def tBM0 (K : PySem.W.Frag) (T : String) (r : V → List V → Hp → VK → Prop) (to : TE) : TE := fun σ H Q => to σ H fun x H1 => tyV K T x H1 ∧ r x [] H1 Q
def tBM (K : PySem.W.Frag) (T : String) (r : V → List V → Hp → VK → Prop) (to : TE) (t : TA) : TE := fun σ H Q => to σ H fun x H1 => tyV K T x H1 ∧ t σ H1 fun xs H2 => r x xs H2 Q
variable {o e : Expr} {es : List Expr} {to : TE} {t : TA} {name : Str} {apos cpos : Pos} {T id : String} {r : V → List V → Hp → VK → Prop}
theorem pe_bm0 (pa : PlainAttrs T) (slot : Slot T name id) (hty : typeOf (.builtin id) = pure (.type "method_descriptor")) (hm : MtR X id r) (ho : PE X o to)
    (hbase : attributeBase o name X.env (eval o X.env) = eval o X.env := by rfl) (hline : (apos.endLine == cpos.line) = true := by rfl) : PE X (.Call (.Attribute o name apos) [] [] cpos) (tBM0 X.K T r to) := by
  intro pins s σ H Q I h
  refine wpAny_Call_method0_late hbase hline (thn (ho pins s σ H _ I h) fun v s1 ⟨x, H1, I1, r1, ty, q1⟩ => ?_)
  obtain ⟨h1, h2⟩ := tyV_is I1 r1 ty
  exact ⟨T, id, pa, slot, hty, h1, h2, Calls.callWith_builtin rfl (PySem.evalArgs_none (hm pins s1 σ H1 x [] v [] Q I1 r1 .nil q1))⟩
theorem pe_bm (pa : PlainAttrs T) (slot : Slot T name id) (hty : typeOf (.builtin id) = pure (.type "method_descriptor")) (hm : MtR X id r) (ho : PE X o to) (ha : PA X (e :: es) t)
    (hbase : attributeBase o name X.env (eval o X.env) = eval o X.env := by rfl)
    (hfew : ((backTo cpos (starEach (e :: es) X.env)).all (fun x => !x.1) && (backToKw cpos (keywordEach [] X.env)).all (fun x => x.1.isSome)
      && decide ((e :: es).length + ([] : List Keyword).length + (if ([] : List Keyword).isEmpty then 0 else 1) < 30)) = true := by rfl)
    (hline : (apos.endLine == cpos.line) = true := by rfl) (hs : starEach (e :: es) X.env = (false, eval e X.env) :: starEach es X.env := by rfl) (hplain : (backTo cpos (starEach es X.env)).any (·.1) = false := by rfl) :
    PE X (.Call (.Attribute o name apos) (e :: es) [] cpos) (tBM X.K T r to t) := by
  intro pins s σ H Q I h
  refine wpAny_Call_method_late hbase hfew hline rfl (thn (ho pins s σ H _ I h) fun v s1 ⟨x, H1, I1, r1, ty, q1⟩ => ?_)
  obtain ⟨h1, h2⟩ := tyV_is I1 r1 ty
  refine ⟨T, id, pa, slot, hty, h1, h2, ?_⟩
  have hA := ha cpos pins s1 σ H1 _ I1 q1
  rw [hs] at hA ⊢
  refine Calls.callWith_builtin (by show (false || (backTo cpos (starEach es X.env)).any (·.1)) = false; rw [hplain] <;> rfl) (Calls.evalArgs_plain ?_)
  exact thn hA fun us s2 ⟨vs, H2, I2, r2, q2⟩ => hm pins s2 σ H2 x vs v us Q I2 r1 r2 q2
/- xs.append(e), list.index on a module's tuple .. are MtR facts of 06m -/
end
end L2
namespace L2
open PySem PySem.Spec PyProof.Rows
def MtM (X : Cx) (id : String) (r : V → List V → Hp → VK → Prop) : Prop :=
  ∀ (pins : List (Addr × Obj)) (s : Shared) (σ : St) (H : Hp) (x : V) (xs : List V) (v : Value) (us : List Value) (Q : VK), Inv X pins σ H s → RelV x v → Vals xs us → r x xs H Q →
    wpAny (model X.prog X.w) X.A (call (.builtin id) (v :: us)) (EP X pins σ Q) X.xe s
theorem Vals.one : ∀ {x : V} {us : List Value}, Vals [x] us → ∃ u, us = [u] ∧ RelV x u
  | _, _, .cons r .nil => ⟨_, rfl, r⟩
theorem Vals.zero : ∀ {us : List Value}, Vals [] us → us = []
  | _, .nil => rfl
theorem Vals.dropLast {xs : List V} {us : List Value} (h : Vals xs us) : Vals xs.dropLast us.dropLast := by
  induction h with
  | nil => exact .nil
  | cons r t ih =>
    cases t with
    | nil => exact .nil
    | cons q t' => exact .cons r ih
theorem erase_last {α : Type} (l : List α) : l.eraseIdx (l.length - 1) = l.dropLast := by
  induction l with
  | nil => rfl
  | cons a r ih =>
    cases r with
    | nil => rfl
    | cons b r =>
      have e : (a :: b :: r).length - 1 = ((b :: r).length - 1) + 1 := by
        have h1 : (a :: b :: r).length = r.length + 2 := rfl
        have h2 : (b :: r).length = r.length + 1 := rfl
        omega
      rw [e, List.eraseIdx_cons_succ, ih]
      all_goals rfl
section
variable {X : Cx} {pins : List (Addr × Obj)} {σ : St} {H : Hp} {s : Shared} {l b : Addr} {xs ys zs : List V}
theorem Inv.lset {its its' : List Value} {n : Nat} {f : Array Value → Array Value} {t' : Nat} (I : Inv X pins σ H s) (hH : H l = some (.lst xs))
    (e : s.heap.get? l = some { cls := .type "list", data := .seq its.toArray n }) (hf : f its.toArray = its'.toArray) (hv : Vals ys its') (hz : ys.length ≤ sizeLine) :
    Inv X pins σ (upd H l (.lst ys)) { s with heap := s.heap.update l (Obj.mapSeq f), toks := t' } := by
  have q := PySem.IsL.update e f
  rw [hf] at q
  refine I.write (x := l) (e := l) (by rw [hH]; exact trivial) (.inl rfl) (fun b' u hb hu => (Heap.get?_update_other s.heap (Obj.mapSeq f) (Ne.symm hb)).trans hu) ⟨_, q⟩ ?_
  exact ⟨hz, its', _, hv, q⟩
theorem Inv.lnew {its : List Value} {t' : Nat} (I : Inv X pins σ H s) (hv : Vals ys its) (hz : ys.length ≤ sizeLine) :
    Inv X pins σ (upd H s.heap.objs.size (.lst ys)) { s with heap := s.heap.push { cls := .type "list", data := .seq its.toArray }, toks := t' } :=
  I.laid (fun _ _ q => Heap.get?_push_of_some _ q) (Nat.le_refl _) ⟨hz, its, 0, hv, Heap.get?_push_size _ rfl⟩
theorem Inv.fresh (I : Inv X pins σ H s) : H s.heap.objs.size = none := I.hok.fresh (Nat.le_refl _)
theorem Inv.lstM (I : Inv X pins σ H s) (hH : H l = some (.lst xs)) : xs.length ≤ sizeLine ∧ ∃ (its : List Value) (n : Nat), Vals xs its ∧ xs.length = its.length ∧ s.heap.get? l = some { cls := .type "list", data := .seq its.toArray n } := by
  obtain ⟨z, its, n, r, e⟩ := I.hok l _ hH
  exact ⟨z, its, n, r, r.length, e⟩
theorem notLongL {n : Nat} (h : n ≤ sizeLine) : Builtin.List.listTooLong n = false := by
  unfold Builtin.List.listTooLong
  exact decide_eq_false (by omega)
end
section
variable {X : Cx}
def rAppend : V → List V → Hp → VK → Prop := fun x vs H Q => ∃ l xs y, x = .ref l ∧ vs = [y] ∧ H l = some (.lst xs) ∧ xs.length < sizeLine ∧ Q .non (upd H l (.lst (xs ++ [y])))
theorem mt_append : MtM X "list.append" rAppend := by
  intro pins s σ H x vs v us Q I rx rv h
  obtain ⟨l, xs, y, rfl, rfl, hH, hz, q⟩ := h
  cases rx
  obtain ⟨u, rfl, ru⟩ := rv.one
  obtain ⟨z, its, n, r, hl, e⟩ := I.lstM hH
  refine call_meets F.slot_list_append ⟨_, e, rfl⟩ F.entry_list_append (F.args_list_append_2 _ _) (PySem.list_append l its.toArray n u (by rw [List.size_toArray]; omega)) ⟨e, ?_⟩
  refine ⟨.non, _, I.lset (its' := its ++ [u]) hH e (by simp) (r.append (.cons ru .nil)) ?_, rfl, q⟩
  rw [List.length_append, List.length_singleton]
  omega
def rExtend : V → List V → Hp → VK → Prop := fun x vs H Q => ∃ l b xs zs, x = .ref l ∧ vs = [.ref b] ∧ H l = some (.lst xs) ∧ H b = some (.lst zs) ∧ xs.length + zs.length ≤ sizeLine ∧ Q .non (upd H l (.lst (xs ++ zs)))
theorem mt_extend : MtM X "list.extend" rExtend := by
  intro pins s σ H x vs v us Q I rx rv h
  obtain ⟨l, b, xs, zs, rfl, rfl, hH, hB, hz, q⟩ := h
  cases rx
  obtain ⟨u, rfl, ru⟩ := rv.one
  cases ru
  obtain ⟨z, its, n, r, hl, e⟩ := I.lstM hH
  obtain ⟨z2, its2, n2, r2, hl2, e2⟩ := I.lstM hB
  have hsz : its.toArray.size + its2.toArray.size ≤ sizeLine := by rw [List.size_toArray, List.size_toArray]; omega
  have hlong : ¬ (!its.toArray.isEmpty && Builtin.List.listTooLong (its.toArray.size + its2.toArray.size)) = true := by
    rw [notLongL hsz, Bool.and_false]
    exact Bool.false_ne_true
  refine call_meets F.slot_list_extend ⟨_, e, rfl⟩ F.entry_list_extend (F.args_list_extend_2 _ _)
    (AutoSeq1.list_extend_list_list_0 l its.toArray n b its2.toArray n2 hlong (by rw [List.size_toArray]; omega) (by omega)) ⟨e, e2, ?_⟩
  refine ⟨.non, _, I.lset (its' := its ++ its2) hH e (by simp) (r.append r2) ?_, rfl, q⟩
  rw [List.length_append]
  omega
def rPop : V → List V → Hp → VK → Prop := fun x vs H Q => ∃ l xs y, x = .ref l ∧ vs = [] ∧ H l = some (.lst xs) ∧ xs[xs.length - 1]? = some y ∧ Q y (upd H l (.lst xs.dropLast))
theorem mt_pop : MtM X "list.pop" rPop := by
  intro pins s σ H x vs v us Q I rx rv h
  obtain ⟨l, xs, y, rfl, rfl, hH, hy, q⟩ := h
  cases rx
  have hus := rv.zero
  subst hus
  obtain ⟨z, its, n, r, hl, e⟩ := I.lstM hH
  obtain ⟨u, hu, ru⟩ := r.get hy
  have hy' : its.toArray[its.toArray.size - 1]? = some u := by
    show its.toArray[its.length - 1]? = some u
    rw [← Array.getElem?_toList, ← hl]
    exact hu
  refine call_meets F.slot_list_pop ⟨_, e, rfl⟩ F.entry_list_pop (F.args_list_pop_1 _) (MeetsSeq.list_pop_last l its.toArray n u hy' (by rw [List.size_toArray]; omega)) ⟨e, ?_⟩
  refine ⟨y, _, I.lset (its' := its.dropLast) hH e ?_ r.dropLast ?_, ru, q⟩
  · show its.toArray.eraseIdxIfInBounds (its.toArray.size - 1) = its.dropLast.toArray
    rw [List.size_toArray, List.eraseIdxIfInBounds_toArray, erase_last]
  · rw [List.length_dropLast]
    omega
def rCat : R2 := fun x y H Q => ∃ l b xs zs, x = .ref l ∧ y = .ref b ∧ H l = some (.lst xs) ∧ H b = some (.lst zs) ∧ xs.length + zs.length ≤ sizeLine ∧ ∀ p, H p = none → Q (.ref p) (upd H p (.lst (xs ++ zs)))
theorem op_cat : OpR X (binaryOp .Add) rCat := by
  intro pins s σ H x y v u Q I rx ry h
  obtain ⟨l, b, xs, zs, rfl, rfl, hH, hB, hz, q⟩ := h
  cases rx
  cases ry
  obtain ⟨z, its, n, r, hl, e⟩ := I.lstM hH
  obtain ⟨z2, its2, n2, r2, hl2, e2⟩ := I.lstM hB
  refine PySem.P.add_list e e2 ?_ (by rw [List.size_toArray, List.size_toArray]; omega)
  have ea : its.toArray ++ its2.toArray = (its ++ its2).toArray := by simp
  rw [ea]
  exact ⟨.ref _, _, I.lnew (t' := s.toks) (r.append r2) (by rw [List.length_append]; omega), rfl, q _ I.fresh⟩
end
section
variable {prog : Program} {w : World} {A : Around} {E : Value → Shared → Prop} {s : Shared}
end
section
variable {X : Cx}
end
end L2
namespace L2
open PySem PySem.Spec PyProof.Rows
theorem Vals.bls : ∀ {bs : List Bool} {us : List Value}, Vals (bs.map V.bl) us → us = bs.map Value.bool
  | [], us, h => by
    rw [List.map_nil] at h
    cases h
    rfl
  | b :: bs, us, h => by
    rw [List.map_cons] at h
    cases h with
    | cons r t =>
      cases r
      rw [Vals.bls t, List.map_cons]
theorem Vals.ref1 {a : Addr} {us : List Value} (r : Vals [V.ref a] us) : us = [Value.ref a] := by
  cases r with
  | cons r t =>
    cases t
    cases r
    rfl
section
variable {prog : Program} {w : World} {A : Around} {E : Value → Shared → Prop} {s : Shared} {l : Addr} {its : List Value} {ns : List Int} {Q : Value → Shared → Prop}
end
section
variable {X : Cx}
end
section
variable {X : Cx}
def rIndex (K : PySem.W.Frag) : V → List V → Hp → VK → Prop := fun x xs H Q => ∃ (a : Addr) (ys : List V) (y : V) (j : Nat) (z : V), x = V.ref a ∧ xs = [y] ∧ SqL K H a ys ∧ flatV y = true ∧ ys.all flatV = true ∧ ys[j]? = some z ∧ eqV z y = true ∧
  (∀ (m : Nat) (z' : V), m < j → ys[m]? = some z' → eqV z' y = false) ∧ Q (.int (j : Nat)) H
theorem flat_at {ys : List V} (f : ys.all flatV = true) {j : Nat} {z : V} (h : ys[j]? = some z) : flatV z = true := List.all_eq_true.mp f z (List.mem_of_getElem? h)
theorem mt_index : MtR X "list.index" (rIndex X.K) := by
  intro pins s σ H x xs v us Q I rx rxs h
  obtain ⟨a, ys, y, j, z, rfl, rfl, hs, fy, fys, hz, hzj, hno, q⟩ := h
  cases rx
  cases rxs with
  | cons ry rt =>
    rename_i uy ut
    cases rt
    obtain ⟨its, rv, ⟨⟨cls, dd, data, sl⟩, n, ho, hc, hdn, hd⟩, hlen⟩ := I.list hs
    simp only at hc hd
    subst hc hd
    obtain ⟨u, hu, ru⟩ := rv.get hz
    obtain ⟨hjl, hje⟩ := List.getElem?_eq_some_iff.mp hu
    have hvl := rv.length
    have hj : j < its.toArray.size := by simpa using hjl
    have hsl := sizeLine_eq
    refine call_meets PySem.F.slot_list_index ⟨_, ho, rfl⟩ PySem.F.entry_list_index (PySem.F.args_list_index_2 _ _)
      (SeqAt.list_indexAt a its.toArray n dd sl uy (eqU y) j hj (by omega) ?_ ?_) ⟨ho, fun u' hu' => mem_eqAt ry fy rv fys u' (by simpa using hu'), ?_⟩
    · have e1 : its.toArray[j] = u := by simpa using hje
      rw [e1, eqU_of ru (flat_at fys hz)]
      exact hzj
    · intro m hm hmj
      have hml : m < its.length := by simpa using hm
      have hmy : m < ys.length := by omega
      have hy' : ys[m]? = some ys[m] := List.getElem?_eq_getElem hmy
      obtain ⟨u2, hu2, ru2⟩ := rv.get hy'
      obtain ⟨_, hme⟩ := List.getElem?_eq_some_iff.mp hu2
      have e1 : its.toArray[m] = u2 := by simpa using hme
      rw [e1, eqU_of ru2 (flat_at fys hy')]
      exact hno m _ hmj hy'
    · exact ⟨.int (j : Nat), H, I.tok _, ⟨_, rfl⟩, q⟩
end
section
variable {X : Cx}
end
theorem iter_any {prog : Program} {w : World} {A : Around} {E : Value → Shared → Prop} {s : Shared} {l : Addr} {items : Array Value} {Q : Value → Shared → Prop} (hl : s.heap.IsList l items)
    (h : ∀ s₂ : Shared, s₂ = { s with heap := s.heap.push { cls := .type "list_iterator", data := .fields #[.ref l, .int 0 0] } } →
      (s₂.heap.IsListIter s.heap.objs.size l 0 ∧ s₂.heap.IsList l items) → l ≠ s.heap.objs.size → Q (.ref s.heap.objs.size) s₂) : wpAny (model prog w) A (pyIter (.ref l)) Q E s := by
  have hlt : l < s.heap.objs.size := by obtain ⟨_, e, _⟩ := hl; exact Heap.lt_size e
  exact wpAny_pyIter_list hl (h _ rfl ⟨⟨_, Heap.get?_push_size _ rfl, rfl, rfl⟩, hl.push _⟩ (Nat.ne_of_lt hlt))
theorem truth_bools {prog : Program} {w : World} {A : Around} {bs : List Bool} {its : List Value} (e : its = bs.map Value.bool) :
    TruthOf prog w A (fun i v => its.toArray[i]? = some v) (fun i => bs.getD i false) := fun i v s Q E hv hq => by
  have hv' : its[i]? = some v := by simpa using hv
  rw [e, List.getElem?_map] at hv'
  obtain ⟨b, hb, rfl⟩ := Option.map_eq_some_iff.mp hv'
  have hg : bs.getD i false = b := by rw [List.getD_eq_getElem?_getD, hb] <;> rfl
  have hq' : Q (bs.getD i false) s := hq
  rw [hg] at hq'
  exact wpAny_truthy_bool hq'
theorem any_range : ∀ bs : List Bool, (List.range bs.length).any (fun i => bs.getD i false) = bs.any id
  | [] => rfl
  | b :: bs => by
    rw [List.length_cons, List.range_succ_eq_map, List.any_cons, List.any_map, List.any_cons, ← any_range bs]
    all_goals rfl
theorem all_range : ∀ bs : List Bool, (List.range bs.length).all (fun i => bs.getD i false) = bs.all id
  | [] => rfl
  | b :: bs => by
    rw [List.length_cons, List.range_succ_eq_map, List.all_cons, List.all_map, List.all_cons, ← all_range bs]
    all_goals rfl
section
variable {X : Cx}
def rAll (K : PySem.W.Frag) : List V → Hp → VK → Prop := fun vs H Q => ∃ (a : Addr) (bs : List Bool), vs = [V.ref a] ∧ SqL K H a (bs.map V.bl) ∧ Q (.bl (bs.all id)) H
theorem cr_all (hc : X.calm = true) : CallR X (.builtin "all") (rAll X.K) := by
  intro pins s σ H vs us Q I r h
  obtain ⟨a, bs, rfl, hs, q⟩ := h
  obtain ⟨its, rv, hl, _⟩ := I.list hs
  rw [Vals.ref1 r]
  have hb := rv.bls
  refine call_all_walk (iter_any hl.isList fun s₂ e2 st hne => ?_)
  subst e2
  refine ⟨_, _, _, _, _, _, _, rfl, Walks.list (A := X.A.in1) (I.ok.hd hc) _ a hne its.toArray, st, truth_bools hb, fun h' tk hk => ?_⟩
  refine ⟨.bl _, H, I.kept fun b o eo => hk b o (fun hmem => ?_) (Heap.get?_push_of_some _ eo), ?_, q⟩
  · rcases List.mem_cons.mp hmem with e1 | hmem
    · exact absurd (e1 ▸ Heap.lt_size eo) (Nat.lt_irrefl _)
    · cases hmem
  · show Value.bool _ = Value.bool _
    rw [← all_range, hb, List.size_toArray, List.length_map]
end
mutual
inductive Dp (K : PySem.W.Frag) (H : Hp) : V → PyData → Prop
  | non : Dp K H .non .none
  | bl (b : Bool) : Dp K H (.bl b) (.bool b)
  | int (i : Int) : Dp K H (.int i) (.int i)
  | str (x : Str) : Dp K H (.str x) (.str x)
  | lst {a : Addr} {xs : List V} {ds : List PyData} : SqL K H a xs → DpAll K H xs ds → Dp K H (.ref a) (.list ds)
  | tup {a : Addr} {xs : List V} {ds : List PyData} : SqT K H a xs → DpAll K H xs ds → Dp K H (.ref a) (.tuple ds)
inductive DpAll (K : PySem.W.Frag) (H : Hp) : List V → List PyData → Prop
  | nil : DpAll K H [] []
  | cons {v : V} {vs : List V} {d : PyData} {ds : List PyData} : Dp K H v d → DpAll K H vs ds → DpAll K H (v :: vs) (d :: ds)
end
section
variable {X : Cx} {pins : List (Addr × Obj)} {σ : St} {H : Hp} {s : Shared}
mutual
theorem Dp.reads (I : Inv X pins σ H s) : ∀ (d : PyData) (v : V) (u : Value), Dp X.K H v d → RelV v u → ∃ as, Reads s.heap u d as
  | .none, _, _, h, r => by
    cases h
    cases r
    exact ⟨_, Reads.none⟩
  | .bool b, _, _, h, r => by
    cases h
    cases r
    exact ⟨_, Reads.bool b⟩
  | .int i, _, _, h, r => by
    cases h
    obtain ⟨t, rfl⟩ := r
    exact ⟨_, Reads.int i t⟩
  | .str x, _, _, h, r => by
    cases h
    obtain ⟨t, rfl⟩ := r
    exact ⟨_, Reads.str x t⟩
  | .list ds, _, _, h, r => by
    cases h with
    | lst hs ha =>
      cases r
      obtain ⟨its, rv, ⟨o, n, ho, hc, _, hd⟩, _⟩ := I.list hs
      obtain ⟨as, hr⟩ := Dp.readsAll I ds _ its ha rv
      exact ⟨_, Reads.list ho hc hd hr⟩
  | .tuple ds, _, _, h, r => by
    cases h with
    | tup hs ha =>
      cases r
      obtain ⟨its, rv, ⟨o, ho, hc, n, hd⟩, _⟩ := I.tuple hs
      obtain ⟨as, hr⟩ := Dp.readsAll I ds _ its ha rv
      exact ⟨_, Reads.tuple ho hc hd hr⟩
  | .dict _, _, _, h, _ => by cases h
theorem Dp.readsAll (I : Inv X pins σ H s) : ∀ (ds : List PyData) (vs : List V) (us : List Value), DpAll X.K H vs ds → Vals vs us → ∃ as, ReadsAll s.heap us ds as
  | [], _, _, h, r => by
    cases h
    cases r
    exact ⟨_, ReadsAll.nil⟩
  | d :: ds, _, _, h, r => by
    cases h with
    | cons h1 h2 =>
      cases r with
      | cons r1 r2 =>
        obtain ⟨as, q1⟩ := Dp.reads I d _ _ h1 r1
        obtain ⟨bs, q2⟩ := Dp.readsAll I ds _ _ h2 r2
        exact ⟨_, ReadsAll.cons q1 q2⟩
end
end
section
variable {X : Cx}
def rEqD (K : PySem.W.Frag) : R2 := fun x y H Q => ∃ d e, Dp K H x d ∧ Dp K H y e ∧ SeqAt.shaped d = true ∧ SeqAt.shaped e = true ∧ Q (.bl (PyData.eqv d e)) H
theorem op_eqD (hu : X.A.units + 64 < cLine) : OpR X (compareOp .Eq) (rEqD X.K) := by
  intro pins s σ H x y v u Q I rx ry h
  obtain ⟨d, e, hd, he, sd, se, q⟩ := h
  obtain ⟨as, r1⟩ := Dp.reads I d x v hd rx
  obtain ⟨bs, r2⟩ := Dp.reads I e y u he ry
  exact SeqAt.compareEq_shaped r1 r2 sd se hu ⟨.bl _, H, I, rfl, q⟩
end
end L2
namespace L2
open PySem PySem.Spec PyProof.Rows
abbrev CellAt (h : Heap) (c : Addr) (v : Option Value) : Prop := h.IsCell c v
def relS (scope sc : Scope) : Scope :=
  { scope with names := scope.names.map fun (n, k) => if (k == .free && sc.kind == .function && sc.names.lookup n == some .cell) then (n, .cell) else (n, k) }
def cloFrom (cells : List (Str × Addr)) : List (Str × NameKind) → List (Str × Addr) → List (Str × Addr)
  | [], acc => acc
  | (n, k) :: r, acc => if k == .free then cloFrom cells r ((n, (cells.lookup n).getD 0) :: acc) else cloFrom cells r acc
theorem closure_loop (env : Env) (f : Str × NameKind → List (Str × Addr) → Sem (ForInStep (List (Str × Addr))))
    (hf : ∀ n k c, f (n, k) c = if k == .free then (do let a ← cellOf env n; pure (.yield ((n, a) :: c))) else pure (.yield c)) :
    ∀ (names : List (Str × NameKind)) (acc : List (Str × Addr)), (∀ y ∈ names, y.2 = .free → ∃ c, env.cells.lookup y.1 = some c) → forIn names acc f = pure (cloFrom env.cells names acc)
  | [], acc, _ => by rw [List.forIn_nil]; rfl
  | (n, k) :: r, acc, h => by
    rw [List.forIn_cons, hf]
    have ih := fun acc => closure_loop env f hf r acc fun y hy => h y (List.mem_cons_of_mem _ hy)
    unfold cloFrom
    by_cases hk : (k == NameKind.free) = true
    · rw [if_pos hk, if_pos hk]
      obtain ⟨c, hc⟩ := h (n, k) List.mem_cons_self (by simpa using hk)
      have e : cellOf env n = pure c := by unfold cellOf; rw [hc]
      rw [e]
      have e2 : (env.cells.lookup n).getD 0 = c := by rw [hc]; rfl
      rw [e2]
      exact ih _
    · rw [if_neg hk, if_neg hk]
      exact ih _
theorem closure_ok {scope : Scope} {env : Env} (h : ∀ y ∈ scope.names, y.2 = .free → ∃ c, env.cells.lookup y.1 = some c) : closureFor scope env = pure (cloFrom env.cells scope.names []) := by
  simp only [closureFor]
  rw [closure_loop env _ (fun n k c => rfl) scope.names [] h]
  rfl
theorem mem_lookup {α : Type} : ∀ {l : List (Str × α)} {n : Str} {c : α}, (n, c) ∈ l → ∃ c', l.lookup n = some c'
  | (k, v) :: r, n, c, h => by
    rw [List.lookup_cons]
    cases hb : n == k with
    | true => exact ⟨_, rfl⟩
    | false =>
      rcases List.mem_cons.mp h with e | h
      · cases e; simp at hb
      · exact mem_lookup h
theorem cloFrom_mem {cells : List (Str × Addr)} : ∀ {names : List (Str × NameKind)} {acc : List (Str × Addr)} {n : Str} {c : Addr}, (n, c) ∈ cloFrom cells names acc → (n, c) ∈ acc ∨ ((n, .free) ∈ names ∧ c = (cells.lookup n).getD 0)
  | [], _, _, _, h => .inl h
  | (m, k) :: r, acc, n, c, h => by
    unfold cloFrom at h
    split at h
    · rename_i hk
      have hk : k = .free := by simpa using hk
      rcases cloFrom_mem h with h | ⟨h1, h2⟩
      · rcases List.mem_cons.mp h with e | h
        · cases e; exact .inr ⟨hk ▸ List.mem_cons_self, rfl⟩
        · exact .inl h
      · exact .inr ⟨List.mem_cons_of_mem _ h1, h2⟩
    · rcases cloFrom_mem h with h | ⟨h1, h2⟩
      · exact .inl h
      · exact .inr ⟨List.mem_cons_of_mem _ h1, h2⟩
theorem cloFrom_acc {cells : List (Str × Addr)} : ∀ {names : List (Str × NameKind)} {acc : List (Str × Addr)} {p : Str × Addr}, p ∈ acc → p ∈ cloFrom cells names acc
  | [], _, _, h => h
  | (m, k) :: r, acc, p, h => by
    unfold cloFrom
    split
    · exact cloFrom_acc (List.mem_cons_of_mem _ h)
    · exact cloFrom_acc h
theorem cloFrom_has {cells : List (Str × Addr)} : ∀ {names : List (Str × NameKind)} {acc : List (Str × Addr)} {n : Str}, (n, .free) ∈ names → (n, (cells.lookup n).getD 0) ∈ cloFrom cells names acc
  | (m, k) :: r, acc, n, h => by
    unfold cloFrom
    rcases List.mem_cons.mp h with e | h
    · cases e
      exact cloFrom_acc List.mem_cons_self
    · split
      · exact cloFrom_has h
      · exact cloFrom_has h
theorem cells_mem : ∀ {names : List (Str × NameKind)} {h : Heap} {acc : List (Str × Addr)} {x : Str} {c : Addr}, (x, c) ∈ cellsFrom h.objs.size names acc →
    (x, c) ∈ acc ∨ ((x, .cell) ∈ names ∧ h.objs.size ≤ c ∧ CellAt (pushCells h names) c none)
  | [], _, _, _, _, h => .inl h
  | (n, k) :: r, h, acc, x, c, hm => by
    unfold cellsFrom at hm
    unfold pushCells
    split at hm
    · rename_i hk
      rw [if_pos hk]
      have hk : k = .cell := by simpa using hk
      rw [← Heap.size_push h { cls := .type "cell", data := .cell none }] at hm
      rcases cells_mem hm with hm | ⟨h1, h2, h3⟩
      · rcases List.mem_cons.mp hm with e | hm
        · cases e
          exact .inr ⟨hk ▸ List.mem_cons_self, Nat.le_refl _, _, pushCells_keeps r _ _ _ (Heap.get?_push_size _ rfl), rfl⟩
        · exact .inl hm
      · rw [Heap.size_push] at h2
        exact .inr ⟨List.mem_cons_of_mem _ h1, Nat.le_of_succ_le h2, h3⟩
    · rename_i hk
      rw [if_neg hk]
      rcases cells_mem hm with hm | ⟨h1, h2, h3⟩
      · exact .inl hm
      · exact .inr ⟨List.mem_cons_of_mem _ h1, h2, h3⟩
theorem cells_acc : ∀ {names : List (Str × NameKind)} {n : Nat} {acc : List (Str × Addr)} {p : Str × Addr}, p ∈ acc → p ∈ cellsFrom n names acc
  | [], _, _, _, h => h
  | (m, k) :: r, n, acc, p, h => by
    unfold cellsFrom
    split
    · exact cells_acc (List.mem_cons_of_mem _ h)
    · exact cells_acc h
theorem cells_has : ∀ {names : List (Str × NameKind)} {n : Nat} {acc : List (Str × Addr)} {x : Str}, (x, .cell) ∈ names → ∃ c, (x, c) ∈ cellsFrom n names acc
  | (m, k) :: r, n, acc, x, h => by
    unfold cellsFrom
    rcases List.mem_cons.mp h with e | h
    · cases e
      exact ⟨n, cells_acc List.mem_cons_self⟩
    · split
      · exact cells_has h
      · exact cells_has h
theorem cells_inj : ∀ {names : List (Str × NameKind)} {h : Heap} {acc : List (Str × Addr)} {x y : Str} {c : Addr}, (∀ p ∈ acc, p.2 < h.objs.size) → (∀ x y c, (x, c) ∈ acc → (y, c) ∈ acc → x = y) →
    (x, c) ∈ cellsFrom h.objs.size names acc → (y, c) ∈ cellsFrom h.objs.size names acc → x = y
  | [], _, _, _, _, _, _, hi, h1, h2 => hi _ _ _ h1 h2
  | (n, k) :: r, h, acc, x, y, c, hl, hi, h1, h2 => by
    unfold cellsFrom at h1 h2
    split at h1
    · rename_i hk
      rw [if_pos hk] at h2
      rw [← Heap.size_push h { cls := .type "cell", data := .cell none }] at h1 h2
      refine cells_inj (h := h.push _) (fun p hp => ?_) (fun x y c a b => ?_) h1 h2
      · rw [Heap.size_push]
        rcases List.mem_cons.mp hp with rfl | hp
        · exact Nat.lt_succ_self _
        · exact Nat.lt_succ_of_lt (hl p hp)
      · rcases List.mem_cons.mp a with e | a <;> rcases List.mem_cons.mp b with e' | b
        · cases e; cases e'; rfl
        · cases e; exact absurd (hl _ b) (Nat.lt_irrefl _)
        · cases e'; exact absurd (hl _ a) (Nat.lt_irrefl _)
        · exact hi _ _ _ a b
    · rename_i hk
      rw [if_neg hk] at h2
      exact cells_inj hl hi h1 h2
theorem newEnv_comp {M : Model} {A : Around} {E : Value → Shared → Prop} {s : Shared} {scope : Scope} {globals : Addr} {closure : List (Str × Addr)} {qual : Str} {func : Option Addr} {code : Value} {around : Env} {builtins : Addr} {Q : Env → Shared → Prop}
    (h : Q (newEnv scope s.heap.objs.size globals (cellsFrom (s.heap.objs.size + 1) scope.names closure) qual func code (some around) builtins)
      { s with heap := pushCells (s.heap.push { cls := .type "dict", data := .dict #[] }) scope.names }) :
    wpAny M A (newFunctionEnv scope globals closure [] qual func code (some around) builtins) Q E s := by
  simp only [newFunctionEnv, Option.isSome_some, if_true]
  refine wpAny_bind (wpAny_alloc ?_)
  refine wpAny_bind (wpAny_layCells _ (fun n k c => rfl) scope.names closure _ _ ?_)
  rw [show ({ s with heap := s.heap.push { cls := .type "dict", data := .dict #[] } } : Shared).heap.objs.size = s.heap.objs.size + 1 from Heap.size_push ..]
  rw [List.forIn_nil]
  exact wpAny_bind (wpAny_pure (wpAny_pure h))
theorem lookup_relS {sc : Scope} : ∀ {names : List (Str × NameKind)} {x : Str} {k : NameKind},
    (names.map fun (n, k) => if (k == NameKind.free && sc.kind == .function && sc.names.lookup n == some .cell) then (n, NameKind.cell) else (n, k)).lookup x = some k →
    ∃ k', names.lookup x = some k' ∧ (k = k' ∨ (k' = .free ∧ k = .cell))
  | [], _, _, h => by simp at h
  | (n, k₀) :: r, x, k, h => by
    have ih := @lookup_relS sc r x k
    have h' : List.lookup x ((if (k₀ == NameKind.free && sc.kind == .function && sc.names.lookup n == some .cell) = true then (n, NameKind.cell) else (n, k₀)) :: (r.map _)) = some k := h
    cases hx : x == n with
    | true =>
      simp only [List.lookup_cons, hx]
      by_cases hc : (k₀ == NameKind.free && sc.kind == .function && sc.names.lookup n == some .cell) = true
      · rw [if_pos hc] at h'
        simp only [List.lookup_cons, hx] at h'
        cases h'
        simp only [Bool.and_eq_true, beq_iff_eq] at hc
        exact ⟨k₀, rfl, .inr ⟨hc.1.1, rfl⟩⟩
      · rw [if_neg hc] at h'
        simp only [List.lookup_cons, hx] at h'
        cases h'
        exact ⟨_, rfl, .inl rfl⟩
    | false =>
      simp only [List.lookup_cons, hx]
      by_cases hc : (k₀ == NameKind.free && sc.kind == .function && sc.names.lookup n == some .cell) = true
      · rw [if_pos hc] at h'
        simp only [List.lookup_cons, hx] at h'
        exact ih h'
      · rw [if_neg hc] at h'
        simp only [List.lookup_cons, hx] at h'
        exact ih h'
structure BlkOk (N : List Str) (sc scope : Scope) (own : List (Str × Nat)) : Prop where
  kind : scope.kind = .function
  uniq : ∀ y ∈ scope.names, scope.names.lookup y.1 = some y.2
  ix : ∀ p ∈ own, N[p.2]? = some p.1
  free : ∀ y ∈ scope.names, y.2 = .free → sc.names.lookup y.1 = some .cell ∨ sc.names.lookup y.1 = some .free
  own : ∀ y ∈ scope.names, y.2 = .local ∨ y.2 = .cell → y.1 ∈ own.map (·.1) ∨ y.1 ∉ N
def wipe (σ : St) : List Nat → St
  | [] => σ
  | v :: vs => (wipe σ vs).set v none
theorem wipe_length (σ : St) : ∀ vs : List Nat, (wipe σ vs).length = σ.length
  | [] => rfl
  | v :: vs => by unfold wipe; rw [List.length_set, wipe_length σ vs]
theorem wipe_some {σ : St} {i : Nat} {x : V} : ∀ {vs : List Nat}, (wipe σ vs)[i]? = some (some x) → σ[i]? = some (some x) ∧ i ∉ vs
  | [], h => ⟨h, by simp⟩
  | v :: vs, h => by
    unfold wipe at h
    by_cases hi : v = i
    · subst hi
      by_cases hv : v < (wipe σ vs).length
      · rw [List.getElem?_set_self hv] at h; cases h
      · rw [List.getElem?_eq_none (by simpa using hv)] at h; cases h
    · rw [List.getElem?_set_ne hi] at h
      obtain ⟨h1, h2⟩ := wipe_some h
      exact ⟨h1, by simp only [List.mem_cons, not_or]; exact ⟨fun e => hi e.symm, h2⟩⟩
abbrev Cx.blk (X : Cx) (s : Shared) (H : Hp) (scope : Scope) (cenv : Env) (fp : List Addr) : Cx := { X with s_0 := s, H_0 := H, env := cenv, outer := X.stack, ex := fp, fn := fun x => scope.names.lookup x == some .cell, pn := [], xe := fun _ _ => False }
section
variable {X : Cx} {pins : List (Addr × Obj)} {σ : St} {H : Hp} {s : Shared}
theorem block_start {scope : Scope} {own : List (Str × Nat)} {fp : List Addr} (I : Inv X pins σ H s) (ok : BlkOk X.N X.env.scope scope own) (hN : X.N.Nodup) (hfp : ∀ b ∈ fp, FpOk X pins H b ∧ b < s.heap.objs.size) :
    Inv (X.blk s H scope (compEnvC scope (cellsFrom (s.heap.objs.size + 1) scope.names (cloFrom X.env.cells scope.names [])) s.heap.objs.size X.env) fp) [] (wipe σ (own.map (·.2))) H { s with heap := pushCells (s.heap.push { cls := .type "dict", data := .dict #[] }) scope.names } := by
  have hfree : ∀ y ∈ scope.names, y.2 = .free → ∃ c, X.env.cells.lookup y.1 = some c := fun y hy e => by
    rcases ok.free y hy e with k | k
    · exact I.ok.has _ (.inl k)
    · exact I.ok.has _ (.inr k)
  generalize hcenv : compEnvC scope (cellsFrom (s.heap.objs.size + 1) scope.names (cloFrom X.env.cells scope.names [])) s.heap.objs.size X.env = cenv
  have kp : ∀ b o, s.heap.get? b = some o → (pushCells (s.heap.push { cls := .type "dict", data := .dict #[] }) scope.names).get? b = some o := fun b o e => pushCells_keeps _ _ _ _ (Heap.get?_push_of_some _ e)
  have hL : cenv.locals = s.heap.objs.size := by rw [← hcenv]; rfl
  have hcl : cenv.cells = cellsFrom (s.heap.objs.size + 1) scope.names (cloFrom X.env.cells scope.names []) := by rw [← hcenv]; rfl
  have hsc : cenv.scope = relS scope X.env.scope := by rw [← hcenv]; rfl
  rw [← Heap.size_push s.heap { cls := .type "dict", data := .dict #[] }] at hcl
  have cm : ∀ {y c}, (y, c) ∈ cloFrom X.env.cells scope.names [] → X.env.cells.lookup y = some c ∧ c < s.heap.objs.size := fun {y c} hm => by
    rcases cloFrom_mem hm with hm | ⟨h1, rfl⟩
    · cases hm
    · obtain ⟨c, hc⟩ := hfree _ h1 rfl
      rw [hc]
      obtain ⟨w, z⟩ := I.cell _ _ hc
      exact ⟨rfl, z.lt⟩
  have mem : ∀ {y c}, cenv.cells.lookup y = some c → (X.env.cells.lookup y = some c ∧ c < s.heap.objs.size) ∨ (s.heap.objs.size + 1 ≤ c ∧ CellAt (pushCells (s.heap.push { cls := .type "dict", data := .dict #[] }) scope.names) c none) := fun {y c} e => by
    rw [hcl] at e
    rcases cells_mem (PySem.mem_of_lookup e) with hm | ⟨_, h2, h3⟩
    · exact .inl (cm hm)
    · rw [Heap.size_push] at h2; exact .inr ⟨h2, h3⟩
  have look : ∀ {y}, scope.names.lookup y = some .free → ∃ c, cenv.cells.lookup y = some c ∧ X.env.cells.lookup y = some c := fun {y} hl => by
    have hy : (y, NameKind.free) ∈ scope.names := PySem.mem_of_lookup hl
    obtain ⟨c', e'⟩ := mem_lookup (cells_acc (names := scope.names) (n := (s.heap.push { cls := .type "dict", data := .dict #[] }).objs.size) (cloFrom_has (cells := X.env.cells) (acc := []) hy))
    rw [← hcl] at e'
    refine ⟨c', e', ?_⟩
    rw [hcl] at e'
    rcases cells_mem (PySem.mem_of_lookup e') with hm | ⟨h1, _, _⟩
    · exact (cm hm).1
    · have := ok.uniq _ h1
      rw [hl] at this; cases this
  have okB : (X.blk s H scope cenv fp).Ok := by
    refine ⟨I.ok.mod, by show cenv.scope.kind = _; rw [hsc]; exact ok.kind, by show cenv.globals = _; rw [← hcenv]; exact I.ok.glob, by show cenv.builtins = _; rw [← hcenv]; exact I.ok.blt, by show s.heap.objs.size ≤ cenv.locals; rw [hL]; exact Nat.le_refl _,
      fun y z c e1 e2 => ?_, fun y hy => ?_, fun y c z e => ?_, I.ok.hd, I.ok.frames, .inl rfl, fun b hb => ⟨?_, fun y c e z => ?_⟩, I.bs, Nat.le_trans I.ok.bsz I.sz, fun b o e hb => ?_, fun b hb z => ?_, I.stack, I.stkFree⟩
    · have e1 : cenv.cells.lookup y = some c := e1
      have e2 : cenv.cells.lookup z = some c := e2
      rw [hcl] at e1 e2
      refine cells_inj (fun p hp => ?_) (fun y z c a b => I.ok.inj y z c (cm a).1 (cm b).1) (PySem.mem_of_lookup e1) (PySem.mem_of_lookup e2)
      rw [Heap.size_push]
      exact Nat.lt_succ_of_lt (cm (y := p.1) (c := p.2) hp).2
    · show ∃ c, cenv.cells.lookup y = some c
      have key : ∀ k, cenv.kindOf y = some k → (k = .cell ∨ k = .free) → ∃ c, cenv.cells.lookup y = some c := fun k hk hk' => by
        unfold Env.kindOf at hk
        rw [hsc] at hk
        obtain ⟨k', e, r⟩ := lookup_relS hk
        have : k' = .cell ∨ k' = .free := by
          rcases r with rfl | ⟨rfl, _⟩
          · exact hk'
          · exact .inr rfl
        rcases this with rfl | rfl
        · obtain ⟨c, hm⟩ := cells_has (n := (s.heap.push { cls := .type "dict", data := .dict #[] }).objs.size) (acc := cloFrom X.env.cells scope.names []) (PySem.mem_of_lookup e)
          obtain ⟨c', e'⟩ := mem_lookup hm
          exact ⟨c', by rw [hcl]; exact e'⟩
        · obtain ⟨c, h1, _⟩ := look e
          exact ⟨c, h1⟩
      rcases hy with hy | hy
      · exact key _ hy (.inl rfl)
      · exact key _ hy (.inr rfl)
    · have z : (scope.names.lookup y == some NameKind.cell) = true := z
      have z : scope.names.lookup y = some .cell := by simpa using z
      have e : cenv.cells.lookup y = some c := e
      rw [hcl] at e
      rcases cells_mem (PySem.mem_of_lookup e) with hm | ⟨_, h2, _⟩
      · rcases cloFrom_mem hm with hm | ⟨h1, _⟩
        · cases hm
        · have q := ok.uniq _ h1
          rw [z] at q; cases q
      · rw [Heap.size_push] at h2
        exact Nat.le_of_succ_le h2
    · show b ≠ cenv.locals
      rw [hL]; exact Nat.ne_of_lt (hfp b hb).2
    · have e : cenv.cells.lookup y = some c := e
      rcases mem e with ⟨h1, _⟩ | ⟨h1, _⟩
      · exact (hfp b hb).1.2.2.2.2.1 y c h1 z
      · have h2 : s.heap.objs.size + 1 ≤ b := by rw [← z]; exact h1
        exact absurd (Nat.lt_of_lt_of_le (hfp b hb).2 (Nat.le_of_succ_le h2)) (Nat.lt_irrefl _)
    · rcases (hfp b hb).1.2.2.2.1 with z | z
      · exact I.ok.noex b o e z
      · exact absurd (Nat.lt_of_lt_of_le (Heap.lt_size e) (Nat.le_trans I.ok.bsz z)) (Nat.lt_irrefl _)
    · rcases List.mem_cons.mp (I.stkSub b z) with z | z
      · exact (hfp b hb).1.2.1 z
      · exact (hfp b hb).1.2.2.1 z
  refine ⟨okB, rfl, I.bare, Un.kept kp, ⟨fun _ => none, ?_, fun i y av e1 e2 e3 => ?_⟩, fun y c e => ?_, ?_, fun y c e => ?_, fun p hp => ?_, I.hok.kept kp, by rw [wipe_length]; exact I.len⟩
  · show Heap.Ns _ cenv.locals _
    rw [hL]
    exact Heap.Ns.keeps (Heap.Ns.new ..) fun b o e => pushCells_keeps _ _ _ _ e
  · obtain ⟨e2, hne⟩ := wipe_some e2
    have hfr : scope.names.lookup y = some .free ∧ (cenv.kindOf y = some .cell ∨ cenv.kindOf y = some .free) := by
      have key : ∀ k, cenv.scope.names.lookup y = some k → k = .local ∨ k = .cell ∨ k = .free → scope.names.lookup y = some .free ∧ (cenv.kindOf y = some .cell ∨ cenv.kindOf y = some .free) := fun k hk hk' => by
        have hk0 := hk
        rw [hsc] at hk
        obtain ⟨k', e, r⟩ := lookup_relS hk
        have no : ¬ (k' = .local ∨ k' = .cell) := fun hh => by
          rcases ok.own _ (PySem.mem_of_lookup e) hh with e' | e'
          · obtain ⟨p, hp, hpy⟩ := List.mem_map.mp e'
            have e3 := ok.ix p hp
            have : p.1 = y := hpy
            rw [this] at e3
            exact hne (List.mem_map.mpr ⟨p, hp, nodup_ix hN e3 e1⟩)
          · exact e' (List.mem_of_getElem? e1)
        rcases r with rfl | ⟨rfl, rfl⟩
        · rcases hk' with rfl | rfl | rfl
          · exact absurd (.inl rfl) no
          · exact absurd (.inr rfl) no
          · exact ⟨e, .inr hk0⟩
        · exact ⟨e, .inl hk0⟩
      have e3 : Vis cenv.scope y := e3
      rcases e3 with e3 | e3 | e3
      · exact key _ e3 (.inl rfl)
      · exact key _ e3 (.inr (.inl rfl))
      · exact key _ e3 (.inr (.inr rfl))
    obtain ⟨m, hn, hl⟩ := I.loc
    have hvis : Vis X.env.scope y := (ok.free _ (PySem.mem_of_lookup hfr.1) rfl).elim (fun k => .inr (.inl k)) (fun k => .inr (.inr k))
    obtain ⟨w, r, q⟩ := hl i y av e1 e2 hvis
    refine ⟨w, r, .inr ⟨hfr.2, ?_⟩⟩
    obtain ⟨c, h1, h2⟩ := look hfr.1
    rcases q with ⟨k, _⟩ | ⟨_, c', e', z⟩
    · have k : X.env.scope.names.lookup y = some .local := k
      rcases ok.free _ (PySem.mem_of_lookup hfr.1) rfl with k' | k' <;> rw [show X.env.scope.names.lookup y = _ from k'] at k <;> cases k
    · rw [h2] at e'; cases e'
      exact ⟨c, h1, z.keeps kp⟩
  · have e : cenv.cells.lookup y = some c := e
    rcases mem e with ⟨h1, _⟩ | ⟨_, z⟩
    · obtain ⟨w, z⟩ := I.cell y c h1
      exact ⟨w, z.keeps kp⟩
    · exact ⟨_, z⟩
  · show H cenv.locals = none
    rw [hL]; exact I.hok.fresh (Nat.le_refl _)
  · have e : cenv.cells.lookup y = some c := e
    rcases mem e with ⟨h1, _⟩ | ⟨h1, _⟩
    · exact I.freeC y c h1
    · exact I.hok.fresh (Nat.le_of_succ_le h1)
  · exact absurd (show p ∈ ([] : List (Addr × Obj)) ++ [] from hp) (by simp)
theorem app_ok {E : Value → Shared → Prop} {D : Addr} {xs : List V} {y : V} {v : Value} {Q : Value → Shared → Prop} (I : Inv X pins σ H s) (hD : H D = some (.lst xs)) (hz : xs.length < sizeLine) (r : RelV y v)
    (h : ∀ s', Inv X pins σ (upd H D (.lst (xs ++ [y]))) s' → Q .none s') : wpAny (model X.prog X.w) X.A (call (.builtin "list.append") [.ref D, v]) Q E s := by
  obtain ⟨hz', its, n, ri, e⟩ := I.hok D _ hD
  have hl := ri.length
  refine append_at (hsz := by rw [List.size_toArray]; omega) e fun h' sb ho' => ?_
  refine h { s with heap := h' } (I.write (t' := s.toks) (by rw [hD]; trivial) (.inl rfl) (fun b u hb q => (sb.2 b hb).trans q) ⟨_, ho'⟩ ⟨by rw [List.length_append]; exact hz, its ++ [v], n + 1, ri.append (.cons r .nil), ?_⟩)
  rw [ho']
  simp
def PTs (X : Cx) (ifs : List Expr) (t : TT) : Prop :=
  ∀ (pins : List (Addr × Obj)) (s : Shared) (σ : St) (H : Hp) (Q : Bool → Hp → Prop), Inv X pins σ H s → t σ H Q →
    wpAny (model X.prog X.w) X.A (forIn ifs true fun c r => if r = true then do let ok ← isTrue c X.env (eval c X.env); pure (ForInStep.yield ok) else pure (ForInStep.yield r)) (TP X pins σ Q) X.xe s
def tYes : TT := fun _ H Q => Q true H
theorem pts_nil : PTs X [] tYes := fun _ _ _ H _ I h => wpAny_tests_nil ⟨H, I, h⟩
theorem pts_one {c : Expr} {t : TT} (h : PT X c t) : PTs X [c] t := fun pins s σ H Q I hw => wpAny_tests_one (h pins s σ H Q I hw)
end
theorem thnF {α : Type} {t : Sem α} {Q Q' : α → Shared → Prop} {M : Model} {A : Around} {E : Value → Shared → Prop} {s : Shared} (h : wpAny M A t Q (fun _ _ => False) s) (hQ : ∀ a s, Q a s → Q' a s) : wpAny M A t Q' E s := wpAny_mono h hQ fun _ _ z => False.elim z
theorem compLoop_any {prog : Program} {w : World} {A : Around} {R : Result → Shared → Prop} {s : Shared} {elt target iter : Expr} {ifs : List Expr} {scope : Scope} {pos : Pos} {it acc : Value} {env : Env} (I : Nat → Shared → Prop)
    (turn : ∀ n s, I n s → wpAny (model prog w) A (pyNext it) (fun r s₁ => match r with
      | none => R (.ok .next) s₁
      | some v => wpAny (model prog w) A (letOwnedTupleGo target it v) (fun _ s₁' => wpAny (model prog w) A (assign target env v) (fun _ s₂ =>
          wpAny (model prog w) A (forIn ifs true fun c r => if r = true then do let ok ← isTrue c env (eval c env); pure (ForInStep.yield ok) else pure (ForInStep.yield r)) (fun ok s₃ =>
            if ok = true then wpAny (model prog w) A (eval elt env) (fun x s₄ =>
              wpAny (model prog w) A (call (.builtin "list.append") [acc, x]) (fun _ s₅ => ∃ m, m < n ∧ I m s₅) (notedBy (model prog w) A env fun e s' => R (.error e) s') s₄) (notedBy (model prog w) A env fun e s' => R (.error e) s') s₃
            else ∃ m, m < n ∧ I m s₃) (notedBy (model prog w) A env fun e s' => R (.error e) s') s₂) (notedBy (model prog w) A env fun e s' => R (.error e) s') s₁') (notedBy (model prog w) A env fun e s' => R (.error e) s') s₁) (notedBy (model prog w) A env fun e s' => R (.error e) s') s)
    (n : Nat) (h : I n s) :
    codeAny (model prog w) A (.compLoop (.ListComp elt [⟨target, iter, ifs, 0⟩] scope pos) 0 it acc env) R s := by
  refine codeAny_loop rfl I (fun n s hI => ?_) n h
  show wpAny _ A ((compTurn (.ListComp elt [⟨target, iter, ifs, 0⟩] scope pos) 0 it acc env).onRaise (fun x => do noteFrame x env; theTreesLotGoes x)) _ _ s
  refine wpAny_noted ?_
  rw [compTurn_list]
  refine wpAny_bind (wpAny_standAt (wpAny_bind (wpAny_mono (turn n s hI) (fun r s₁ h₁ => ?_) fun _ _ h' => h')))
  cases r with
  | none => exact wpAny_pure h₁
  | some v =>
    refine wpAny_bind (wpAny_mono h₁ (fun _ s₁' h₁' => ?_) fun _ _ h' => h')
    refine wpAny_bind (wpAny_mono h₁' (fun _ s₂ h₂ => wpAny_bind (wpAny_mono h₂ (fun ok s₃ h₃ => ?_) fun _ _ h' => h')) fun _ _ h' => h')
    cases ok with
    | false => exact wpAny_pure ⟨rfl, h₃⟩
    | true =>
      exact wpAny_bind (wpAny_bind (wpAny_mono h₃ (fun x s₄ h₄ => wpAny_bind (wpAny_mono h₄ (fun _ s₅ h₅ => wpAny_pure (wpAny_pure ⟨rfl, h₅⟩)) fun _ _ h' => h')) fun _ _ h' => h'))
section
variable {X : Cx}
def tLc (wi : TI) (g : TG) (tt : TT) (te : TE) (vs : List Nat) : TE := fun σ H Q => wi σ H fun J H1 => ∀ D, H1 D = none → ∃ W : Nat → Nat → Hp → Prop, (∃ m, W 0 m (upd H1 D (.lst []))) ∧ ∀ i m H, W i m H →
  (J.stop i H ∧ Q (.ref D) H) ∨ (J.go i H ∧ ∃ Nx : Hp → Prop, (∀ H', Nx H' → ∃ m', m' < m ∧ W (i + 1) m' H') ∧ ∀ x H', J.yld i H x H' → g x (wipe σ vs) H' fun σ2 H2 => wipe σ2 vs = wipe σ vs ∧ tt σ2 H2 fun b H3 =>
    if b = true then te σ2 H3 fun y H4 => ∃ acc, H4 D = some (.lst acc) ∧ acc.length < sizeLine ∧ Nx (upd H4 D (.lst (acc ++ [y]))) else Nx H3)
theorem lc_core {pins : List (Addr × Obj)} {s : Shared} {σ : St} {H : Hp} {Q : VK} {elt tg iter : Expr} {ifs : List Expr} {scope : Scope} {own : List (Str × Nat)} {pos pos' : Pos} {wi : TI} {g : TG} {tt : TT} {te : TE} {use : Option (Value → Sem Unit)} {Qf : Value → Shared → Prop}
    (hc : X.calm = true) (hN : X.N.Nodup) (I : Inv X pins σ H s) (hi : PI X tg iter wi) (ok : BlkOk X.N X.env.scope scope own)
    (hg : ∀ (s : Shared) (H : Hp) (C : Addr) (cl : List (Str × Addr)) (fp : List Addr), PG (X.blk s H scope (compEnvC scope cl C X.env) fp) tg g) (ht : ∀ (s : Shared) (H : Hp) (C : Addr) (cl : List (Str × Addr)) (fp : List Addr), PTs (X.blk s H scope (compEnvC scope cl C X.env) fp) ifs tt)
    (he : ∀ (s : Shared) (H : Hp) (C : Addr) (cl : List (Str × Addr)) (fp : List Addr), PE (X.blk s H scope (compEnvC scope cl C X.env) fp) elt te) (hs : ∀ x, foldedSetIterable iter X.env x = pure x)
    (h : tLc wi g tt te (own.map (·.2)) σ H Q)
    (hRR : ∀ D C s' m H', Inv X pins σ H' s' → Q (.ref D) H' → s'.heap.Ns C m → FpOk X pins H' C → compPost (model X.prog X.w) X.A X.xe use Qf (.ref D) C (.ok .next) s') :
    wpAny (model X.prog X.w) X.A (comprehension (.ListComp elt [⟨tg, iter, ifs, 0⟩] scope pos) scope X.env pos' (newList []) false (eval iter X.env) use) Qf X.xe s := by
  have hfree : ∀ y ∈ scope.names, y.2 = .free → ∃ c, X.env.cells.lookup y.1 = some c := fun y hy e => by
    rcases ok.free y hy e with k | k
    · exact I.ok.has _ (.inl k)
    · exact I.ok.has _ (.inr k)
  refine wpAny_comprehension_free (use := use) rfl hs (closure_ok hfree) ok.kind (fun y hy e => by rw [ok.uniq y hy, e])
    (thn (hi pins s σ H _ I h) fun xv s1 hx => thn hx fun itv s2 h2 => ?_)
  obtain ⟨it, fp, tn, J, H2, e, I2, T, st2, f2, q⟩ := h2
  subst e
  refine wpAny_newObj_type (newEnv_comp ?_) (by show 0 ≤ sizeLine; decide)
  generalize hD : s2.heap.objs.size = D
  have hDn : H2 D = none := I2.hok.fresh (Nat.le_of_eq hD)
  obtain ⟨W, ⟨m0, w0⟩, turn⟩ := q D hDn
  generalize hs3 : ({ s2 with heap := s2.heap.push { cls := .type "list", data := .seq ([] : List Value).toArray } } : Shared) = s3
  have I3 : Inv X pins σ (upd H2 D (.lst [])) s3 := by
    rw [← hs3]
    refine I2.laid (t' := s2.toks) (fun b o e => Heap.get?_push_of_some _ e) (Nat.le_of_eq hD) ⟨Nat.zero_le _, [], 0, .nil, ?_⟩
    rw [← hD]
    exact Heap.get?_push_size _ rfl
  have h3 : s3.heap = s2.heap.push { cls := .type "list", data := .seq ([] : List Value).toArray } := by rw [← hs3]
  have sz : ∀ b ∈ fp, b < s2.heap.objs.size := fun b hb => by
    obtain ⟨o, e, _⟩ := T.obj _ _ st2 b hb
    exact Heap.lt_size e
  have f3 : ∀ b ∈ fp, FpOk X pins (upd H2 D (.lst [])) b ∧ b < s3.heap.objs.size := fun b hb => by
    have hlt := sz b hb
    refine ⟨⟨?_, (f2 b hb).2⟩, by rw [h3, Heap.size_push]; exact Nat.lt_succ_of_lt hlt⟩
    rw [upd_ne (by rw [← hD]; exact Nat.ne_of_lt hlt)]
    exact (f2 b hb).1
  have st3 : tn 0 s3.heap := T.keep _ _ _ st2 fun b _ o e => by rw [h3]; exact Heap.get?_push_of_some _ e
  have I4 := block_start I3 ok hN f3
  have pg := hg s3 (upd H2 D (.lst [])) s3.heap.objs.size (cellsFrom (s3.heap.objs.size + 1) scope.names (cloFrom X.env.cells scope.names [])) fp
  have pt := ht s3 (upd H2 D (.lst [])) s3.heap.objs.size (cellsFrom (s3.heap.objs.size + 1) scope.names (cloFrom X.env.cells scope.names [])) fp
  have pe := he s3 (upd H2 D (.lst [])) s3.heap.objs.size (cellsFrom (s3.heap.objs.size + 1) scope.names (cloFrom X.env.cells scope.names [])) fp
  show codeAny _ _ (.compStart (.ListComp elt [⟨tg, iter, ifs, 0⟩] scope pos) 0 (.ref it) (.ref D) (compEnvC scope (cellsFrom (s3.heap.objs.size + 1) scope.names (cloFrom X.env.cells scope.names [])) s3.heap.objs.size X.env)) (compPost (model X.prog X.w) X.A X.xe use Qf (.ref D) s3.heap.objs.size) { s3 with heap := pushCells (s3.heap.push { cls := .type "dict", data := .dict #[] }) scope.names }
  have nfp : ∀ b ∈ fp, (upd H2 D (.lst [])) b = none := fun b hb => (f3 b hb).1.1
  generalize hce : compEnvC scope (cellsFrom (s3.heap.objs.size + 1) scope.names (cloFrom X.env.cells scope.names [])) s3.heap.objs.size X.env = ce at I4 pg pt pe ⊢
  have cL : ce.locals = s3.heap.objs.size := by subst hce; rfl
  generalize hH3 : upd H2 D (.lst []) = H3 at I3 I4 pg pt pe w0 nfp f3
  generalize hs4 : ({ s3 with heap := pushCells (s3.heap.push { cls := .type "dict", data := .dict #[] }) scope.names } : Shared) = s4 at I4 ⊢
  have st4 : tn 0 s4.heap := T.keep _ _ _ st3 fun b _ o e => by rw [← hs4]; exact pushCells_keeps _ _ _ _ (Heap.get?_push_of_some _ e)
  have stat : ∀ {σ' : St} {H' : Hp} {s' : Shared}, Inv (X.blk s3 H3 scope ce fp) [] σ' H' s' → (∀ b ∈ fp, H' b = none) → ∀ b ∈ fp, FpOk (X.blk s3 H3 scope ce fp) [] H' b := fun {σ' H' s'} I' hn b hb =>
    ⟨hn b hb, (I'.ok.exf b hb).1, I'.ok.exfs b hb, .inl hb, fun x c e => (I'.ok.exf b hb).2 x c e, fun p hp => absurd (show p ∈ ([] : List (Addr × Obj)) ++ [] from hp) (by simp)⟩
  have loop : codeAny (model X.prog X.w) X.A (.compLoop (.ListComp elt [⟨tg, iter, ifs, 0⟩] scope pos) 0 (.ref it) (.ref D) ce) (compPost (model X.prog X.w) X.A X.xe use Qf (.ref D) s3.heap.objs.size) s4 := by
    refine compLoop_any (fun n s' => ∃ i H', Inv (X.blk s3 H3 scope ce fp) [] (wipe σ (own.map (·.2))) H' s' ∧ tn i s'.heap ∧ (∀ b ∈ fp, H' b = none) ∧ W i n H') ?_ m0 ⟨0, H3, I4, st4, nfp, w0⟩
    rintro n s5 ⟨i, H5, I5, st5, n5, w5⟩
    rcases turn i n H5 w5 with ⟨stop, qq⟩ | ⟨go, Nx, hNx, step⟩
    · have td := T.done (X.blk s3 H3 scope ce fp) rfl rfl rfl hc i [] s5 _ H5 (fun _ _ => False) I5 (stat I5 n5) st5 stop
      refine thnF td fun r s6 ⟨hr, I6⟩ => ?_
      subst hr
      have I7 : Inv X pins σ H5 s6 := I3.call' (ch := fp) I6.os I6.base I6.hok I6.bare fun b hb => ⟨(f3 b hb).1.2.2.2.1, (f3 b hb).1.2.1, (f3 b hb).1.2.2.2.2.1, (f3 b hb).1.2.2.2.2.2⟩
      have nC : H5 s3.heap.objs.size = none := by
        have z : H5 ce.locals = none := I6.free
        rw [cL] at z
        exact z
      obtain ⟨m, hn, _⟩ := I6.loc
      have hn : s6.heap.Ns ce.locals m := hn
      rw [cL] at hn
      exact hRR D s3.heap.objs.size s6 m H5 I7 qq hn (I3.fpOk (Nat.le_refl _) nC)
    · have ti := T.item (X.blk s3 H3 scope ce fp) rfl rfl rfl hc i [] s5 _ H5 (fun _ _ => False) I5 (stat I5 n5) st5 go
      refine thnF ti fun r s6 ⟨u, hr, h6⟩ => ?_
      subst hr
      refine thnF h6 fun _ s7 ⟨x, H7, I7, r7, y7, st7, n7⟩ => ?_
      have I7' := I7.pinned (stat I7 n7) (T.obj _ _ st7)
      refine thnF (pg _ s7 _ H7 x u _ I7' r7 (step x H7 y7)) fun _ s8 ⟨σ8, H8, I8, hw8, q8⟩ => ?_
      refine thnF (pt _ s8 σ8 H8 _ I8 q8) fun b s9 ⟨H9, I9, q9⟩ => ?_
      have fin : ∀ {s' : Shared} {H' : Hp}, Inv (X.blk s3 H3 scope ce fp) ([] ++ pinsAt fp s7.heap) σ8 H' s' → Nx H' → ∃ m, m < n ∧ ∃ i H', Inv (X.blk s3 H3 scope ce fp) [] (wipe σ (own.map (·.2))) H' s' ∧ tn i s'.heap ∧ (∀ b ∈ fp, H' b = none) ∧ W i m H' := fun {s' H'} I' nx => by
        obtain ⟨m', hm, w'⟩ := hNx H' nx
        have pin' : ∀ b ∈ fp, ∀ o, s7.heap.get? b = some o → s'.heap.get? b = some o ∧ H' b = none := fun b hb o e =>
          let z := I'.pin (b, o) (List.mem_append_right _ (List.mem_append_right _ (mem_pinsAt hb e)))
          ⟨z.1, z.2.1⟩
        have hl : (wipe σ (own.map (·.2))).length = σ8.length := by rw [← hw8, wipe_length]
        refine ⟨m', hm, i + 1, H', (I'.unpinned (pins := [])).weak hl (fun j v e => ?_), T.keep _ _ _ st7 fun b hb o e => (pin' b hb o e).1, fun b hb => ?_, w'⟩
        · rw [← hw8] at e
          exact (wipe_some e).1
        · obtain ⟨o, e, _⟩ := T.obj _ _ st7 b hb
          exact (pin' b hb o e).2
      cases b with
      | false =>
        simp only [Bool.false_eq_true, if_false] at q9 ⊢
        exact fin I9 q9
      | true =>
        simp only [if_true] at q9 ⊢
        refine thnF (pe _ s9 σ8 H9 _ I9 q9) fun z s10 ⟨yv, H10, I10, r10, acc, hD10, hz10, nx⟩ => ?_
        exact app_ok (X := X.blk s3 H3 scope ce fp) I10 hD10 hz10 r10 fun s11 I11 => fin I11 nx
  exact codeAny_compStart_list loop (T.self X.A 0 _ _ _ st4 loop)
theorem pe_lc {elt tg iter : Expr} {ifs : List Expr} {scope : Scope} {own : List (Str × Nat)} {pos : Pos} {wi : TI} {g : TG} {tt : TT} {te : TE} (hc : X.calm = true) (hN : X.N.Nodup) (hi : PI X tg iter wi) (ok : BlkOk X.N X.env.scope scope own)
    (hg : ∀ (s : Shared) (H : Hp) (C : Addr) (cl : List (Str × Addr)) (fp : List Addr), PG (X.blk s H scope (compEnvC scope cl C X.env) fp) tg g) (ht : ∀ (s : Shared) (H : Hp) (C : Addr) (cl : List (Str × Addr)) (fp : List Addr), PTs (X.blk s H scope (compEnvC scope cl C X.env) fp) ifs tt)
    (he : ∀ (s : Shared) (H : Hp) (C : Addr) (cl : List (Str × Addr)) (fp : List Addr), PE (X.blk s H scope (compEnvC scope cl C X.env) fp) elt te) (hs : ∀ x, foldedSetIterable iter X.env x = pure x := by intro _; rfl) :
    PE X (.ListComp elt [⟨tg, iter, ifs, 0⟩] scope pos) (tLc wi g tt te (own.map (·.2))) := by
  intro pins s σ H Q I h
  rw [eval_ListComp]
  refine lc_core hc hN I hi ok hg ht he hs h fun D C s' m H' I' q hn f => ⟨m, hn, fun h'' sb => ?_⟩
  obtain ⟨f0, f1, f2, f3, f4, f5⟩ := f
  exact ⟨.ref D, H', I'.turned (t' := s'.toks) (fun b o hb e => (sb.2 b hb).trans e) f0 f1 f3 f4 f5, rfl, q⟩
theorem ps_setLc {i : Nat} {y : Str} {py : Pos} {elt tg iter : Expr} {ifs : List Expr} {scope : Scope} {own : List (Str × Nat)} {pos spos : Pos} {wi : TI} {g : TG} {tt : TT} {te : TE} (hc : X.calm = true) (hN : X.N.Nodup) (hy : X.N[i]? = some y) (hyl : X.env.scope.names.lookup y = some .local)
    (hsw : swapsWith (.ListComp elt [⟨tg, iter, ifs, 0⟩] scope pos) (some (.Name y py)) spos.line X.env = pure true) (hi : PI X tg iter wi) (ok : BlkOk X.N X.env.scope scope own)
    (hg : ∀ (s : Shared) (H : Hp) (C : Addr) (cl : List (Str × Addr)) (fp : List Addr), PG (X.blk s H scope (compEnvC scope cl C X.env) fp) tg g) (ht : ∀ (s : Shared) (H : Hp) (C : Addr) (cl : List (Str × Addr)) (fp : List Addr), PTs (X.blk s H scope (compEnvC scope cl C X.env) fp) ifs tt)
    (he : ∀ (s : Shared) (H : Hp) (C : Addr) (cl : List (Str × Addr)) (fp : List Addr), PE (X.blk s H scope (compEnvC scope cl C X.env) fp) elt te) (hs : ∀ x, foldedSetIterable iter X.env x = pure x := by intro _; rfl) :
    PS X (.Assign [.Name y py] (.ListComp elt [⟨tg, iter, ifs, 0⟩] scope pos) spos) (tAsg (tLc wi g tt te (own.map (·.2))) (gName i)) := by
  intro pins s σ H D I h
  rw [exec_Assign_Name_used _ _ _ _ hsw]
  refine wpAny_bind (wpAny_standAt (wpAny_bind ?_))
  show wpAny _ X.A (do let _ ← comprehension (.ListComp elt [⟨tg, iter, ifs, 0⟩] scope pos) scope X.env (firstIterPos [⟨tg, iter, ifs, 0⟩] pos) (newList []) false (eval iter X.env) (some (assign (.Name y py) X.env))) _ _ s
  have h : tLc wi g tt te (own.map (·.2)) σ H (fun x H1 => gName i x σ H1 D.nx) := h
  refine wpAny_bind (thn (lc_core (Qf := fun _ s' => SP X pins D .next s') hc hN I hi ok hg ht he hs h fun L C s' m H' I' q hn f => ?_) fun _ s' hq => wpAny_pure (wpAny_pure hq))
  show wpAny _ _ (assign (.Name y py) X.env (.ref L)) _ _ _
  refine wpAny_assign_Name (store_ok2 (v := V.ref L) I' hN hy (.inl hyl) rfl (fun s2 I2 ⟨a, sb, ha⟩ => ?_) (.inr hyl))
  obtain ⟨f0, f1, f2, f3, f4, f5⟩ := f
  have haC : C ≠ a := by
    rcases ha with z | z
    · rw [z]; exact f1
    · exact fun e => f4 y a z e.symm
  refine ⟨m, hn.sameBut sb haC, fun h3 sb3 => ?_⟩
  exact ⟨_, H', I2.turned (t' := s2.toks) (fun b o hb e => (sb3.2 b hb).trans e) f0 f1 f3 f4 f5, q⟩
theorem sw_true {elt : Expr} {gs : List Comprehension} {scope : Scope} {pos py : Pos} {y : Str} {l : Nat} {env : Env} (hk : env.scope.kind = .function) (hy : env.scope.names.lookup y = some .local) (hl : (py.line == pos.line) = true)
    (ha : (scope.names.any fun (n, k) => n == y && (k == .local || k == .cell)) = false) : swapsWith (.ListComp elt gs scope pos) (some (.Name y py)) l env = pure true := by
  have ky : env.kindOf y = some .local := hy
  have hb : env.blockKind = .function := by unfold Env.blockKind; rw [hk]; rfl
  unfold swapsWith
  simp only [hb, ky, ha, Expr.pos, hl]
  rfl
end
theorem lc_list {K : PySem.W.Frag} {a : Addr} {xs : List V} {g : TG} {tt : TT} {te : TE} {vs : List Nat} {σ : St} {H1 : Hp} {D : Addr} {Qd : Hp → Prop} (Pv : Nat → Hp → Prop) (h0 : Pv 0 (upd H1 D (.lst []))) (hl : ∀ i H, i ≤ xs.length → Pv i H → SqL K H a xs)
    (hs : ∀ i x H, xs[i]? = some x → Pv i H → g x (wipe σ vs) H fun σ2 H2 => wipe σ2 vs = wipe σ vs ∧ tt σ2 H2 fun b H3 =>
      if b = true then te σ2 H3 fun y H4 => ∃ acc, H4 D = some (.lst acc) ∧ acc.length < sizeLine ∧ Pv (i + 1) (upd H4 D (.lst (acc ++ [y]))) else Pv (i + 1) H3) (hd : ∀ H, Pv xs.length H → Qd H) :
    ∃ W : Nat → Nat → Hp → Prop, (∃ m, W 0 m (upd H1 D (.lst []))) ∧ ∀ i m H, W i m H →
      ((Itl K a).stop i H ∧ Qd H) ∨ ((Itl K a).go i H ∧ ∃ Nx : Hp → Prop, (∀ H', Nx H' → ∃ m', m' < m ∧ W (i + 1) m' H') ∧ ∀ x H', (Itl K a).yld i H x H' → g x (wipe σ vs) H' fun σ2 H2 => wipe σ2 vs = wipe σ vs ∧ tt σ2 H2 fun b H3 =>
        if b = true then te σ2 H3 fun y H4 => ∃ acc, H4 D = some (.lst acc) ∧ acc.length < sizeLine ∧ Nx (upd H4 D (.lst (acc ++ [y]))) else Nx H3) := by
  refine ⟨fun i m H => m = xs.length - i ∧ i ≤ xs.length ∧ Pv i H, ⟨xs.length, by simp, Nat.zero_le _, h0⟩, ?_⟩
  rintro i m H ⟨rfl, hi, p⟩
  have q := hl i H hi p
  by_cases hlt : i < xs.length
  · refine .inr ⟨⟨xs, xs[i], q, by simp [hlt]⟩, Pv (i + 1), fun H' p' => ⟨xs.length - (i + 1), by omega, rfl, hlt, p'⟩, fun x H' y => ?_⟩
    obtain ⟨e, y⟩ := y
    subst e
    exact hs i x _ (y xs q) p
  · have e : i = xs.length := by omega
    subst e
    exact .inl ⟨⟨xs, q, Nat.le_refl _⟩, hd H p⟩
theorem lc_tup {K : PySem.W.Frag} {a : Addr} {xs : List V} {g : TG} {tt : TT} {te : TE} {vs : List Nat} {σ : St} {H1 : Hp} {D : Addr} {Qd : Hp → Prop} (Pv : Nat → Hp → Prop) (h0 : Pv 0 (upd H1 D (.lst []))) (hl : ∀ i H, i ≤ xs.length → Pv i H → SqT K H a xs)
    (hs : ∀ i x H, xs[i]? = some x → Pv i H → g x (wipe σ vs) H fun σ2 H2 => wipe σ2 vs = wipe σ vs ∧ tt σ2 H2 fun b H3 =>
      if b = true then te σ2 H3 fun y H4 => ∃ acc, H4 D = some (.lst acc) ∧ acc.length < sizeLine ∧ Pv (i + 1) (upd H4 D (.lst (acc ++ [y]))) else Pv (i + 1) H3) (hd : ∀ H, Pv xs.length H → Qd H) :
    ∃ W : Nat → Nat → Hp → Prop, (∃ m, W 0 m (upd H1 D (.lst []))) ∧ ∀ i m H, W i m H →
      ((Itt K a).stop i H ∧ Qd H) ∨ ((Itt K a).go i H ∧ ∃ Nx : Hp → Prop, (∀ H', Nx H' → ∃ m', m' < m ∧ W (i + 1) m' H') ∧ ∀ x H', (Itt K a).yld i H x H' → g x (wipe σ vs) H' fun σ2 H2 => wipe σ2 vs = wipe σ vs ∧ tt σ2 H2 fun b H3 =>
        if b = true then te σ2 H3 fun y H4 => ∃ acc, H4 D = some (.lst acc) ∧ acc.length < sizeLine ∧ Nx (upd H4 D (.lst (acc ++ [y]))) else Nx H3) := by
  refine ⟨fun i m H => m = xs.length - i ∧ i ≤ xs.length ∧ Pv i H, ⟨xs.length, by simp, Nat.zero_le _, h0⟩, ?_⟩
  rintro i m H ⟨rfl, hi, p⟩
  have q := hl i H hi p
  by_cases hlt : i < xs.length
  · refine .inr ⟨⟨xs, xs[i], q, by simp [hlt]⟩, Pv (i + 1), fun H' p' => ⟨xs.length - (i + 1), by omega, rfl, hlt, p'⟩, fun x H' y => ?_⟩
    obtain ⟨e, y⟩ := y
    subst e
    exact hs i x _ (y xs q) p
  · have e : i = xs.length := by omega
    subst e
    exact .inl ⟨⟨xs, q, Nat.le_refl _⟩, hd H p⟩
def blkC (N : List Str) (sc scope : Scope) (own : List (Str × Nat)) : Bool :=
  (match scope.kind with | .function => true | _ => false) && (scope.names.all fun y => decide (scope.names.lookup y.1 = some y.2)) && (own.all fun p => decide (N[p.2]? = some p.1)) &&
    (scope.names.all fun y => match y.2 with
      | .free => (match sc.names.lookup y.1 with | some .cell => true | some .free => true | _ => false)
      | .local => decide (y.1 ∈ own.map (·.1)) || decide (y.1 ∉ N)
      | .cell => decide (y.1 ∈ own.map (·.1)) || decide (y.1 ∉ N)
      | _ => true)
theorem blkOk_by {N : List Str} {sc scope : Scope} {own : List (Str × Nat)} (h : blkC N sc scope own = true) : BlkOk N sc scope own := by
  unfold blkC at h
  simp only [Bool.and_eq_true, List.all_eq_true, decide_eq_true_eq] at h
  obtain ⟨⟨⟨h1, h2⟩, h3⟩, h4⟩ := h
  refine ⟨?_, h2, h3, fun y hy e => ?_, fun y hy e => ?_⟩
  · split at h1
    · assumption
    · cases h1
  · have q := h4 y hy
    simp only [e] at q
    split at q <;> first | exact .inl (by assumption) | exact .inr (by assumption) | cases q
  · have q := h4 y hy
    rcases e with e | e <;> (simp only [e, Bool.or_eq_true, decide_eq_true_eq] at q; exact q)
end L2
namespace L2
open PySem PySem.Spec PyProof.Rows
section
variable {prog : Program} {w : World} {A : Around} {R : Result → Shared → Prop} {s : Shared} {elt t0 i0 t1 i1 : Expr} {ifs0 ifs1 : List Expr} {scope : Scope} {pos : Pos} {it acc : Value} {env : Env}
end
section
variable {X : Cx}
end
end L2
namespace L2
open PySem PySem.Spec PyProof.Rows
section
variable {κ : Type} [DecidableEq κ]
def valV (kvs : List (κ × V)) (k : κ) : Option V := (kvs.find? fun kv => decide (kv.1 = k)).map (·.2)
def putK (kvs : List (κ × V)) (k : κ) (v : V) : List (κ × V) :=
  if (kvs.any fun kv => decide (kv.1 = k)) = true then kvs.map (fun kv => if kv.1 = k then (kv.1, v) else kv) else kvs ++ [(k, v)]
theorem valV_nil {k : κ} : valV ([] : List (κ × V)) k = none := rfl
theorem valV_pos {p : κ × V} {r : List (κ × V)} {k : κ} (e : p.1 = k) : valV (p :: r) k = some p.2 := by simp [valV, List.find?_cons, e]
theorem valV_neg {p : κ × V} {r : List (κ × V)} {k : κ} (e : ¬ p.1 = k) : valV (p :: r) k = valV r k := by simp [valV, List.find?_cons, e]
theorem valV_any (k : κ) : ∀ kvs : List (κ × V), (kvs.any fun kv => decide (kv.1 = k)) = (valV kvs k).isSome
  | [] => rfl
  | p :: r => by
    rw [List.any_cons]
    by_cases e : p.1 = k
    · simp only [valV_pos e, decide_eq_true e, Bool.true_or, Option.isSome_some]
    · rw [valV_neg e, decide_eq_false e, Bool.false_or]; exact valV_any k r
theorem valV_map (k j : κ) (y : V) : ∀ kvs : List (κ × V), valV (kvs.map fun kv => if kv.1 = k then (kv.1, y) else kv) j = (valV kvs j).map fun x => if j = k then y else x
  | [] => rfl
  | p :: r => by
    have ih := valV_map k j y r
    rw [List.map_cons]
    by_cases h : p.1 = k
    · rw [if_pos h]
      by_cases e : p.1 = j
      · rw [valV_pos (p := (p.1, y)) e, valV_pos e, Option.map_some, if_pos (e.symm.trans h)]
      · rw [valV_neg (p := (p.1, y)) e, valV_neg e, ih]
    · rw [if_neg h]
      by_cases e : p.1 = j
      · rw [valV_pos (p := p) e, valV_pos e, Option.map_some, if_neg (fun z => h (e.trans z))]
      · rw [valV_neg (p := p) e, valV_neg e, ih]
theorem valV_snoc (k j : κ) (y : V) : ∀ kvs : List (κ × V), valV kvs k = none → valV (kvs ++ [(k, y)]) j = if j = k then some y else valV kvs j
  | [], _ => by
    by_cases e : k = j
    · rw [if_pos e.symm]; exact valV_pos (p := (k, y)) e
    · rw [if_neg (fun z => e z.symm)]; exact valV_neg (p := (k, y)) e
  | p :: r, hn => by
    rw [List.cons_append]
    have hk : ¬ p.1 = k := fun z => by rw [valV_pos z] at hn; cases hn
    rw [valV_neg hk] at hn
    have ih := valV_snoc k j y r hn
    by_cases e : p.1 = j
    · rw [valV_pos e, valV_pos e, if_neg (fun z => hk (e.trans z))]
    · rw [valV_neg e, valV_neg e, ih]
theorem valV_put (kvs : List (κ × V)) (k j : κ) (y : V) : valV (putK kvs k y) j = if j = k then some y else valV kvs j := by
  unfold putK
  by_cases a : (kvs.any fun kv => decide (kv.1 = k)) = true
  · rw [if_pos a, valV_map]
    rw [valV_any] at a
    by_cases e : j = k
    · obtain ⟨x, hx⟩ := Option.isSome_iff_exists.mp a
      rw [if_pos e, e, hx, Option.map_some, if_pos rfl]
    · rw [if_neg e]
      cases valV kvs j with
      | none => rfl
      | some x => rw [Option.map_some, if_neg e]
  · rw [if_neg a]
    refine valV_snoc k j y kvs ?_
    rw [valV_any] at a
    cases q : valV kvs k with
    | none => rfl
    | some x => rw [q] at a; exact (a rfl).elim
theorem length_putK (kvs : List (κ × V)) (k : κ) (v : V) : (putK kvs k v).length ≤ kvs.length + 1 := by
  unfold putK
  split
  · rw [List.length_map]; omega
  · rw [List.length_append, List.length_cons, List.length_nil]; omega
theorem RelO.isSome_eq {o : Option V} {u : Option Value} (r : RelO o u) : o.isSome = u.isSome := by
  cases o with
  | none => cases u with
    | none => rfl
    | some _ => exact (show False from r).elim
  | some _ => cases u with
    | none => exact (show False from r).elim
    | some _ => rfl
theorem KV.val {kvs : List (κ × V)} {vs : List (κ × Value)} (r : KV kvs vs) (k : κ) : RelO (valV kvs k) (valueAt vs k) := by
  unfold KV at r
  induction r with
  | nil => exact True.intro
  | @cons p q ps qs h t ih =>
    obtain ⟨h1, h2⟩ := h
    by_cases e : p.1 = k
    · have e' : q.1 = k := h1.symm.trans e
      have b : valueAt (q :: qs) k = some q.2 := by simp [valueAt, List.find?_cons, e']
      rw [valV_pos e, b]; exact h2
    · have e' : ¬ q.1 = k := fun z => e (h1.trans z)
      have b : valueAt (q :: qs) k = valueAt qs k := by simp [valueAt, List.find?_cons, e']
      rw [valV_neg e, b]; exact ih
theorem KV.any {kvs : List (κ × V)} {vs : List (κ × Value)} (r : KV kvs vs) (k : κ) : (kvs.any fun kv => decide (kv.1 = k)) = vs.any fun kv => decide (kv.1 = k) := by
  unfold KV at r
  induction r with
  | nil => rfl
  | cons h t ih => rw [List.any_cons, List.any_cons, ih, h.1]
theorem KV.repl {kvs : List (κ × V)} {vs : List (κ × Value)} (r : KV kvs vs) (k : κ) {y : V} {u : Value} (ry : RelV y u) :
    KV (kvs.map fun kv => if kv.1 = k then (kv.1, y) else kv) (vs.map fun kv => if kv.1 = k then (kv.1, u) else kv) := by
  unfold KV at r ⊢
  induction r with
  | nil => exact .nil
  | @cons p q ps qs h t ih =>
    rw [List.map_cons, List.map_cons]
    refine .cons ?_ ih
    obtain ⟨h1, h2⟩ := h
    by_cases e : p.1 = k
    · rw [if_pos e, if_pos (h1.symm.trans e)]; exact ⟨h1, ry⟩
    · rw [if_neg e, if_neg (fun z => e (h1.trans z))]; exact ⟨h1, h2⟩
theorem KV.put {kvs : List (κ × V)} {vs : List (κ × Value)} (r : KV kvs vs) (k : κ) {y : V} {u : Value} (ry : RelV y u) : KV (putK kvs k y) (stored vs k u) := by
  unfold putK stored
  rw [r.any k]
  by_cases e : (vs.any fun kv => decide (kv.1 = k)) = true
  · rw [if_pos e, if_pos e]; exact r.repl k ry
  · rw [if_neg e, if_neg e]; exact Paired.snoc r ⟨rfl, ry⟩
theorem KV.length {kvs : List (κ × V)} {vs : List (κ × Value)} (r : KV kvs vs) : kvs.length = vs.length := Paired.length r
end
theorem kV_is {P : Program} {w : World} {k : Key} {u : Value} (r : RelV (kV k) u) : (mixKind P w).is k u = true := by
  cases k with
  | inl i => obtain ⟨t, e⟩ := (show ∃ t, u = Value.int i t from r); subst e; exact mixKind_int P w i t
  | inr x => obtain ⟨t, e⟩ := (show ∃ t, u = Value.str x t from r); subst e; exact mixKind_str P w x t
theorem items_are {P : Program} {w : World} : ∀ {ks : List Key} {us : List Value}, Vals (ks.map kV) us → ItemsAre (mixKind P w) ks us
  | [], _, r => by rw [List.map_nil] at r; cases r; exact .nil
  | k :: ks, _, r => by
    rw [List.map_cons] at r
    cases r with
    | cons h t => exact .cons (kV_is h) (items_are t)
abbrev KT (H : Hp) : List (List Key × V) → List (List Key × Addr × Value) → Prop := Paired fun p q => p.1 = q.1 ∧ H q.2.1 = some (.tup (p.1.map kV)) ∧ RelV p.2 q.2.2
theorem KT.val {H : Hp} {kvs : List (List Key × V)} {xs : List (List Key × Addr × Value)} (r : KT H kvs xs) (k : List Key) : RelO (valV kvs k) ((atKey xs k).map (·.2)) := by
  induction r with
  | nil => exact True.intro
  | @cons p q ps qs h t ih =>
    obtain ⟨h1, _, h2⟩ := h
    by_cases e : p.1 = k
    · have e' : q.1 = k := h1.symm.trans e
      have b : atKey (q :: qs) k = some q.2 := by simp [atKey, List.find?_cons, e']
      rw [valV_pos e, b]; exact h2
    · have e' : ¬ q.1 = k := fun z => e (h1.trans z)
      have b : atKey (q :: qs) k = atKey qs k := by simp [atKey, List.find?_cons, e']
      rw [valV_neg e, b]; exact ih
theorem KT.repl {H : Hp} {kvs : List (List Key × V)} {xs : List (List Key × Addr × Value)} (r : KT H kvs xs) (k : List Key) {y : V} {u : Value} (ry : RelV y u) :
    KT H (kvs.map fun kv => if kv.1 = k then (kv.1, y) else kv) (xs.map (putAt k u)) := by
  induction r with
  | nil => exact .nil
  | @cons p q ps qs h t ih =>
    rw [List.map_cons, List.map_cons]
    refine .cons ?_ ih
    obtain ⟨h1, h2, h3⟩ := h
    unfold putAt
    by_cases e : p.1 = k
    · rw [if_pos e, if_pos (h1.symm.trans e)]; exact ⟨h1, h2, ry⟩
    · rw [if_neg e, if_neg (fun z => e (h1.trans z))]; exact ⟨h1, h2, h3⟩
theorem KT.put {H : Hp} {kvs : List (List Key × V)} {xs : List (List Key × Addr × Value)} (r : KT H kvs xs) (k : List Key) {b : Addr} {y : V} {u : Value} (hb : H b = some (.tup (k.map kV))) (ry : RelV y u) :
    KT H (putK kvs k y) (storedH xs k b u) := by
  have e : (kvs.any fun kv => decide (kv.1 = k)) = (atKey xs k).isSome := by
    rw [valV_any, (r.val k).isSome_eq, Option.isSome_map]
  unfold putK storedH
  rw [e]
  by_cases q : (atKey xs k).isSome = true
  · rw [if_pos q, if_pos q]; exact r.repl k ry
  · rw [if_neg q, if_neg q]; exact Paired.snoc r ⟨rfl, hb, ry⟩
theorem KT.keeps {H H' : Hp} {kvs : List (List Key × V)} {xs : List (List Key × Addr × Value)} (r : KT H kvs xs) (ht : ∀ b ys, H b = some (.tup ys) → H' b = some (.tup ys)) : KT H' kvs xs :=
  Paired.mapP r fun _ _ z => ⟨z.1, ht _ _ z.2.1, z.2.2⟩
section
variable {P : Program} {w : World} {H : Hp} {h : Heap} {a : Addr}
theorem rd_of {u : HO} (ok : HOk P w H h) (e : Rd H a u) : ObjOk P w H h a u := e.ok ok
theorem dk_rd {kvs : List (Key × V)} (ok : HOk P w H h) (e : Rd H a (.dK kvs)) : kvs.length ≤ sizeLine ∧ (a == sysModules) = false ∧ ∃ vs, KV kvs vs ∧ h.DictOf (mixKind P w) a vs :=
  show ObjOk P w H h a (.dK kvs) from rd_of ok e
theorem dk_of {kvs : List (Key × V)} (ok : HOk P w H h) (e : H a = some (.dK kvs)) : kvs.length ≤ sizeLine ∧ (a == sysModules) = false ∧ ∃ vs, KV kvs vs ∧ h.DictOf (mixKind P w) a vs := dk_rd ok (.inl e)
theorem key_of {ks : List Key} (ok : HOk P w H h) (e : H a = some (.tup (ks.map kV))) : (tupleKind (mixKind P w)).is h ks a := by
  obtain ⟨_, its, r, o, h1, h2, n, h3⟩ := (show ObjOk P w H h a (.tup (ks.map kV)) from ok a _ e)
  exact ⟨o, its.toArray, n, h1, h2, h3, by simpa using items_are r⟩
theorem dt_rd {kvs : List (List Key × V)} (ok : HOk P w H h) (e : Rd H a (.dT kvs)) : kvs.length ≤ sizeLine ∧ (a == sysModules) = false ∧
    ∃ xs, KT H kvs xs ∧ h.DictOfH (tupleKind (mixKind P w)) a xs := by
  obtain ⟨z, y, xs, r, o, es, ep, h1, h2, h3, h4, h5⟩ := (show ObjOk P w H h a (.dT kvs) from rd_of ok e)
  refine ⟨z, y, xs, r, o, es, ep, h1, h2, h3, h4, fun x hx => ?_, h5⟩
  have all : ∀ {l : List (List Key × V)} {m : List (List Key × Addr × Value)}, KT H l m → ∀ x ∈ m, (tupleKind (mixKind P w)).is h x.1 x.2.1 := by
    intro l m q
    induction q with
    | nil => intro x hx; exact nomatch hx
    | @cons p q ps qs hq t ih =>
      intro x hx
      rcases List.mem_cons.mp hx with e | hx
      · subst e
        exact key_of ok (by rw [← hq.1]; exact hq.2.1)
      · exact ih x hx
  exact all r x hx
theorem dt_of {kvs : List (List Key × V)} (ok : HOk P w H h) (e : H a = some (.dT kvs)) : kvs.length ≤ sizeLine ∧ (a == sysModules) = false ∧
    ∃ xs, KT H kvs xs ∧ h.DictOfH (tupleKind (mixKind P w)) a xs := dt_rd ok (.inl e)
end
def DGet (H : Hp) (a : Addr) (y : V) (r : Option V) : Prop :=
  (∃ kvs k, Rd H a (.dK kvs) ∧ y = kV k ∧ r = valV kvs k) ∨ ∃ kvs k b, Rd H a (.dT kvs) ∧ y = .ref b ∧ H b = some (.tup (k.map kV)) ∧ r = valV kvs k
def DPut (H : Hp) (a : Addr) (y v : V) (H' : Hp) : Prop :=
  (∃ kvs k, H a = some (.dK kvs) ∧ y = kV k ∧ kvs.length < sizeLine ∧ H' = upd H a (.dK (putK kvs k v))) ∨
  ∃ kvs k b, H a = some (.dT kvs) ∧ y = .ref b ∧ H b = some (.tup (k.map kV)) ∧ kvs.length < sizeLine ∧ H' = upd H a (.dT (putK kvs k v))
theorem DGet.k {H : Hp} {a : Addr} {kvs : List (Key × V)} {k : Key} (e : H a = some (.dK kvs)) : DGet H a (kV k) (valV kvs k) := .inl ⟨kvs, k, .inl e, rfl, rfl⟩
theorem DGet.t {H : Hp} {a b : Addr} {kvs : List (List Key × V)} {k : List Key} (e : H a = some (.dT kvs)) (eb : H b = some (.tup (k.map kV))) : DGet H a (.ref b) (valV kvs k) := .inr ⟨kvs, k, b, .inl e, rfl, eb, rfl⟩
theorem DPut.k {H : Hp} {a : Addr} {kvs : List (Key × V)} {k : Key} {v : V} (e : H a = some (.dK kvs)) (hl : kvs.length < sizeLine) : DPut H a (kV k) v (upd H a (.dK (putK kvs k v))) := .inl ⟨kvs, k, e, rfl, hl, rfl⟩
theorem DPut.t {H : Hp} {a b : Addr} {kvs : List (List Key × V)} {k : List Key} {v : V} (e : H a = some (.dT kvs)) (eb : H b = some (.tup (k.map kV))) (hl : kvs.length < sizeLine) :
    DPut H a (.ref b) v (upd H a (.dT (putK kvs k v))) := .inr ⟨kvs, k, b, e, rfl, eb, hl, rfl⟩
section
variable {X : Cx} {pins : List (Addr × Obj)} {σ : St} {H : Hp} {s : Shared} {a : Addr} {y v : V} {u r : Value} {o : Option V} {A : Around} {E : Value → Shared → Prop}
theorem Inv.big (I : Inv X pins σ H s) : sysModules < s.heap.objs.size := by
  have h : mainGlobals < s.heap.objs.size := (I.mod.glob.keeps I.bk).lt
  exact Nat.lt_trans (by decide) h
theorem d_getItem {Q : Value → Shared → Prop} (hu : A.units + 1 < cLine) (I : Inv X pins σ H s) (g : DGet H a y (some v)) (ry : RelV y u) (h : ∀ w' s', Inv X pins σ H s' → RelV v w' → Q w' s') :
    wpAny (model X.prog X.w) A (getItem (.ref a) u) Q E s := by
  rcases g with ⟨kvs, k, e, ey, l⟩ | ⟨kvs, k, b, e, ey, eb, l⟩
  · subst ey
    obtain ⟨z, hd, vs, rel, dd⟩ := dk_rd I.hok e
    obtain ⟨w', hw, rw'⟩ := RelO.some_of (v := v) (o := valueAt vs k) (by rw [l]; exact rel.val k)
    exact wpAny_getItem_of (kV_is ry) dd.mapOf hw (h w' _ (I.tok _) rw')
  · subst ey
    cases (show u = Value.ref b from ry)
    obtain ⟨z, hd, xs, rel, dd⟩ := dt_rd I.hok e
    obtain ⟨w', hw, rw'⟩ := RelO.some_of (v := v) (o := (atKey xs k).map (·.2)) (by rw [l]; exact rel.val k)
    obtain ⟨p, hp, hp2⟩ := Option.map_eq_some_iff.mp hw
    refine wpAny_getItem_heap (tupleKind_room_in1 hu) (key_of I.hok eb) dd hp ?_
    rw [hp2]
    exact h w' _ (I.tok _) rw'
theorem d_in {Q : Value → Shared → Prop} (hu : A.units + 1 < cLine) (I : Inv X pins σ H s) (g : DGet H a y o) (ry : RelV y u) (h : ∀ s', Inv X pins σ H s' → Q (.bool o.isSome) s') :
    wpAny (model X.prog X.w) A (compareOp .In u (.ref a)) Q E s := by
  rcases g with ⟨kvs, k, e, ey, l⟩ | ⟨kvs, k, b, e, ey, eb, l⟩
  · subst ey
    obtain ⟨z, hd, vs, rel, dd⟩ := dk_rd I.hok e
    refine wpAny_in_of (kV_is ry) hd dd.mapOf ?_
    rw [← (rel.val k).isSome_eq, ← l]
    exact h _ (I.tok _)
  · subst ey
    cases (show u = Value.ref b from ry)
    obtain ⟨z, hd, xs, rel, dd⟩ := dt_rd I.hok e
    refine wpAny_in_heap (tupleKind_room_in1 hu) (key_of I.hok eb) hd dd ?_
    have q := (rel.val k).isSome_eq
    rw [Option.isSome_map] at q
    rw [← q, ← l]
    exact h _ (I.tok _)
theorem d_write {h' : Heap} {t' : Nat} {ob : HO} (I : Inv X pins σ H s) (mu : Mut (H a)) (hs : Heap.SameBut a s.heap h') (he : ∃ q, h'.get? a = some q) (new : ObjOk X.prog X.w (upd H a ob) h' a ob) :
    Inv X pins σ (upd H a ob) { s with heap := h', toks := t' } :=
  I.write (x := a) (e := a) mu (.inl rfl) (fun b q hb z => (hs.2 b hb).trans z) he new
theorem dk_new {P : Program} {w : World} {H' : Hp} {h' : Heap} {kvs : List (Key × V)} {vs : List (Key × Value)} (z : kvs.length ≤ sizeLine) (hd : (a == sysModules) = false) (rel : KV kvs vs) (dd : h'.DictOf (mixKind P w) a vs) :
    ObjOk P w H' h' a (.dK kvs) := ⟨z, hd, vs, rel, dd⟩
theorem d_setItem {H' : Hp} {Q : Unit → Shared → Prop} (hu : A.units + 1 < cLine) (I : Inv X pins σ H s) (g : DPut H a y v H') (ry : RelV y u) (rv : RelV v r) (h : ∀ s', Inv X pins σ H' s' → Q () s') :
    wpAny (model X.prog X.w) A (setItem (.ref a) u r) Q E s := by
  rcases g with ⟨kvs, k, e, ey, l, eH⟩ | ⟨kvs, k, b, e, ey, eb, l, eH⟩
  · subst ey eH
    obtain ⟨z, hd, vs, rel, dd⟩ := dk_of I.hok e
    have hz : vs.length ≤ sizeLine := by rw [← rel.length]; exact z
    have hl : (putK kvs k v).length ≤ sizeLine := by have := length_putK kvs k v; omega
    refine wpAny_setItem_pairs (hsz := hz) (kV_is ry) dd fun h' dd' hs => h _ ?_
    have he : ∃ q, h'.get? a = some q := let ⟨q, _, _, hq, _⟩ := dd'; ⟨q, hq⟩
    exact d_write I (by rw [e]; exact True.intro) hs he (dk_new hl hd (rel.put k rv) dd')
  · subst ey eH
    cases (show u = Value.ref b from ry)
    obtain ⟨z, hd, xs, rel, dd⟩ := dt_of I.hok e
    have hz : xs.length ≤ sizeLine := by rw [← Paired.length rel]; exact z
    have hl : (putK kvs k v).length ≤ sizeLine := by have := length_putK kvs k v; omega
    refine wpAny_setItem_heap (hsz := hz) (tupleKind_room_in1 hu) (key_of I.hok eb) dd fun h' dd' hs => h _ ?_
    obtain ⟨q, es, ep, hq, h2, h3, h4, _, h5⟩ := dd'
    refine d_write I (by rw [e]; exact True.intro) hs ⟨q, hq⟩ ⟨hl, hd, _, (rel.put k eb rv).keeps fun c ys ec => ?_, q, es, ep, hq, h2, h3, h4, h5⟩
    rw [upd_ne (ne_of ec e (fun z => nomatch z))]
    exact ec
end
section
variable {X : Cx} {pins : List (Addr × Obj)} {σ : St} {H : Hp} {s : Shared} {a : Addr} {kvs : List (Key × V)} {k : Key} {u : Value} {A : Around} {E : Value → Shared → Prop}
end
def NoSl (i : Expr) : Prop := ∀ ov iv, subscripted i false ov iv = operate [ov, iv] (getItem ov iv)
theorem subD_of {prog : Program} {w : World} {A : Around} {E : Value → Shared → Prop} {s : Shared} {env : Env} {value slice : Expr} {pos : Pos} {T id : String} {Q : Value → Shared → Prop}
    (hl : typeLookup (.type T) "__getitem__" = pure (some (.builtin id))) (hs : NoSl slice)
    (h : wpAny (model prog w) A (eval value env) (fun o s₁ => wpAny (model prog w) A (eval slice env) (fun i s₂ => s₂.TypeIs o T ∧ wpAny (model prog w) A (getItem o i) Q E s₂) E s₁) E s) :
    wpAny (model prog w) A (eval (.Subscript value slice pos) env) Q E s := by
  refine Subscript_ (wpAny_mono h (fun o s₁ h₁ => wpAny_mono h₁ (fun i s₂ h₂ => ?_) fun _ _ x => x) fun _ _ x => x)
  obtain ⟨hT, h₂⟩ := h₂
  unfold subscriptTail
  refine wpAny_bind ?_
  rw [getitemInPython_of_ne hT.not_modules]
  refine wpAny_bind (wpAny_specialOf hT hl ?_)
  have fin : wpAny (model prog w) A (subscripted slice false o i) (fun r s₃ => wpAny (model prog w) A (letTemporaryGo value o r >>= fun _ => pure r) Q E s₃) E s₂ := by
    rw [hs o i]
    exact wpAny_operating (wpAny_mono h₂ (fun r s₃ h₃ => wpAny_bind (wpAny_letTemporaryGo (wpAny_pure h₃))) fun _ _ x => x)
  first
    | exact wpAny_pure (wpAny_bind fin)
    | exact wpAny_bind (wpAny_pure (wpAny_bind fin))
    | exact wpAny_bind fin
theorem dict_typeIs {X : Cx} {pins : List (Addr × Obj)} {σ : St} {H : Hp} {s : Shared} {a : Addr} {y : V} {o : Option V} (I : Inv X pins σ H s) (g : DGet H a y o) : s.TypeIs (.ref a) "dict" := by
  rcases g with ⟨kvs, k, e, _, _⟩ | ⟨kvs, k, b, e, _, _, _⟩
  · obtain ⟨_, _, vs, _, dd⟩ := dk_rd I.hok e
    exact dd.typeIs
  · obtain ⟨_, _, xs, _, dd⟩ := dt_rd I.hok e
    exact dd.typeIs
def tDGet (td ty : TE) : TE := fun σ H Q => td σ H fun x H1 => ty σ H1 fun y H2 => ∃ a v, x = .ref a ∧ DGet H2 a y (some v) ∧ Q v H2
def tDIn (ty td : TE) : TE := fun σ H Q => ty σ H fun y H1 => td σ H1 fun x H2 => ∃ a o, x = .ref a ∧ DGet H2 a y o ∧ Q (.bl o.isSome) H2
def sDPut (td ty tv : TE) : TS := fun D σ H => tv σ H fun v H1 => td σ H1 fun x H2 => ty σ H2 fun y H3 => ∃ a H4, x = .ref a ∧ DPut H3 a y v H4 ∧ D.nx σ H4
def sDAug (td ty tv : TE) (rd : V → V → Hp → VK → Prop) : TS := fun D σ H => td σ H fun x H1 => ty σ H1 fun y H2 => ∃ a v, x = .ref a ∧ DGet H2 a y (some v) ∧
  tv σ H2 fun y2 H3 => rd v y2 H3 fun z H4 => ∃ H5, DPut H4 a y z H5 ∧ D.nx σ H5
section
variable {X : Cx} {o i e value : Expr} {pos pos' tpos : Pos} {td ty tv : TE}
theorem pe_dget (hu : X.A.units + 1 < cLine) (ho : PE X o td) (hi : PE X i ty) (hs : NoSl i) : PE X (.Subscript o i pos) (tDGet td ty) := by
  intro pins s σ H Q I h
  refine subD_of PySem.F.slot_dict_getitem.lookup hs (thn (ho pins s σ H _ I h) fun u s1 ⟨x, H1, I1, rx, q1⟩ => thn (hi pins s1 σ H1 _ I1 q1) fun iv s2 ⟨y, H2, I2, ry, a, v, ex, g, q2⟩ => ?_)
  subst ex
  obtain rfl : u = Value.ref a := rx
  exact ⟨dict_typeIs I2 g, d_getItem hu I2 g ry fun w' s3 I3 rw' => ⟨v, H2, I3, rw', q2⟩⟩
theorem pc_din (hu : X.A.units + 1 < cLine) (hi : PE X i ty) (ho : PE X o td) : PC X .In i o (tDIn ty td) := by
  intro pins s σ H Q I h
  refine thn (hi pins s σ H _ I h) fun iv s1 ⟨y, H1, I1, ry, q1⟩ => thn (ho pins s1 σ H1 _ I1 q1) fun u s2 ⟨x, H2, I2, rx, a, ov, ex, g, q2⟩ => ?_
  subst ex
  obtain rfl : u = Value.ref a := rx
  exact d_in hu I2 g ry fun s3 I3 => ⟨.bl ov.isSome, H2, I3, rfl, q2⟩
theorem ps_dput (hu : X.A.units + 1 < cLine) (ho : PE X o td) (hi : PE X i ty) (hv : PE X value tv) (hs : swapsWith value (some (.Subscript o i pos')) pos.line X.env = pure false) :
    PS X (.Assign [.Subscript o i pos'] value pos) (sDPut td ty tv) := by
  intro pins s σ H D I h
  refine wpAny_Assign_Subscript (thn (hv pins s σ H _ I h) fun r s1 ⟨v, H1, I1, rv, q1⟩ => thn (ho pins s1 σ H1 _ I1 q1) fun u s2 ⟨x, H2, I2, rx, q2⟩ => thn (hi pins s2 σ H2 _ I2 q2) fun iv s3 ⟨y, H3, I3, ry, a, H4, ex, g, q3⟩ => ?_) hs
  subst ex
  obtain rfl : u = Value.ref a := rx
  exact d_setItem hu I3 g ry rv fun s4 I4 => ⟨σ, H4, I4, q3⟩
theorem ps_daug {op : Operator} {rd : V → V → Hp → VK → Prop} (hu : X.A.units + 1 < cLine) (ho : PE X o td) (hi : PE X i ty) (hv : PE X value tv) (hop : InOp X op rd)
    (ha : ∀ ov iv new, augStore i ov iv new = (do holding [new, ov, iv] (setItem ov iv new); release [new, ov, iv] []; pure .next)) : PS X (.AugAssign (.Subscript o i tpos) op value pos) (sDAug td ty tv rd) := by
  intro pins s σ H D I h
  refine wpAny_AugAssign_SubscriptAny (thn (ho pins s σ H _ I h) fun u s1 ⟨x, H1, I1, rx, q1⟩ => thn (hi pins s1 σ H1 _ I1 q1) fun iv s2 ⟨y, H2, I2, ry, a, v, ex, g, q2⟩ => ?_) ha
  subst ex
  obtain rfl : u = Value.ref a := rx
  refine d_getItem hu I2 g ry fun w' s3 I3 rw' => thn (hv pins s3 σ H2 _ I3 q2) fun w2 s4 ⟨y2, H3, I4, ry2, q3⟩ => thn (hop pins s4 σ H3 v y2 w' w2 _ I4 rw' ry2 q3) fun w3 s5 ⟨z, H4, I5, rz, H5, g5, q4⟩ => ?_
  exact d_setItem hu I5 g5 ry rz fun s6 I6 => ⟨σ, H5, I6, q4⟩
end
theorem dk_empty {P : Program} {w : World} {H : Hp} (h : Heap) (hb : sysModules < h.objs.size) : ObjOk P w H (h.push { cls := .type "dict", data := .dict #[] }) h.objs.size (.dK []) :=
  ⟨Nat.zero_le _, beq_eq_false_iff_ne.mpr (Ne.symm (Nat.ne_of_lt hb)), [], .nil, Heap.DictOf.new h⟩
theorem dt_empty {P : Program} {w : World} {H : Hp} (h : Heap) (hb : sysModules < h.objs.size) : ObjOk P w H (h.push { cls := .type "dict", data := .dict #[] }) h.objs.size (.dT []) :=
  ⟨Nat.zero_le _, beq_eq_false_iff_ne.mpr (Ne.symm (Nat.ne_of_lt hb)), [], .nil, _, #[], 0, Heap.get?_push_size _ rfl, ⟨rfl, rfl, rfl⟩, rfl, rfl, List.nodup_nil⟩
def tDNewT : TE := fun _ H Q => ∀ p, H p = none → Q (.ref p) (upd H p (.dT []))
section
variable {X : Cx} {pos : Pos}
theorem pe_dnewT : PE X (.Dict [] [] pos) tDNewT := fun pins s σ H Q I h =>
  wpAny_Dict_empty ⟨.ref s.heap.objs.size, _, I.laid (a := s.heap.objs.size) (o := .dT []) (t' := s.toks) (fun _ _ q => Heap.get?_push_of_some _ q) (Nat.le_refl _) (dt_empty s.heap I.big), rfl, h _ (I.hok.fresh (Nat.le_refl _))⟩
end
def tPairs : List (TE × TE) → St → Hp → (List (V × V) → Hp → Prop) → Prop
  | [], _, H, Q => Q [] H
  | (tk, tv) :: r, σ, H, Q => tk σ H fun x H1 => tv σ H1 fun y H2 => tPairs r σ H2 fun ps H3 => Q ((x, y) :: ps) H3
abbrev VV : List (V × V) → List (Value × Value) → Prop := Paired fun p q => RelV p.1 q.1 ∧ RelV p.2 q.2
def PPs (X : Cx) (pos : Pos) (keys : List (Option Expr)) (values : List Expr) (trs : List (TE × TE)) : Prop :=
  ∀ (pins : List (Addr × Obj)) (s : Shared) (σ : St) (H : Hp) (Q : List (V × V) → Hp → Prop), Inv X pins σ H s → tPairs trs σ H Q →
    wpAny (model X.prog X.w) X.A (evalPairs (pairTrees keys values X.env pos)) (fun vs s' => ∃ ps H', Inv X pins σ H' s' ∧ VV ps vs ∧ Q ps H') X.xe s
theorem pps_nil {X : Cx} {pos : Pos} : PPs X pos [] [] [] := fun pins s σ H Q I h => pairTrees_nil_walk ⟨[], H, I, .nil, h⟩
theorem pps_cons {X : Cx} {pos : Pos} {k v : Expr} {ks : List (Option Expr)} {vs : List Expr} {tk tv : TE} {trs : List (TE × TE)} (hk : PE X k tk) (hv : PE X v tv) (hr : PPs X pos ks vs trs) :
    PPs X pos (some k :: ks) (v :: vs) ((tk, tv) :: trs) := fun pins s σ H Q I h =>
  pairTrees_cons_walk (thn (hk pins s σ H _ I h) fun u s1 ⟨x, H1, I1, rx, q1⟩ => thn (hv pins s1 σ H1 _ I1 q1) fun w2 s2 ⟨y, H2, I2, ry, q2⟩ =>
    thn (hr pins s2 σ H2 _ I2 q2) fun ws s3 ⟨ps, H3, I3, rel, q3⟩ => ⟨(x, y) :: ps, H3, I3, .cons ⟨rx, ry⟩ rel, q3⟩)
def mergeK (kvs more : List (Key × V)) : List (Key × V) := more.foldl (fun acc kv => putK acc kv.1 kv.2) kvs
theorem KV.merge : ∀ {more : List (Key × V)} {rs : List (Key × Value)} {kvs : List (Key × V)} {vs : List (Key × Value)}, KV more rs → KV kvs vs → KV (mergeK kvs more) (merged vs rs) := by
  intro more rs kvs vs r
  unfold KV at r
  induction r generalizing kvs vs with
  | nil => intro q; exact q
  | @cons p q ps qs h t ih =>
    intro r0
    have e : KV (putK kvs p.1 p.2) (stored vs q.1 q.2) := by
      have := r0.put p.1 h.2
      rw [← h.1]; exact this
    exact ih e
theorem length_mergeK : ∀ (more kvs : List (Key × V)), (mergeK kvs more).length ≤ kvs.length + more.length
  | [], kvs => by show kvs.length ≤ kvs.length + 0; omega
  | p :: r, kvs => by
    have h1 := length_mergeK r (putK kvs p.1 p.2)
    have h2 := length_putK kvs p.1 p.2
    show (mergeK (putK kvs p.1 p.2) r).length ≤ _
    rw [List.length_cons]; omega
theorem carries_of {P : Program} {w : World} : ∀ {kvs : List (Key × V)} {ws : List (Value × Value)}, VV (kvs.map fun kv => (kV kv.1, kv.2)) ws → ∃ rs, Carries (mixKind P w) ws rs ∧ KV kvs rs
  | [], _, r => by rw [List.map_nil] at r; cases r; exact ⟨[], True.intro, .nil⟩
  | p :: kvs, _, r => by
    rw [List.map_cons] at r
    cases r with
    | @cons a b as bs h t =>
      obtain ⟨rs, c, q⟩ := carries_of (P := P) (w := w) t
      obtain ⟨b1, b2⟩ := b
      exact ⟨(p.1, b2) :: rs, ⟨kV_is h.1, rfl, c⟩, .cons ⟨rfl, h.2⟩ q⟩
def tDisp (trs : List (TE × TE)) : TE := fun σ H Q => ∀ p, H p = none → tPairs trs σ (upd H p (.dK [])) fun ps H2 => H2 p = some (.dK []) ∧ ∃ kvs : List (Key × V), ps = kvs.map (fun kv => (kV kv.1, kv.2)) ∧ kvs.length ≤ 15 ∧ Q (.ref p) (upd H2 p (.dK (mergeK [] kvs)))
theorem pe_disp {X : Cx} {pos : Pos} {keys : List (Option Expr)} {values : List Expr} {trs : List (TE × TE)} (h : PPs X pos keys values trs) (hall : keys.all (·.isSome) = true) (hl : keys.length = values.length) (h0 : keys ≠ [])
    (h15 : keys.length ≤ 15) : PE X (.Dict keys values pos) (tDisp trs) := by
  intro pins s σ H Q I q
  have hn := I.hok.fresh (Nat.le_refl s.heap.objs.size)
  have I1 := I.laid (a := s.heap.objs.size) (o := .dK []) (h' := s.heap.push { cls := .type "dict", data := .dict #[] }) (t' := s.toks) (fun _ _ q => Heap.get?_push_of_some _ q) (Nat.le_refl _) (dk_empty s.heap I.big)
  refine wpAny_Dict_walk (knd := mixKind X.prog X.w) hall hl h0 h15 (thn (h pins _ σ _ _ I1 (q _ hn)) fun ws s2 ⟨ps, H2, I2, rel, e, kvs, ep, lk, q2⟩ => ?_)
  subst ep
  obtain ⟨rs, c, rk⟩ := carries_of (P := X.prog) (w := X.w) rel
  obtain ⟨z, hd, vs0, r0, dd⟩ := dk_of I2.hok e
  cases r0
  refine ⟨rs, c, dd, fun h' dd' hs => ⟨.ref s.heap.objs.size, _, ?_, rfl, q2⟩⟩
  have hz : (mergeK [] kvs).length ≤ sizeLine := by
    have h1 := length_mergeK kvs []
    rw [List.length_nil] at h1
    rw [sizeLine_eq]; omega
  have he : ∃ q, h'.get? s.heap.objs.size = some q := let ⟨q, _, _, hq, _⟩ := dd'; ⟨q, hq⟩
  exact d_write I2 (by rw [e]; exact True.intro) hs he (dk_new hz hd (rk.merge .nil) dd')
structure M1 (X : Cx) (o : Expr) (m : Str) (apos : Pos) (e : Expr) (cpos : Pos) : Prop where
  base : attributeBase o m X.env (eval o X.env) = eval o X.env
  few : ((backTo cpos (starEach [e] X.env)).all (fun x => !x.1) && (backToKw cpos (keywordEach [] X.env)).all (fun x => x.1.isSome)
    && decide (([e] : List Expr).length + ([] : List Keyword).length + (if ([] : List Keyword).isEmpty then 0 else 1) < 30)) = true
  line : (apos.endLine == cpos.line) = true
  trees : backTo cpos (starEach [e] X.env) = [(false, eval e X.env)]
structure M2 (X : Cx) (o : Expr) (m : Str) (apos : Pos) (e f : Expr) (cpos : Pos) : Prop where
  base : attributeBase o m X.env (eval o X.env) = eval o X.env
  few : ((backTo cpos (starEach [e, f] X.env)).all (fun x => !x.1) && (backToKw cpos (keywordEach [] X.env)).all (fun x => x.1.isSome)
    && decide (([e, f] : List Expr).length + ([] : List Keyword).length + (if ([] : List Keyword).isEmpty then 0 else 1) < 30)) = true
  line : (apos.endLine == cpos.line) = true
  trees : backTo cpos (starEach [e, f] X.env) = [(false, eval e X.env), (false, eval f X.env)]
section
variable {X : Cx} {pins : List (Addr × Obj)} {σ : St} {H : Hp} {s : Shared} {a : Addr} {y d : V} {u r : Value} {o : Option V} {A : Around} {E : Value → Shared → Prop}
end
section
variable {X : Cx} {o e f : Expr} {apos cpos : Pos} {td ty tx : TE}
end
section
variable {X : Cx} {pins : List (Addr × Obj)} {σ : St} {H : Hp} {s : Shared} {a : Addr} {kvs : List (Key × V)} {A : Around} {E : Value → Shared → Prop}
end
section
variable {X : Cx} {pins : List (Addr × Obj)} {σ : St} {H : Hp} {s : Shared} {a : Addr} {y : V} {u : Value} {A : Around} {E : Value → Shared → Prop}
end
end L2
namespace L2
open PySem PySem.Spec PyProof.Rows
section
variable {prog : Program} {w : World} {A : Around} {E : Value → Shared → Prop}
end
section
variable {X : Cx}
end
end L2
namespace L2
open PySem PySem.Spec PyProof.Rows
section
variable {X : Cx} {pins : List (Addr × Obj)} {σ : St} {H : Hp} {s : Shared} {h' : Heap}
theorem Inv.turnedL {t' : Nat} {ch : List Addr} (I : Inv X pins σ H s) (k : ∀ b o, b ∉ ch → s.heap.get? b = some o → h'.get? b = some o) (hf : ∀ b ∈ ch, FpOk X pins H b) : Inv X pins σ H { s with heap := h', toks := t' } := by
  have nit : ∀ b u, H b = some u → b ∉ ch := fun b u e z => by
    have q := (hf b z).1
    rw [q] at e; cases e
  refine I.step (g' := s.gens) (d' := s.drawn) (ch := ch) (fun b hb => ⟨(hf b hb).2.2.2.1, (hf b hb).2.1, (hf b hb).2.2.2.2.1, (hf b hb).2.2.2.2.2⟩) (fun b o _ _ hc e _ => k b o hc e) (fun b o _ _ hc e _ => ⟨o.slots, k b o hc e⟩)
    (fun _ _ _ _ n => n) (fun b o hc e => ⟨o, k b o hc e⟩) (fun _ _ e => e) (fun _ _ _ e => e) (fun b ps e => ⟨#[], by rw [e]; simp⟩) (fun m hm => ?_) (fun b u e => ?_) I.bare
  · obtain ⟨o, es, ep, ho, r⟩ := hm
    exact ⟨o, es, ep, k _ o (fun z => (hf _ z).2.1 rfl) ho, r⟩
  · refine (I.hok b u e).stay (fun c v hc q => k c v ?_ q) (fun _ q => q) fun _ _ q => q
    rcases hc with z | z
    · rw [z]; exact nit b u e
    · exact nit c _ z
theorem Inv.turnedNew {t' : Nat} {ch : List Addr} {T : Addr} {ob : HO} (I : Inv X pins σ H s) (k : ∀ b o, b ∉ ch → s.heap.get? b = some o → h'.get? b = some o) (hf : ∀ b ∈ ch, FpOk X pins H b) (hT : s.heap.objs.size ≤ T)
    (new : ObjOk X.prog X.w (upd H T ob) h' T ob) : Inv X pins σ (upd H T ob) { s with heap := h', toks := t' } := by
  have hn : H T = none := I.hok.fresh hT
  have nit : ∀ b u, H b = some u → b ∉ ch := fun b u e z => by
    have q := (hf b z).1
    rw [q] at e; cases e
  refine I.step (g' := s.gens) (d' := s.drawn) (ch := ch) (fun b hb => ⟨(hf b hb).2.2.2.1, (hf b hb).2.1, (hf b hb).2.2.2.2.1, (hf b hb).2.2.2.2.2⟩) (fun b o _ _ hc e _ => k b o hc e) (fun b o _ _ hc e _ => ⟨o.slots, k b o hc e⟩)
    (fun b o _ e n => ?_) (fun b o hc e => ⟨o, k b o hc e⟩) (fun b xs e => ?_) (fun b o u e => ?_) (fun b ps e => ⟨#[], ?_⟩) (fun m hm => ?_) (fun b u e => ?_) I.bare
  · rw [upd_ne (Nat.ne_of_lt (Nat.lt_of_lt_of_le (Heap.lt_size e) hT))]; exact n
  · rw [upd_ne (ne_of_none e hn)]; exact e
  · rw [upd_ne (ne_of_none e hn)]; exact e
  · rw [upd_ne (ne_of_none e hn), e]; simp
  · obtain ⟨o, es, ep, ho, r⟩ := hm
    exact ⟨o, es, ep, k _ o (fun z => (hf _ z).2.1 rfl) ho, r⟩
  · by_cases hb : b = T
    · subst hb
      rw [upd_same] at e
      cases e
      exact new
    · rw [upd_ne hb] at e
      refine (I.hok b u e).stay (fun c v hc q => k c v ?_ q) (fun c q => by rw [upd_ne (ne_of_none q hn)]; exact q) fun c xs q => by rw [upd_ne (ne_of_none q hn)]; exact q
      rcases hc with z | z
      · rw [z]; exact nit b u e
      · exact nit c _ z
theorem Inv.lock {d : Addr} {u : HO} (I : Inv X pins σ H s) (h : H d = some u) (mu : Mut (some u)) : ∃ od, Inv X pins σ (upd H d (.frz od u)) s := by
  have x := I.hok d u h
  have ex : ∃ od, s.heap.get? d = some od := by
    cases u with
    | lst xs => obtain ⟨_, _, _, _, e⟩ := x; exact ⟨_, e⟩
    | dK kvs => obtain ⟨_, _, _, _, o, _, _, e, _⟩ := x; exact ⟨o, e⟩
    | dT kvs => obtain ⟨_, _, _, _, o, _, _, e, _⟩ := x; exact ⟨o, e⟩
    | set S n => obtain ⟨o, _, _, _, e, _⟩ := x; exact ⟨o, e⟩
    | ins C dx fs => obtain ⟨_, _, _, e, _⟩ := x; exact ⟨_, e⟩
    | ext φ => obtain ⟨_, ⟨_, e⟩, _⟩ := x; exact ⟨_, e⟩
    | _ => exact False.elim mu
  obtain ⟨od, e⟩ := ex
  have new : ObjOk X.prog X.w (upd H d (.frz od u)) s.heap d (.frz od u) := by
    refine ⟨e, x.stay (fun b v _ q => q) (fun b q => ?_) fun b xs q => ?_⟩
    · rw [upd_ne (fun z => by rw [z, h] at q; cases q; exact mu)]; exact q
    · rw [upd_ne (fun z => by rw [z, h] at q; cases q; exact mu)]; exact q
  exact ⟨od, I.write (x := d) (e := d) (t' := s.toks) (h' := s.heap) (by rw [h]; exact mu) (.inl rfl) (fun b v _ q => q) ⟨od, e⟩ new⟩
theorem Inv.nofrz {d : Addr} {u : HO} (I : Inv X pins σ H s) (h : H d = some u) (mu : Mut (some u)) : ∀ o' u', X.H_0 d ≠ some (.frz o' u') := fun o' u' e => by
  have q := I.base.frzs d o' u' e
  rw [h] at q
  cases q
  exact mu
theorem Inv.unlock {d : Addr} {od : Obj} {u : HO} (I : Inv X pins σ H s) (h : H d = some (.frz od u)) (hn : ∀ o' u', X.H_0 d ≠ some (.frz o' u')) : Inv X pins σ (upd H d u) s := by
  have neH : ∀ b o, H b = some o → (∀ o' u', o ≠ .frz o' u') → b ≠ d := fun b o e hne z => by
    rw [z, h] at e
    cases e
    exact hne _ _ rfl
  have neN : ∀ b, H b = none → b ≠ d := fun b e z => by rw [z, h] at e; cases e
  refine ⟨I.ok, I.os, I.bare, ⟨I.base.keep, I.base.slot, fun b o e n hx => ?_, I.base.there, fun b xs e => ?_, fun b o x e => ?_, fun b ps e => ?_⟩, I.loc, I.cell, ?_, fun x c e => ?_, fun p hp => ?_, fun b o e => ?_, I.len⟩
  · rw [upd_ne (neN b (I.base.free b o e n hx))]; exact I.base.free b o e n hx
  · have q := I.base.tups b xs e
    rw [upd_ne (neH b _ q (fun _ _ z => nomatch z))]; exact q
  · have q := I.base.frzs b o x e
    rw [upd_ne (fun z => by rw [z] at e; exact hn _ _ e)]; exact q
  · obtain ⟨m, q⟩ := I.base.tbls b ps e
    exact ⟨m, by rw [upd_ne (neH b _ q (fun _ _ z => nomatch z))]; exact q⟩
  · rw [upd_ne (neN _ I.free)]; exact I.free
  · rw [upd_ne (neN c (I.freeC x c e))]; exact I.freeC x c e
  · obtain ⟨e, n, r⟩ := I.pin p hp
    exact ⟨e, by rw [upd_ne (neN _ n)]; exact n, r⟩
  · by_cases hb : b = d
    · rw [hb, upd_same] at e
      cases e
      rw [hb]
      obtain ⟨_, x⟩ := I.hok d _ h
      exact x.stay (fun c v _ q => q) (fun c q => by rw [upd_ne (neH c _ q (fun _ _ z => nomatch z))]; exact q) fun c xs q => by rw [upd_ne (neH c _ q (fun _ _ z => nomatch z))]; exact q
    · rw [upd_ne hb] at e
      exact (I.hok b o e).stay (fun c v _ q => q) (fun c q => by rw [upd_ne (neH c _ q (fun _ _ z => nomatch z))]; exact q) fun c xs q => by rw [upd_ne (neH c _ q (fun _ _ z => nomatch z))]; exact q
end
def tLock (t : TS) : TS := fun D σ H => ∃ d u, H d = some u ∧ Mut (some u) ∧ ∀ od, t ⟨fun σ' H' => H' d = some (.frz od u) ∧ D.nx σ' (upd H' d u), fun v H' => H' d = some (.frz od u) ∧ D.rt v (upd H' d u), fun σ' H' => H' d = some (.frz od u) ∧ D.bk σ' (upd H' d u), fun σ' H' => H' d = some (.frz od u) ∧ D.ct σ' (upd H' d u)⟩ σ (upd H d (.frz od u))
section
variable {X : Cx}
theorem ps_lock {st : Stmt} {t : TS} (h : PS X st t) : PS X st (tLock t) := by
  intro pins s σ H D I hw
  obtain ⟨d, u, hd, mu, hw⟩ := hw
  obtain ⟨od, I1⟩ := I.lock hd mu
  refine thn (h pins s σ _ _ I1 (hw od)) fun f s1 q => ?_
  cases f with
  | next => obtain ⟨σ', H', I2, e, q⟩ := q; exact ⟨σ', _, I2.unlock e (I.nofrz hd mu), q⟩
  | brk => obtain ⟨σ', H', I2, e, q⟩ := q; exact ⟨σ', _, I2.unlock e (I.nofrz hd mu), q⟩
  | cont => obtain ⟨σ', H', I2, e, q⟩ := q; exact ⟨σ', _, I2.unlock e (I.nofrz hd mu), q⟩
  | ret v => obtain ⟨x, σ', H', I2, r, e, q⟩ := q; exact ⟨x, σ', _, I2.unlock e (I.nofrz hd mu), r, q⟩
theorem pi_one {tg : Expr} {pins : List (Addr × Obj)} {σ : St} {H : Hp} {s : Shared} {R : It → Hp → Prop} {J : It} {tn : Nat → Heap → Prop} {tk : Nat} (I : Inv X pins σ H s) (o : Obj)
    (T : Turn X.prog X.w X.K tg J [s.heap.objs.size] s.heap.objs.size tn) (st : tn 0 (s.heap.push o)) (q : R J H) : PIE X pins σ tg R (.ref s.heap.objs.size) { s with heap := s.heap.push o, toks := tk } := by
  refine ⟨s.heap.objs.size, [s.heap.objs.size], tn, J, H, rfl, I.kept fun b ob e => Heap.get?_push_of_some _ e, T, st, fun b hb => ?_, q⟩
  have e : b = s.heap.objs.size := by simpa using hb
  subst e
  exact I.fpOk (Nat.le_refl _) (I.hok.fresh (Nat.le_refl _))
end
def Itc (lo c : Int) (n : Nat) : It := ⟨fun i _ => i < n, fun i H x H' => H' = H ∧ x = .int (lo + (i : Nat) * c), fun i _ => n ≤ i⟩
theorem turn_rangeC {P : Program} {w : World} {K : PySem.W.Frag} {tg : Expr} (it : Addr) (lo c : Int) (n : Nat) : Turn P w K tg (Itc lo c n) [it] it (fun i h => IsRangeIter h it (lo + (i : Nat) * c) ((n : Int) - (i : Nat)) c) where
  mem := by simp
  obj := fun i h st b hb => by
    have e : b = it := by simpa using hb
    subst e
    exact ⟨_, st, fun v z => nomatch z⟩
  keep := fun i h h' st k => k it (by simp) _ st
  item := by
    intro X hP hw hK hc i pins s σ H E I hf st hg
    subst hP hw hK
    obtain ⟨f0, f1, f2, f3, f4, f5⟩ := hf it (by simp)
    have W := Walks.range (prog := X.prog) (w := X.w) (I.ok.hd hc) it lo c n
    refine W.item i s _ _ hg st fun v h' tk hv st' kk => ?_
    obtain ⟨t, rfl⟩ := hv
    have I1 : Inv X pins σ H { s with heap := h', toks := tk } := I.turned (fun b o hb e => kk b o (by simpa using hb) e) f0 f1 f3 f4 f5
    exact ⟨_, rfl, go_of (s := { s with heap := h', toks := tk }) (n := "range_iterator") st' rfl rfl (by decide) ⟨.int (lo + (i : Nat) * c), H, I1, ⟨t, rfl⟩, ⟨rfl, rfl⟩, st', fun b hb => (hf b hb).1⟩⟩
  done := by
    intro X hP hw hK hc i pins s σ H E I hf st hg
    subst hP hw hK
    obtain ⟨f0, f1, f2, f3, f4, f5⟩ := hf it (by simp)
    exact wpAny_pyNext_range_end (I.ok.hd hc) st (by have : n ≤ i := hg; omega) fun h' eb => ⟨rfl, I.turned (t' := s.toks) (fun b o hb e => eb b o hb e) f0 f1 f3 f4 f5⟩
  self := fun A i s Q E st h => wpAny_pyIter_rangeiter st h
def RgC (i j c : Int) (n : Nat) : Prop := c ≠ 0 ∧ c.natAbs < 1073741824 ∧ Builtin.Range.small i j c = true ∧ Builtin.Range.rangeSize i j c = n
theorem RgC.neg {i j : Int} (ha : -(2 ^ 62) ≤ i) (ha' : i < 2 ^ 62) (hb : -(2 ^ 62) ≤ j) (hb' : j < 2 ^ 62) : RgC i j (-1) (i - j).toNat :=
  ⟨by decide, by decide, PySem.W.small_down ha ha' hb hb', PySem.W.rangeSize_downNat i j⟩
def iRng3 (ta : TA) : TI := fun σ H R => ta σ H fun vs H1 => ∃ (i j c : Int) (n : Nat), vs = [.int i, .int j, .int c] ∧ RgC i j c n ∧ R (Itc i c n) H1
section
variable {X : Cx} {tg : Expr}
theorem pi_range3 {a b c : Expr} {ta : TA} {p pos : Pos} (hg : Gl X "range") (hm : X.mg "range" = none) (ha : PA X [a, b, c] ta)
    (hs : starEach [a, b, c] X.env = (false, eval a X.env) :: starEach [b, c] X.env := by rfl) (hpl : (backTo pos (starEach [b, c] X.env)).any (·.1) = false := by rfl) :
    PI X tg (.Call (.Name "range" p) [a, b, c] [] pos) (iRng3 ta) := by
  intro pins s σ H R I h
  refine Call_ (ld_blt I hg hm boot_range (PyProof.Rows.callWith_type1 (thn (ha pos pins s σ H _ I h) fun us s1 ⟨vs, H1, I1, r1, q1⟩ => ?_) hs hpl))
  obtain ⟨i, j, k, n, e, ⟨c0, c1, c2, c3⟩, q⟩ := q1
  subst e
  cases r1 with
  | cons r rr =>
    cases rr with
    | cons r' rr =>
      cases rr with
      | cons r'' rr =>
        cases rr
        obtain ⟨t, rfl⟩ := r
        obtain ⟨t', rfl⟩ := r'
        obtain ⟨t'', rfl⟩ := r''
        refine call_range_3 c0 ?_ (.inl (PyProof.noPylong_small c1))
        refine wpAny_pyIter_range (IsRange.new ..) c2 ?_
        have I2 : Inv X pins σ H1 { s1 with heap := s1.heap.push { cls := .type "range", data := .fields #[.int i t, .int j t', .int k t''] } } := I1.kept (t' := s1.toks) fun b o e => Heap.get?_push_of_some _ e
        refine pi_one (tk := s1.toks) I2 _ (turn_rangeC _ i k n) ?_ q
        have e1 : i + ((0 : Nat) : Int) * k = i := by simp
        have e2 : (n : Int) - ((0 : Nat) : Int) = Builtin.Range.rangeSize i j k := by rw [c3]; simp
        show IsRangeIter _ _ (i + ((0 : Nat) : Int) * k) ((n : Int) - ((0 : Nat) : Int)) k
        rw [e1, e2]
        exact Heap.get?_push_size _ rfl
end
theorem for_rangeC {lo c : Int} {n : Nat} {g : TG} {tb : TS} {D : Ends} {σ : St} {H : Hp} (Pv : Nat → St → Hp → Prop) (h0 : Pv 0 σ H)
    (hs : ∀ i σ H, i < n → Pv i σ H → g (.int (lo + (i : Nat) * c)) σ H fun σ2 H2 => tb { D with nx := Pv (i + 1), ct := Pv (i + 1), bk := D.nx } σ2 H2) (hd : ∀ σ H, Pv n σ H → D.nx σ H) :
    ∃ W : Nat → Nat → St → Hp → Prop, (∃ m, W 0 m σ H) ∧ ∀ i m σ H, W i m σ H →
      ((Itc lo c n).stop i H ∧ D.nx σ H) ∨ ((Itc lo c n).go i H ∧ ∃ N : St → Hp → Prop, (∀ σ' H', N σ' H' → ∃ m', m' < m ∧ W (i + 1) m' σ' H') ∧ ∀ x H', (Itc lo c n).yld i H x H' → g x σ H' fun σ2 H2 => tb { D with nx := N, ct := N, bk := D.nx } σ2 H2) := by
  refine ⟨fun i m σ H => m = n - i ∧ i ≤ n ∧ Pv i σ H, ⟨n, by simp, Nat.zero_le _, h0⟩, ?_⟩
  rintro i m σ H ⟨rfl, hi, p⟩
  by_cases hlt : i < n
  · refine .inr ⟨hlt, Pv (i + 1), fun σ' H' p' => ⟨n - (i + 1), by omega, rfl, hlt, p'⟩, fun x H' y => ?_⟩
    obtain ⟨e, y⟩ := y
    subst e y
    exact hs i σ _ hlt p
  · have e : i = n := by omega
    subst e
    exact .inl ⟨Nat.le_refl _, hd σ H p⟩
section
variable {X : Cx} {tg : Expr}
end
def Its (x : Str) : It := ⟨fun i _ => i < x.cps.size, fun i H v H' => H' = H ∧ ∃ c, x.cps[i]? = some c ∧ v = .str ⟨#[c]⟩, fun i _ => x.cps.size ≤ i⟩
theorem turn_str {P : Program} {w : World} {K : PySem.W.Frag} {tg : Expr} (it : Addr) (x : Str) (t : Tok) (ty : String) (hty : ty = "str_ascii_iterator" ∨ ty = "str_iterator") :
    Turn P w K tg (Its x) [it] it (fun i h => h.IsStrIter it ty x t i) where
  mem := by simp
  obj := fun i h st b hb => by
    have e : b = it := by simpa using hb
    subst e
    obtain ⟨o, e, c, d⟩ := st
    exact ⟨o, e, fun v z => by rw [d] at z; cases z⟩
  keep := fun i h h' st k => let ⟨o, ho, r⟩ := st; ⟨o, k it (by simp) o ho, r⟩
  item := by
    intro X hP hw hK hc i pins s σ H E I hf st hg
    subst hP hw hK
    obtain ⟨f0, f1, f2, f3, f4, f5⟩ := hf it (by simp)
    have W : Walks X.prog X.w X.A it [it] [it] x.cps.size (SignAt x) (fun i h => h.IsStrIter it ty x t i) := by
      rcases hty with e | e
      · rw [e]; exact Walks.strAscii (I.ok.hd hc) it x t
      · rw [e]; exact Walks.strWide (I.ok.hd hc) it x t
    have hno : ["enumerate", "zip", "dict_itemiterator", "dict_reverseitemiterator", "odict_iterator", "itertools.zip_longest", "itertools.pairwise"].contains ty = false := by
      rcases hty with e | e
      · rw [e]; decide
      · rw [e]; decide
    refine W.item i s _ _ hg st fun v h' tk hv st' kk => ?_
    obtain ⟨c, u, hcx, rfl⟩ := hv
    have I1 : Inv X pins σ H { s with heap := h', toks := tk } := I.turned (fun b o hb e => kk b o (by simpa using hb) e) f0 f1 f3 f4 f5
    obtain ⟨oi, e, cc, dd⟩ := id st'
    exact ⟨_, rfl, go_of (s := { s with heap := h', toks := tk }) e cc dd hno ⟨.str ⟨#[c]⟩, H, I1, ⟨u, rfl⟩, ⟨rfl, c, hcx, rfl⟩, st', fun b hb => (hf b hb).1⟩⟩
  done := by
    intro X hP hw hK hc i pins s σ H E I hf st hg
    subst hP hw hK
    obtain ⟨f0, f1, f2, f3, f4, f5⟩ := hf it (by simp)
    have hx : x.cps[i]? = none := Array.getElem?_eq_none hg
    rcases hty with e | e
    · rw [e] at st
      exact wpAny_pyNext_ascii_end (I.ok.hd hc) st hx fun h' eb => ⟨rfl, I.turned (t' := s.toks) (fun b o hb e => eb b o hb e) f0 f1 f3 f4 f5⟩
    · rw [e] at st
      exact wpAny_pyNext_wide_end (I.ok.hd hc) st hx fun h' eb => ⟨rfl, I.turned (t' := s.toks) (fun b o hb e => eb b o hb e) f0 f1 f3 f4 f5⟩
  self := fun A i s Q E st h => by
    rcases hty with e | e
    · rw [e] at st; exact wpAny_pyIter_striter_ascii st h
    · rw [e] at st; exact wpAny_pyIter_striter_wide st h
def iStr (te : TE) : TI := fun σ H R => te σ H fun v H1 => ∃ x, v = .str x ∧ R (Its x) H1
theorem pi_str {X : Cx} {tg e : Expr} {te : TE} (he : PE X e te) : PI X tg e (iStr te) := by
  intro pins s σ H R I h
  refine thn (he pins s σ H _ I h) fun v s1 ⟨y, H1, I1, r1, x, ex, q⟩ => ?_
  subst ex
  obtain ⟨t, rfl⟩ := r1
  cases ha : x.cps.all (· < 128)
  · exact wpAny_pyIter_wide ha (pi_one (tk := s1.toks) I1 _ (turn_str _ x t "str_iterator" (.inr rfl)) ⟨_, Heap.get?_push_size _ rfl, rfl, rfl⟩ q)
  · exact wpAny_pyIter_ascii ha (pi_one (tk := s1.toks) I1 _ (turn_str _ x t "str_ascii_iterator" (.inl rfl)) ⟨_, Heap.get?_push_size _ rfl, rfl, rfl⟩ q)
section
variable {prog : Program} {w : World} {A : Around} {E : Value → Shared → Prop} {s : Shared}
theorem iter_keys {d : Addr} {o : Obj} {es : Array DictEntry} {ep : Nat} {Q : Value → Shared → Prop} (hd : (d == sysModules) = false) (ho : s.heap.get? d = some o) (hc : o.ExactDict) (hdat : o.data = .dict es ep)
    (hQ : Q (.ref s.heap.objs.size) { s with heap := s.heap.push { cls := .type "dict_keyiterator", data := .fields #[.ref d, .int 0 0, .int es.size 0, .int ep 0] } }) :
    wpAny (model prog w) A (pyIter (.ref d)) Q E s := by
  have hT : s.TypeIs (.ref d) "dict" := ⟨o, ho, hc.1⟩
  refine wpAny_pyIter_slot hT F.slot_dict_iter (wpAny_call_entry F.slot_dict_iter hT F.entry_dict_iter ?_ (F.args_dict_iter_1 _))
  unfold Builtin.«dict.__iter__»
  refine wpAny_bind ?_
  unfold Builtin.Dict.dictSlotNone
  refine wpAny_bind (wpAny_notOrdered_dict hT ?_)
  show wpAny _ _ (pure (Value.ref d)) _ _ s
  refine wpAny_pure ?_
  show wpAny _ _ (Builtin.Dict.showsAll d >>= _) _ _ s
  unfold Builtin.Dict.showsAll
  rw [if_neg (by rw [hd]; exact Bool.false_ne_true)]
  refine wpAny_bind (wpAny_pure ?_)
  refine wpAny_bind (wpAny_dictEntries ho hdat ?_)
  refine wpAny_bind (wpAny_dictEpoch ho hdat ?_)
  refine wpAny_bind (wpAny_newObj_type (wpAny_pure ⟨_, rfl, "dict_keyiterator", _, ⟨_, Heap.get?_push_size _ rfl, rfl⟩, F.slot_dict_keyiterator_next.lookup, ?_⟩))
  simpa [rawInt] using hQ
theorem next_key_item {it d : Addr} {i n ep : Nat} {od : Obj} {es : Array DictEntry} {en : DictEntry} {Q : Option Value → Shared → Prop} (hit : s.heap.IsKeyIter it d i n ep) (hod : s.heap.get? d = some od) (hdd : od.data = .dict es ep)
    (hsz : es.size = n) (hx : es[i]? = some en) (hQ : ∀ h', h'.IsKeyIter it d (i + 1) n ep → Heap.SameBut it s.heap h' → Q (some en.key) { s with heap := h' }) : wpAny (model prog w) A (pyNext (.ref it)) Q E s := by
  obtain ⟨o, ho, hc, hd⟩ := id hit
  unfold pyNext
  refine wpAny_bind (wpAny_attempt (wpAny_callSpecial?_slot (name := Str.ofString "__next__") hit.typeIs F.slot_dict_keyiterator_next
    (wpAny_call_entry F.slot_dict_keyiterator_next hit.typeIs F.entry_dict_keyiterator_next ?_ (F.args_dict_keyiterator_next_1 _))))
  refine wpAny_bind (wpAny_pure ?_)
  refine wpAny_bind ?_
  refine wpAny_bind ?_
  first | refine wpAny_bind (wpAny_typeNameOfWhole_keyiter hit.typeIs (wpAny_pure ?_)) | refine wpAny_bind (wpAny_typeNameOf_keyiter hit.typeIs (wpAny_pure ?_))
  refine wpAny_bind (wpAny_fieldsOf ho hd ?_)
  have hown : Builtin.Dict_items.ownsTuple "dict_keyiterator" = false := by decide
  simp only [hown, Bool.false_eq_true, if_false]
  show wpAny _ _ (if (Value.ref d == Value.none) = true then _ else _) _ _ s
  rw [if_neg (show ¬ ((Value.ref d == Value.none) = true) from Bool.false_ne_true)]
  refine wpAny_bind (wpAny_pure ?_)
  refine wpAny_bind (wpAny_dictEntries hod hdd ?_)
  rw [if_neg (by rw [hsz]; simp)]
  refine wpAny_bind (wpAny_pure ?_)
  refine wpAny_bind (wpAny_dictEpoch hod hdd ?_)
  rw [if_neg (by simp)]
  refine wpAny_pure ?_
  obtain ⟨hlt', hen⟩ := Array.getElem?_eq_some_iff.mp hx
  simp only [show ¬ ((i : Int) < 0) from by omega, if_false, Int.toNat_natCast, Array.getElem?_eq_getElem hlt']
  refine wpAny_bind ?_
  first | refine wpAny_bind (wpAny_typeNameOfWhole_keyiter hit.typeIs (wpAny_pure ?_)) | refine wpAny_bind (wpAny_typeNameOf_keyiter hit.typeIs (wpAny_pure ?_))
  refine wpAny_bind (wpAny_isOneOf_keyiter hit.typeIs ?_)
  show wpAny _ _ (setField (.ref it) 1 (rawInt ((i : Int) + 1)) >>= _) _ _ s
  refine wpAny_bind (wpAny_setField ho hd (by simp) ?_)
  have hit' : (s.heap.update it (Obj.mapFields (·.setIfInBounds 1 (rawInt ((i : Int) + 1))))).IsKeyIter it d (i + 1) n ep :=
    ⟨_, Heap.get?_update_self _ ho (Obj.isFreed_of_fields (Obj.data_mapFields hd _)), (Obj.cls_mapFields ..).trans hc, by rw [Obj.data_mapFields hd]; simp [rawInt]⟩
  refine wpAny_bind (wpAny_holding ?_)
  refine wpAny_bind (wpAny_isOneOf_keyiter (s := { s with heap := s.heap.update it (Obj.mapFields (·.setIfInBounds 1 (rawInt ((i : Int) + 1)))) }) hit'.typeIs ?_)
  show wpAny _ _ (pure es[i].key) _ _ _
  rw [hen]
  exact wpAny_pure (wpAny_pure ⟨_, rfl, wpAny_pure (hQ _ hit' (Heap.SameBut.update ..))⟩)
theorem next_key_end {it d : Addr} {i n ep : Nat} {od : Obj} {es : Array DictEntry} {Q : Option Value → Shared → Prop} (hh : A.handled = none) (hit : s.heap.IsKeyIter it d i n ep) (hod : s.heap.get? d = some od) (hdd : od.data = .dict es ep)
    (hsz : es.size = n) (hge : n ≤ i) (hQ : ∀ h', Heap.ExtBut it s.heap h' → Q none { s with heap := h' }) : wpAny (model prog w) A (pyNext (.ref it)) Q E s := by
  obtain ⟨o, ho, hc, hd⟩ := id hit
  unfold pyNext
  refine wpAny_bind (wpAny_attempt (wpAny_callSpecial?_slot (name := Str.ofString "__next__") hit.typeIs F.slot_dict_keyiterator_next
    (wpAny_call_entry F.slot_dict_keyiterator_next hit.typeIs F.entry_dict_keyiterator_next ?_ (F.args_dict_keyiterator_next_1 _))))
  refine wpAny_bind (wpAny_pure ?_)
  refine wpAny_bind ?_
  refine wpAny_bind ?_
  first | refine wpAny_bind (wpAny_typeNameOfWhole_keyiter hit.typeIs (wpAny_pure ?_)) | refine wpAny_bind (wpAny_typeNameOf_keyiter hit.typeIs (wpAny_pure ?_))
  refine wpAny_bind (wpAny_fieldsOf ho hd ?_)
  have hown : Builtin.Dict_items.ownsTuple "dict_keyiterator" = false := by decide
  simp only [hown, Bool.false_eq_true, if_false]
  show wpAny _ _ (if (Value.ref d == Value.none) = true then _ else _) _ _ s
  rw [if_neg (show ¬ ((Value.ref d == Value.none) = true) from Bool.false_ne_true)]
  refine wpAny_bind (wpAny_pure ?_)
  refine wpAny_bind (wpAny_dictEntries hod hdd ?_)
  rw [if_neg (by rw [hsz]; simp)]
  refine wpAny_bind (wpAny_pure ?_)
  refine wpAny_bind (wpAny_dictEpoch hod hdd ?_)
  rw [if_neg (by simp)]
  refine wpAny_pure ?_
  have hge' : es.size ≤ i := by rw [hsz]; exact hge
  simp only [show ¬ ((i : Int) < 0) from by omega, if_false, Int.toNat_natCast, Array.getElem?_eq_none hge']
  refine wpAny_bind ?_
  first | refine wpAny_bind (wpAny_typeNameOfWhole_keyiter hit.typeIs (wpAny_pure ?_)) | refine wpAny_bind (wpAny_typeNameOf_keyiter hit.typeIs (wpAny_pure ?_))
  show wpAny _ _ (setField (.ref it) 0 .none >>= _) _ _ s
  refine wpAny_bind (wpAny_setField ho hd (by simp) ?_)
  show wpAny _ _ (newExc (.type "StopIteration") [] >>= _) _ _ _
  refine wpAny_bind ?_
  simp only [newExc, newTuple]
  refine wpAny_bind (wpAny_newObj_type ?_ (by size_fits))
  refine wpAny_bind (m := firstArgMember _ _) (wpAny_of_eq (a := Value.none) (by first | rfl | (simp only [firstArgMember]; rfl)) ?_)
  refine wpAny_newObj_type ?_ (by size_fits)
  simp only [raiseNew]
  refine wpAny_bind (wpAny_handled ?_)
  rw [show A.in1.handled = none from hh]
  refine wpAny_bind (wpAny_pure (wpAny_throw ?_))
  refine wpAny_bind (wpAny_isInstance (T := "StopIteration") (b := true) ⟨_, Heap.get?_push_size _ rfl, rfl⟩ isSubtype_stop ?_)
  exact wpAny_pure (hQ _ (((Heap.SameBut.update ..).extBut.push _).push _))
end
theorem kv_get {κ : Type} {kvs : List (κ × V)} {vs : List (κ × Value)} (h : KV kvs vs) : ∀ {i : Nat} {k : κ} {v : V}, kvs[i]? = some (k, v) → ∃ u, vs[i]? = some (k, u) ∧ RelV v u := by
  unfold KV at h
  induction h with
  | nil => intro i k v e; simp at e
  | @cons a b l₁ l₂ r t ih =>
    intro i k v e
    cases i with
    | zero =>
      simp only [List.getElem?_cons_zero, Option.some.injEq] at e
      subst e
      refine ⟨b.2, ?_, r.2⟩
      simp only [List.getElem?_cons_zero]
      exact congrArg some (Prod.ext r.1.symm rfl)
    | succ j =>
      simp only [List.getElem?_cons_succ] at e ⊢
      exact ih e
theorem paired_get {α β : Type} {G : α → β → Prop} {l₁ : List α} {l₂ : List β} (h : Paired G l₁ l₂) : ∀ {i : Nat} {a : α}, l₁[i]? = some a → ∃ b, l₂[i]? = some b ∧ G a b := by
  induction h with
  | nil => intro i a e; simp at e
  | @cons a b l₁ l₂ r t ih =>
    intro i a' e
    cases i with
    | zero =>
      simp only [List.getElem?_cons_zero, Option.some.injEq] at e
      subst e
      exact ⟨b, rfl, r⟩
    | succ j =>
      simp only [List.getElem?_cons_succ] at e ⊢
      exact ih e
theorem relV_key {k : Key} {u : Value} (h : keyIs k u = true) : RelV (kV k) u := by
  rcases keyIs_shape h with ⟨i, t, rfl, rfl⟩ | ⟨x, t, rfl, rfl⟩
  · exact ⟨t, rfl⟩
  · exact ⟨t, rfl⟩
section
variable {X : Cx} {pins : List (Addr × Obj)} {σ : St} {H : Hp} {s : Shared} {d : Addr} {o : Obj}
theorem Inv.frzK {kvs : List (Key × V)} (I : Inv X pins σ H s) (h : H d = some (.frz o (.dK kvs))) :
    (d == sysModules) = false ∧ s.heap.get? d = some o ∧ o.ExactDict ∧ ∃ (es : Array DictEntry) (ep : Nat) (vs : List (Key × Value)), o.data = .dict es ep ∧ es.size = kvs.length ∧ KV kvs vs ∧ s.heap.DictAt (mixKind X.prog X.w) d vs ep := by
  obtain ⟨hd, z, hs, vs, kv, o', es, ep, ho, hx, hdt, r⟩ := I.hok d _ h
  rw [hd] at ho
  cases ho
  refine ⟨hs, hd, hx, es, ep, vs, hdt, ?_, kv, o, es, hd, hx, hdt, r⟩
  have l1 := r.2.1.length
  have l2 : kvs.length = vs.length := Paired.length kv
  rw [Array.length_toList] at l1
  omega
theorem Inv.frzT {kvs : List (List Key × V)} (I : Inv X pins σ H s) (h : H d = some (.frz o (.dT kvs))) :
    (d == sysModules) = false ∧ s.heap.get? d = some o ∧ o.ExactDict ∧ ∃ (es : Array DictEntry) (ep : Nat), o.data = .dict es ep ∧ es.size = kvs.length ∧
      ∀ (i : Nat) (k : List Key) (v : V), kvs[i]? = some (k, v) → ∃ (en : DictEntry) (q : Addr), es[i]? = some en ∧ en.key = .ref q ∧ H q = some (.tup (k.map kV)) := by
  obtain ⟨hd, z, hs, xs, pr, o', es, ep, ho, hx, hdt, he, _⟩ := I.hok d _ h
  rw [hd] at ho
  cases ho
  refine ⟨hs, hd, hx, es, ep, hdt, ?_, fun i k v e => ?_⟩
  · have l1 : es.size = xs.length := size_of_entries he
    have l2 : kvs.length = xs.length := Paired.length pr
    omega
  · obtain ⟨b, hb, e1, e2, _⟩ := paired_get pr e
    have q := entry_at he i
    rw [hb] at q
    exact ⟨_, b.2.1, q, rfl, e2⟩
end
def Itk (d : Addr) (o : Obj) (kvs : List (Key × V)) : It :=
  ⟨fun i H => H d = some (.frz o (.dK kvs)) ∧ i < kvs.length, fun i H x H' => H' = H ∧ ∃ k v, kvs[i]? = some (k, v) ∧ x = kV k, fun i H => H d = some (.frz o (.dK kvs)) ∧ kvs.length ≤ i⟩
def Itkt (d : Addr) (o : Obj) (kvs : List (List Key × V)) : It :=
  ⟨fun i H => H d = some (.frz o (.dT kvs)) ∧ i < kvs.length, fun i H x H' => H' = H ∧ ∃ (k : List Key) (v : V) (q : Addr), kvs[i]? = some (k, v) ∧ x = .ref q ∧ H q = some (.tup (k.map kV)), fun i H => H d = some (.frz o (.dT kvs)) ∧ kvs.length ≤ i⟩
theorem dict_ep {o : Obj} {es es' : Array DictEntry} {ep ep' : Nat} (h : o.data = .dict es ep) (h' : o.data = .dict es' ep') : es' = es ∧ ep' = ep := by
  rw [h] at h'
  cases h'
  exact ⟨rfl, rfl⟩
section
variable {P : Program} {w : World} {K : PySem.W.Frag} {tg : Expr} {d : Addr} {o : Obj} {es : Array DictEntry} {ep : Nat}
theorem turn_keys {kvs : List (Key × V)} (it : Addr) (hod : o.data = .dict es ep) : Turn P w K tg (Itk d o kvs) [it] it (fun i h => h.IsKeyIter it d i kvs.length ep) where
  mem := by simp
  obj := fun i h st b hb => by
    have e : b = it := by simpa using hb
    subst e
    obtain ⟨oi, e, c, dd⟩ := st
    exact ⟨oi, e, fun v z => by rw [dd] at z; cases z⟩
  keep := fun i h h' st k => st.at fun oi e => k it (by simp) oi e
  item := by
    intro X hP hw hK hc i pins s σ H E I hf st hg
    subst hP hw hK
    obtain ⟨hd, hi⟩ := hg
    obtain ⟨f0, f1, f2, f3, f4, f5⟩ := hf it (by simp)
    obtain ⟨hs, hgd, hx, es', ep', vs, hdt, hsz, kv, hm⟩ := I.frzK hd
    obtain ⟨rfl, rfl⟩ := dict_ep hod hdt
    obtain ⟨⟨k, v⟩, hkv⟩ : ∃ p, kvs[i]? = some p := ⟨kvs[i], List.getElem?_eq_getElem hi⟩
    obtain ⟨u, hu, ru⟩ := kv_get kv hkv
    have hl : kvs.length = vs.length := Paired.length kv
    rw [hl] at st
    refine wpAny_pyNext_dict_item st hm hu fun key h' hkey st' sb => ?_
    have I1 : Inv X pins σ H { s with heap := h' } := I.turned (t' := s.toks) (fun b ob hb e => (sb.2 b hb).trans e) f0 f1 f3 f4 f5
    obtain ⟨oi, e, c, dd⟩ := id st'
    refine ⟨key, rfl, go_of (s := { s with heap := h' }) e c dd (by decide) ⟨kV k, H, I1, relV_key (show keyIs k key = true from hkey), ⟨rfl, k, v, hkv, rfl⟩, ?_, fun b hb => (hf b hb).1⟩⟩
    show h'.IsKeyIter it d (i + 1) kvs.length _
    rw [hl]
    exact st'
  done := by
    intro X hP hw hK hc i pins s σ H E I hf st hg
    subst hP hw hK
    obtain ⟨hd, hi⟩ := hg
    obtain ⟨f0, f1, f2, f3, f4, f5⟩ := hf it (by simp)
    obtain ⟨hs, hgd, hx, es', ep', vs, hdt, hsz, kv, hm⟩ := I.frzK hd
    obtain ⟨rfl, rfl⟩ := dict_ep hod hdt
    exact next_key_end (I.ok.hd hc) st hgd hdt hsz hi fun h' eb => ⟨rfl, I.turned (t' := s.toks) (fun b ob hb e => eb b ob hb e) f0 f1 f3 f4 f5⟩
  self := fun A i s Q E st h => wpAny_pyIter_keyiter st h
theorem turn_keysT {kvs : List (List Key × V)} (it : Addr) (hod : o.data = .dict es ep) : Turn P w K tg (Itkt d o kvs) [it] it (fun i h => h.IsKeyIter it d i kvs.length ep) where
  mem := by simp
  obj := fun i h st b hb => by
    have e : b = it := by simpa using hb
    subst e
    obtain ⟨oi, e, c, dd⟩ := st
    exact ⟨oi, e, fun v z => by rw [dd] at z; cases z⟩
  keep := fun i h h' st k => st.at fun oi e => k it (by simp) oi e
  item := by
    intro X hP hw hK hc i pins s σ H E I hf st hg
    subst hP hw hK
    obtain ⟨hd, hi⟩ := hg
    obtain ⟨f0, f1, f2, f3, f4, f5⟩ := hf it (by simp)
    obtain ⟨hs, hgd, hx, es', ep', hdt, hsz, ent⟩ := I.frzT hd
    obtain ⟨rfl, rfl⟩ := dict_ep hod hdt
    obtain ⟨⟨k, v⟩, hkv⟩ : ∃ p, kvs[i]? = some p := ⟨kvs[i], List.getElem?_eq_getElem hi⟩
    obtain ⟨en, q, hen, hkey, hq⟩ := ent i k v hkv
    refine next_key_item st hgd hdt hsz hen fun h' st' sb => ?_
    have I1 : Inv X pins σ H { s with heap := h' } := I.turned (t' := s.toks) (fun b ob hb e => (sb.2 b hb).trans e) f0 f1 f3 f4 f5
    obtain ⟨oi, e, c, dd⟩ := id st'
    exact ⟨en.key, rfl, go_of (s := { s with heap := h' }) e c dd (by decide) ⟨.ref q, H, I1, hkey, ⟨rfl, k, v, q, hkv, rfl, hq⟩, st', fun b hb => (hf b hb).1⟩⟩
  done := by
    intro X hP hw hK hc i pins s σ H E I hf st hg
    subst hP hw hK
    obtain ⟨hd, hi⟩ := hg
    obtain ⟨f0, f1, f2, f3, f4, f5⟩ := hf it (by simp)
    obtain ⟨hs, hgd, hx, es', ep', hdt, hsz, ent⟩ := I.frzT hd
    obtain ⟨rfl, rfl⟩ := dict_ep hod hdt
    exact next_key_end (I.ok.hd hc) st hgd hdt hsz hi fun h' eb => ⟨rfl, I.turned (t' := s.toks) (fun b ob hb e => eb b ob hb e) f0 f1 f3 f4 f5⟩
  self := fun A i s Q E st h => by
    refine wpAny_pyIter_slot st.typeIs F.slot_dict_keyiterator_iter (wpAny_call_entry F.slot_dict_keyiterator_iter st.typeIs F.entry_dict_keyiterator_iter ?_ (F.args_dict_keyiterator_iter_1 _))
    show wpAny _ _ (ret (.ref it)) _ _ s
    exact wpAny_pure ⟨_, rfl, "dict_keyiterator", _, st.typeIs, F.slot_dict_keyiterator_next.lookup, h⟩
end
def iKeys (td : TE) : TI := fun σ H R => td σ H fun x H1 => ∃ d o, x = .ref d ∧ ((∃ kvs, H1 d = some (.frz o (.dK kvs)) ∧ R (Itk d o kvs) H1) ∨ ∃ kvs, H1 d = some (.frz o (.dT kvs)) ∧ R (Itkt d o kvs) H1)
section
variable {X : Cx} {tg e : Expr} {td : TE} {apos cpos : Pos}
theorem pi_keys (he : PE X e td) : PI X tg e (iKeys td) := by
  intro pins s σ H R I h
  refine thn (he pins s σ H _ I h) fun u s1 ⟨x, H1, I1, rx, d, o, ex, q⟩ => ?_
  subst ex
  obtain rfl : u = Value.ref d := rx
  rcases q with ⟨kvs, hd, q⟩ | ⟨kvs, hd, q⟩
  · obtain ⟨hs, hgd, hx, es, ep, vs, hdt, hsz, kv, hm⟩ := I1.frzK hd
    refine iter_keys hs hgd hx hdt (pi_one (tk := s1.toks) I1 _ (turn_keys _ hdt) ⟨_, Heap.get?_push_size _ rfl, rfl, ?_⟩ q)
    rw [hsz] <;> rfl
  · obtain ⟨hs, hgd, hx, es, ep, hdt, hsz, ent⟩ := I1.frzT hd
    refine iter_keys hs hgd hx hdt (pi_one (tk := s1.toks) I1 _ (turn_keysT _ hdt) ⟨_, Heap.get?_push_size _ rfl, rfl, ?_⟩ q)
    rw [hsz] <;> rfl
end
end L2
section 
namespace Bits
open PySem PyProof.Rows
end Bits
end 
section 
namespace TL
open PySem PySem.Builtin PySem.Builtin.Str PySem.StrLaws
end TL
end 
namespace L2
open PySem PySem.Spec PyProof.Rows
section
variable {X : Cx} {pins : List (Addr × Obj)} {σ : St} {H : Hp} {s : Shared} {Q : VK}
end
section
variable {X : Cx}
end
section
variable {X : Cx} {o e : Expr} {to te : TE}
end
end L2
namespace L2
open PySem PySem.Spec PyProof.Rows
section
variable {X : Cx}
end
end L2
namespace Att
open PySem PySem.W PySem.Calls PyProof.Rows
section
variable {prog : Program} {w : World} {A : Around} {E : Value → Shared → Prop} {s : Shared} {K : Frag}
end
end Att
namespace L2
open PySem PySem.Spec PyProof.Rows
end L2
namespace L2
open PySem PySem.Spec PyProof.Rows
end L2
/- THE LAST THEOREM (shape; LID, My.* are yours):
   My.Adr: a structure of the addresses that your layer names (classes, functions); My.Txt K t: a structure (Prop) of the equations over K;
   My.txt_mk : {K} {implicit addresses ..} (e1 : nsIn K mainGlobals "law" = some (some (.ref f))) (e2 : K.lookup f = some ⟨oc, od, .func (fnOf "law" "law" params body scope dV kV doc pm an cdv ct), sl⟩) (e3 : codeIn K cdv "law" = true) .. : ∃ t, My.Txt K t
(the tactic k_is has no namespace: write k_is) -/
namespace L2
open PySem PySem.Spec PyProof.Rows
def inClass (s : Stmt) (j : Nat) : Stmt := match s with
  | .ClassDef _ _ _ body _ _ _ _ _ _ _ => body.getD j (.Pass ⟨0, 0, 0, 0⟩)
  | _ => .Pass ⟨0, 0, 0, 0⟩
def defArgs (s : Stmt) : Arguments := match s with
  | .FunctionDef _ a _ _ _ _ _ _ _ _ => a
  | _ => { posonlyargs := [], args := [], vararg := none, kwonlyargs := [], kw_defaults := [], kwarg := none, defaults := [] }
def defBody (s : Stmt) : List Stmt := match s with
  | .FunctionDef _ _ b _ _ _ _ _ _ _ => b
  | _ => []
def defScope (s : Stmt) : Scope := match s with
  | .FunctionDef _ _ _ _ _ _ sc _ _ _ => sc
  | _ => { kind := .function, names := [], isGenerator := false, isCoroutine := false }
abbrev CX0 : CXT := fun _ _ _ _ _ _ => False
abbrev E0 : XK := fun _ _ _ => False
theorem pass0 {X : Cx} : Passes CX0 X E0 := fun _ _ _ _ _ _ _ h => h.elim
structure Fun (K : PySem.W.Frag) (x qual : Str) (st : Stmt) (f : Addr) (fd : FuncData) : Prop where
  ex : ∃ (oc : Value) (od : Option Addr) (kV doc pm : Value) (an : Option Addr) (cdv ct : Value) (osl : Array (Option Value)),
    fd = PySem.W.fnOf x qual (defArgs st) (defBody st) (defScope st) .none kV doc pm an cdv ct ∧ K.lookup f = some ⟨oc, od, .func fd, osl⟩ ∧ PySem.W.codeIn K cdv qual = true
  kp : PySem.W.keepIn K (.ref f) = true
section
variable {P : Program} {w : World} {K : PySem.W.Frag} {mg : Str → Option Value} {base : Heap}
theorem Fun.ok {x qual : Str} {st : Stmt} {f : Addr} {fd : FuncData} {N ps : List Str} {k : Nat} {sp : Sp} (F : Fun K x qual st f fd) (S : FnScope N ps (defScope st)) (len : ∀ vs H Q E, sp vs H Q E → vs.length = ps.length)
    (hbody : ∀ (cdv : Value) (A : Around) (outer : List Env) (s : Shared) (H : Hp) (vs : List V) (Q : VK) (E : XK), Room k (A.deeper (envOfC qual (defScope st) s.heap.objs.size f cdv)) → sp vs H Q E →
      ∃ t, PSs (cxOf CX0 P w K mg base N qual (defScope st) f cdv A outer s H E).nox (defBody st) t ∧ t { nx := fun _ H' => Q .non H', rt := Q } (start N vs) H) : FnOk P w K mg base CX0 (k + 1) f fd ps sp := by
  obtain ⟨oc, od, kV, doc, pm, an, cdv, ct, osl, rfl, lk, hcd⟩ := F.ex
  refine fn_of lk hcd S len fun A outer s H vs Q E hr hsp => ?_
  obtain ⟨t, h, q⟩ := hbody cdv A outer s H vs Q E hr hsp
  exact ⟨t, h.nox, q⟩
theorem Fun.binds {x qual : Str} {st : Stmt} {f : Addr} {fd : FuncData} {ps : List Str} (F : Fun K x qual st f fd)
    (h : ∀ (kV doc pm : Value) (an : Option Addr) (cdv ct : Value) (us : List Value), us.length = ps.length → bindArgs (PySem.W.fnOf x qual (defArgs st) (defBody st) (defScope st) .none kV doc pm an cdv ct) ⟨us, []⟩ = pure (ps.zip us)) : Binds K fd ps [] := by
  obtain ⟨oc, od, kV, doc, pm, an, cdv, ct, osl, rfl, lk, hcd⟩ := F.ex
  exact .all (h kV doc pm an cdv ct)
theorem fun_mk {x qual : Str} {st : Stmt} {f : Addr} {oc : Value} {od an : Option Addr} {osl : Array (Option Value)} {kV doc pm cdv ct : Value} (l : K.lookup f = some ⟨oc, od, .func (PySem.W.fnOf x qual (defArgs st) (defBody st) (defScope st) .none kV doc pm an cdv ct), osl⟩)
    (c : PySem.W.codeIn K cdv qual = true) (k : PySem.W.keepIn K (.ref f) = true) : Fun K x qual st f (PySem.W.fnOf x qual (defArgs st) (defBody st) (defScope st) .none kV doc pm an cdv ct) := ⟨⟨oc, od, kV, doc, pm, an, cdv, ct, osl, rfl, l, c⟩, k⟩
end
theorem hu_of {A : Around} {k : Nat} (hr : Room k A) : A.units + 1 < cLine := Nat.lt_of_le_of_lt (Nat.add_le_add_left (by decide : 1 ≤ 64) _) hr.units
section
variable {X : Cx}
theorem pv (i : Nat) {x : Str} {pos : Pos} (hN : X.N[i]? = some x := by rfl) (hv : Vis X.env.scope x := by first | exact Or.inl rfl | exact Or.inr (Or.inl rfl) | exact Or.inr (Or.inr rfl)) (hd : (x == ("__debug__" : Str)) = false := by decide)
    (hcd : (x == ("__classdict__" : Str)) = false := by decide) : PE X (.Name x pos) (tVar i) := pe_var hN hv hd hcd
end
theorem iteF {A B : Prop} (h : B) : if false = true then A else B := by
  rw [if_neg Bool.false_ne_true]
  exact h
theorem iteT {A B : Prop} (h : A) : if true = true then A else B := by
  rw [if_pos rfl]
  exact h
theorem ite2 {c A B : Prop} [Decidable c] (h1 : c → A) (h2 : ¬ c → B) : if c then A else B := by
  by_cases h : c
  · rw [if_pos h]
    exact h1 h
  · rw [if_neg h]
    exact h2 h
def Same (H H' : Hp) : Prop := ∀ b o, H b = some o → H' b = some o
theorem Same.refl (H : Hp) : Same H H := fun _ _ h => h
theorem Same.trans {H H1 H2 : Hp} (a : Same H H1) (b : Same H1 H2) : Same H H2 := fun c o h => b c o (a c o h)
theorem Same.free {H H' : Hp} (e : Same H H') {l : Addr} (h : H' l = Option.none) : H l = Option.none := by
  cases q : H l with
  | none => rfl
  | some o =>
    rw [e l o q] at h
    cases h
theorem Same.seq {K : PySem.W.Frag} {H H' : Hp} {a : Addr} {xs : List V} (e : Same H H') (h : SqL K H a xs) : SqL K H' a xs := by
  rcases h with (h | ⟨o, h⟩) | h
  · exact .inl (.inl (e _ _ h))
  · exact .inl (.inr ⟨o, e _ _ h⟩)
  · exact .inr h
section
variable {κ : Type} [DecidableEq κ]
end
theorem at_of {xs : List V} {z : Int} {j : Nat} {v : V} (e : z = (j : Int)) (h : xs[j]? = some v) : atI xs z = some v := by
  rw [e]
  exact atI_nat h
theorem Same.made {H H1 : Hp} {x dx C : Addr} (nx : H x = Option.none) (nd : H dx = Option.none) (k : ∀ b o, (upd (upd H dx (.own x)) x (.ins C dx [])) b = some o → b ≠ x → H1 b = some o) : Same H H1 := fun b o e =>
  k b o (by rw [upd_ne (ne_of_none e nx), upd_ne (ne_of_none e nd)]; exact e) (ne_of_none e nx)
end L2
section
namespace L2
open PySem PySem.Spec PyProof.Rows
open PySem.W (WData Codec OpenSpec Well WellAll ReadsW ReadsAllW)
mutual
inductive Dw (K : PySem.W.Frag) (H : Hp) : V → WData → Prop
  | non : Dw K H .non .none
  | bl (b : Bool) : Dw K H (.bl b) (.bool b)
  | int (i : Int) : Dw K H (.int i) (.int i)
  | str (x : Str) : Dw K H (.str x) (.str x)
  | byt (b : Array UInt8) : Dw K H (.byt b) (.bytes b.toList)
  | lst {a : Addr} {xs : List V} {ds : List WData} : SqL K H a xs → DwAll K H xs ds → Dw K H (.ref a) (.list ds)
  | tup {a : Addr} {xs : List V} {ds : List WData} : SqT K H a xs → DwAll K H xs ds → Dw K H (.ref a) (.tuple ds)
inductive DwAll (K : PySem.W.Frag) (H : Hp) : List V → List WData → Prop
  | nil : DwAll K H [] []
  | cons {v : V} {vs : List V} {d : WData} {ds : List WData} : Dw K H v d → DwAll K H vs ds → DwAll K H (v :: vs) (d :: ds)
end
theorem dw_ints {K : PySem.W.Frag} {H : Hp} : ∀ ns : List Int, DwAll K H (ns.map V.int) (ns.map WData.int)
  | [] => .nil
  | n :: r => .cons (.int n) (dw_ints r)
theorem ints_dw {K : PySem.W.Frag} {H : Hp} : ∀ (ns : List Int) (xs : List V), DwAll K H xs (ns.map WData.int) → xs = ns.map V.int
  | [], xs, h => by
    cases h
    rfl
  | n :: r, xs, h => by
    cases h with
    | cons h1 h2 =>
      cases h1
      rw [ints_dw r _ h2] <;> rfl
section
variable {P : Program} {w : World} {K : PySem.W.Frag} {H : Hp} {h : Heap} {R : PySem.W.WRecords} {cl : Str → Option Addr}
theorem sqL_at {a : Addr} {xs : List V} (hok : HOk P w H h) (KX : K.In h) (q : SqL K H a xs) : ∃ (its : List Value) (o : Obj) (n : Nat), Vals xs its ∧ h.get? a = some o ∧ o.cls = .type "list" ∧ o.data = .seq its.toArray n := by
  rcases q with q | ⟨o, its, n, e, hc, _, hd, _, hv⟩
  · obtain ⟨_, its, n, hv, e⟩ := (show ObjOk P w H h a (.lst xs) from q.ok hok)
    exact ⟨its, _, n, hv, e, rfl, rfl⟩
  · exact ⟨its.toList, o, n, hv, KX _ _ e, hc, by simp [hd]⟩
theorem sqT_at {a : Addr} {xs : List V} (hok : HOk P w H h) (KX : K.In h) (q : SqT K H a xs) : ∃ (its : List Value) (o : Obj) (n : Nat), Vals xs its ∧ h.get? a = some o ∧ o.cls = .type "tuple" ∧ o.data = .seq its.toArray n := by
  rcases q with q | ⟨o, its, n, e, hc, hd, _, hv⟩
  · obtain ⟨_, its, hv, o, e, hc, n, hd⟩ := (show ObjOk P w H h a (.tup xs) from q.ok hok)
    exact ⟨its, o, n, hv, e, hc, hd⟩
  · exact ⟨its.toList, o, n, hv, KX _ _ e, hc, by simp [hd]⟩
mutual
theorem Dw.reads (hok : HOk P w H h) (KX : K.In h) : ∀ (d : WData) (v : V) (u : Value), Dw K H v d → RelV v u → ∃ as, ReadsW R cl h u d as
  | .none, _, _, x, r => by
    cases x
    cases r
    exact ⟨_, ReadsW.none⟩
  | .bool b, _, _, x, r => by
    cases x
    cases r
    exact ⟨_, ReadsW.bool b⟩
  | .int i, _, _, x, r => by
    cases x
    obtain ⟨t, rfl⟩ := r
    exact ⟨_, ReadsW.int i t⟩
  | .str s, _, _, x, r => by
    cases x
    obtain ⟨t, rfl⟩ := r
    exact ⟨_, ReadsW.str s t⟩
  | .bytes b, _, _, x, r => by
    cases x
    obtain ⟨t, rfl⟩ := r
    exact ⟨_, ReadsW.bytes _ t⟩
  | .list ds, _, _, x, r => by
    cases x with
    | lst hs ha =>
      cases r
      obtain ⟨its, o, n, rv, ho, hc, hd⟩ := sqL_at hok KX hs
      obtain ⟨as, hr⟩ := Dw.readsAll hok KX ds _ its ha rv
      exact ⟨_, ReadsW.list ho hc hd hr⟩
  | .tuple ds, _, _, x, r => by
    cases x with
    | tup hs ha =>
      cases r
      obtain ⟨its, o, n, rv, ho, hc, hd⟩ := sqT_at hok KX hs
      obtain ⟨as, hr⟩ := Dw.readsAll hok KX ds _ its ha rv
      exact ⟨_, ReadsW.tuple ho hc hd hr⟩
  | .float _, _, _, x, _ => by cases x
  | .dict _, _, _, x, _ => by cases x
  | .bytearray _, _, _, x, _ => by cases x
  | .set _, _, _, x, _ => by cases x
  | .frozenset _, _, _, x, _ => by cases x
  | .obj _ _, _, _, x, _ => by cases x
theorem Dw.readsAll (hok : HOk P w H h) (KX : K.In h) : ∀ (ds : List WData) (vs : List V) (us : List Value), DwAll K H vs ds → Vals vs us → ∃ as, ReadsAllW R cl h us ds as
  | [], _, _, x, r => by
    cases x
    cases r
    exact ⟨_, ReadsAllW.nil⟩
  | d :: ds, _, _, x, r => by
    cases x with
    | cons h1 h2 =>
      cases r with
      | cons r1 r2 =>
        obtain ⟨as, q1⟩ := Dw.reads hok KX d _ _ h1 r1
        obtain ⟨bs, q2⟩ := Dw.readsAll hok KX ds _ _ h2 r2
        exact ⟨_, ReadsAllW.cons q1 q2⟩
end
end
mutual
def plW : WData → Bool
  | .none => true
  | .bool _ => true
  | .int _ => true
  | .str _ => true
  | .bytes _ => true
  | .list xs => plWs xs
  | .tuple xs => plWs xs
  | _ => false
def plWs : List WData → Bool
  | [] => true
  | x :: r => plW x && plWs r
end
theorem plWs_map {α : Type} {f : α → WData} (h : ∀ a, plW (f a) = true) : ∀ l : List α, plWs (l.map f) = true
  | [] => rfl
  | x :: r => by
    show (plW (f x) && plWs (r.map f)) = true
    rw [h x, plWs_map h r] <;> rfl
theorem pl_enc : ∀ (c : Codec) (a : c.denote), plW (c.enc a) = true
  | .unit, _ => rfl
  | .bool, _ => rfl
  | .int _ _, _ => rfl
  | .nat _ _, _ => rfl
  | .u8, _ => rfl
  | .bytes _ _, _ => rfl
  | .text _ _ _ _, _ => rfl
  | .list _ _ c, a => plWs_map (fun x => pl_enc c x) a
  | .pair c d, a => by
    show (plW (c.enc a.1) && (plW (d.enc a.2) && true)) = true
    rw [pl_enc c a.1, pl_enc d a.2] <;> rfl
  | .triple c d e, a => by
    show (plW (c.enc a.1) && (plW (d.enc a.2.1) && (plW (e.enc a.2.2) && true))) = true
    rw [pl_enc c a.1, pl_enc d a.2.1, pl_enc e a.2.2] <;> rfl
  | .option c, none => rfl
  | .option c, some x => pl_enc c x
theorem pl_encAll : ∀ (cs : List Codec) (a : Codec.denoteAll cs), plWs (Codec.encAll cs a) = true
  | [], _ => rfl
  | c :: cs, a => by
    show (plW (c.enc a.1) && plWs (Codec.encAll cs a.2)) = true
    rw [pl_enc c a.1, pl_encAll cs a.2] <;> rfl
theorem weight_mem : ∀ {xs : List WData} {d : WData}, d ∈ xs → d.weight ≤ WData.weightAll xs
  | [], d, h => absurd h (by simp)
  | x :: r, d, h => by
    show d.weight ≤ x.weight + 1 + WData.weightAll r
    rcases List.mem_cons.mp h with e | m
    · rw [e]
      omega
    · have z := weight_mem m
      omega
def toV : Value → V
  | .none => .non
  | .bool b => .bl b
  | .int i _ => .int i
  | .str x _ => .str x
  | .bytes b _ => .byt b
  | .ref a => .ref a
  | _ => .non
def OkU (A : List Addr) : Value → Prop
  | .none => True
  | .bool _ => True
  | .int _ _ => True
  | .str _ _ => True
  | .bytes _ _ => True
  | .ref a => a ∈ A
  | _ => False
theorem OkU.mono {A B : List Addr} (h : ∀ a ∈ A, a ∈ B) : ∀ {u : Value}, OkU A u → OkU B u := fun {u} x => by
  cases u with
  | ref a => exact h a x
  | none => trivial
  | bool b => trivial
  | int i t => trivial
  | str s t => trivial
  | bytes b t => trivial
  | _ => exact False.elim x
theorem relV_toV {A : List Addr} {u : Value} (x : OkU A u) : RelV (toV u) u := by
  cases u with
  | ref a => rfl
  | none => rfl
  | bool b => rfl
  | int i t => exact ⟨t, rfl⟩
  | str s t => exact ⟨t, rfl⟩
  | bytes b t => exact ⟨t, rfl⟩
  | _ => exact False.elim x
theorem vals_toV {A : List Addr} : ∀ {vs : List Value}, (∀ u ∈ vs, OkU A u) → Vals (vs.map toV) vs
  | [], _ => .nil
  | u :: r, h => .cons (relV_toV (h u (List.mem_cons_self ..))) (vals_toV fun x hx => h x (List.mem_cons_of_mem _ hx))
def ArgOb (h : Heap) (A : List Addr) (a : Addr) : Prop := ∃ vs : List Value, vs.length ≤ sizeLine ∧ (∀ u ∈ vs, OkU A u) ∧
  (h.get? a = some { cls := .type "list", data := .seq vs.toArray } ∨ h.get? a = some { cls := .type "tuple", data := .seq vs.toArray })
theorem ArgOb.mono {h : Heap} {A B : List Addr} {a : Addr} (k : ∀ a ∈ A, a ∈ B) (x : ArgOb h A a) : ArgOb h B a := by
  obtain ⟨vs, h1, h2, h3⟩ := x
  exact ⟨vs, h1, fun u hu => (h2 u hu).mono k, h3⟩
theorem wellAll_len {P : Params} {h : Heap} : ∀ {vs : List Value} {ds : List WData}, WellAll P h vs ds → vs.length = ds.length
  | _, _, .nil => rfl
  | _, _, .cons _ b => by
    show _ + 1 = _ + 1
    rw [wellAll_len b]
theorem well_list {P : Params} {h : Heap} {v : Value} {ds : List WData} (x : Well P h v (.list ds)) : ∃ (a : Addr) (vs : List Value), v = .ref a ∧ h.get? a = some { cls := .type "list", data := .seq vs.toArray } ∧ WellAll P h vs ds := by
  cases x with
  | list ho hall => exact ⟨_, _, rfl, ho, hall⟩
theorem well_tuple {P : Params} {h : Heap} {v : Value} {ds : List WData} (x : Well P h v (.tuple ds)) : ∃ (a : Addr) (vs : List Value), v = .ref a ∧ h.get? a = some { cls := .type "tuple", data := .seq vs.toArray } ∧ WellAll P h vs ds := by
  cases x with
  | tuple ho hall => exact ⟨_, _, rfl, ho, hall⟩
theorem well_cons {P : Params} {h : Heap} {us : List Value} {d : WData} {ds : List WData} (x : WellAll P h us (d :: ds)) : ∃ (v : Value) (vs : List Value), us = v :: vs ∧ Well P h v d ∧ WellAll P h vs ds := by
  cases x with
  | cons a b => exact ⟨_, _, rfl, a, b⟩
theorem line_of {n : Nat} (h : n ≤ 1048576) : n ≤ sizeLine := Nat.le_trans h (by decide)
section
variable {P : Params} {h : Heap}
mutual
theorem area_one : ∀ (d : WData) (v : Value), Well P h v d → plW d = true → d.weight ≤ 1048576 → ∃ A : List Addr, OkU A v ∧ ∀ a ∈ A, ArgOb h A a
  | .none, _, x, _, _ => by
    cases x
    exact ⟨[], trivial, fun a m => absurd m (by simp)⟩
  | .bool b, _, x, _, _ => by
    cases x
    exact ⟨[], trivial, fun a m => absurd m (by simp)⟩
  | .int i, _, x, _, _ => by
    cases x
    exact ⟨[], trivial, fun a m => absurd m (by simp)⟩
  | .str s, _, x, _, _ => by
    cases x
    exact ⟨[], trivial, fun a m => absurd m (by simp)⟩
  | .bytes b, _, x, _, _ => by
    cases x
    exact ⟨[], trivial, fun a m => absurd m (by simp)⟩
  | .list ds, _, x, p, z => by
    obtain ⟨a, vs, rfl, ho, hall⟩ := well_list x
    have z2 : WData.weightAll ds ≤ 1048576 := z
    obtain ⟨A, h1, h2⟩ := area_all ds _ hall p fun d hd => Nat.le_trans (weight_mem hd) z2
    have k : ∀ b ∈ A, b ∈ a :: A := fun b hb => List.mem_cons_of_mem _ hb
    refine ⟨a :: A, List.mem_cons_self .., fun b hb => ?_⟩
    rcases List.mem_cons.mp hb with e | m
    · rw [e]
      exact ⟨vs, line_of (by rw [wellAll_len hall]; exact Nat.le_trans (PySem.W.length_le_weightAllW ds) z2), fun u hu => (h1 u hu).mono k, .inl ho⟩
    · exact (h2 b m).mono k
  | .tuple ds, _, x, p, z => by
    obtain ⟨a, vs, rfl, ho, hall⟩ := well_tuple x
    have z2 : WData.weightAll ds ≤ 1048576 := z
    obtain ⟨A, h1, h2⟩ := area_all ds _ hall p fun d hd => Nat.le_trans (weight_mem hd) z2
    have k : ∀ b ∈ A, b ∈ a :: A := fun b hb => List.mem_cons_of_mem _ hb
    refine ⟨a :: A, List.mem_cons_self .., fun b hb => ?_⟩
    rcases List.mem_cons.mp hb with e | m
    · rw [e]
      exact ⟨vs, line_of (by rw [wellAll_len hall]; exact Nat.le_trans (PySem.W.length_le_weightAllW ds) z2), fun u hu => (h1 u hu).mono k, .inr ho⟩
    · exact (h2 b m).mono k
  | .float _, _, _, p, _ => Bool.noConfusion (show false = true from p)
  | .dict _, _, _, p, _ => Bool.noConfusion (show false = true from p)
  | .bytearray _, _, _, p, _ => Bool.noConfusion (show false = true from p)
  | .set _, _, _, p, _ => Bool.noConfusion (show false = true from p)
  | .frozenset _, _, _, p, _ => Bool.noConfusion (show false = true from p)
  | .obj _ _, _, _, p, _ => Bool.noConfusion (show false = true from p)
theorem area_all : ∀ (ds : List WData) (vs : List Value), WellAll P h vs ds → plWs ds = true → (∀ d ∈ ds, d.weight ≤ 1048576) → ∃ A : List Addr, (∀ u ∈ vs, OkU A u) ∧ ∀ a ∈ A, ArgOb h A a
  | [], _, x, _, _ => by
    cases x
    exact ⟨[], fun u m => absurd m (by simp), fun a m => absurd m (by simp)⟩
  | d :: ds, _, x, p, z => by
    obtain ⟨v, vs, rfl, x1, x2⟩ := well_cons x
    have q : plW d = true ∧ plWs ds = true := Bool.and_eq_true_iff.mp p
    obtain ⟨A, a1, a2⟩ := area_one d v x1 q.1 (z d (List.mem_cons_self ..))
    obtain ⟨B, b1, b2⟩ := area_all ds vs x2 q.2 fun e he => z e (List.mem_cons_of_mem _ he)
    have kA : ∀ b ∈ A, b ∈ A ++ B := fun b hb => List.mem_append.mpr (.inl hb)
    have kB : ∀ b ∈ B, b ∈ A ++ B := fun b hb => List.mem_append.mpr (.inr hb)
    refine ⟨A ++ B, fun u hu => ?_, fun b hb => ?_⟩
    · rcases List.mem_cons.mp hu with e | m
      · rw [e]
        exact a1.mono kA
      · exact (b1 u m).mono kB
    · rcases List.mem_append.mp hb with m | m
      · exact (a2 b m).mono kA
      · exact (b2 b m).mono kB
end
end
def hoOf (o : Obj) : Option HO := match o.data with
  | .seq vs _ => if (o.cls == Value.type "list") = true then some (.frz o (.lst (vs.toList.map toV))) else some (.frz o (.tup (vs.toList.map toV)))
  | _ => none
def argH (K : PySem.W.Frag) (h : Heap) (A : List Addr) : Hp := fun b => if b ∈ A then (if (K.lookup b).isNone = true then (h.get? b).bind hoOf else none) else none
def OnlyF (H : Hp) : Prop := ∀ b, H b = none ∨ ∃ o u, H b = some (.frz o u)
theorem hoOf_lst (vs : List Value) : hoOf { cls := .type "list", data := .seq vs.toArray } = some (.frz { cls := .type "list", data := .seq vs.toArray } (.lst (vs.map toV))) := by
  show (if (Value.type "list" == Value.type "list") = true then some (HO.frz { cls := .type "list", data := .seq vs.toArray } (.lst (vs.toArray.toList.map toV))) else some (HO.frz { cls := .type "list", data := .seq vs.toArray } (.tup (vs.toArray.toList.map toV)))) = _
  rw [if_pos (beq_self_eq_true _)]
theorem hoOf_tup (vs : List Value) : hoOf { cls := .type "tuple", data := .seq vs.toArray } = some (.frz { cls := .type "tuple", data := .seq vs.toArray } (.tup (vs.map toV))) := by
  show (if (Value.type "tuple" == Value.type "list") = true then some (HO.frz { cls := .type "tuple", data := .seq vs.toArray } (.lst (vs.toArray.toList.map toV))) else some (HO.frz { cls := .type "tuple", data := .seq vs.toArray } (.tup (vs.toArray.toList.map toV)))) = _
  rw [if_neg (by decide)]
section
variable {P : Program} {w : World} {K : PySem.W.Frag} {h : Heap} {A : List Addr}
theorem argH_at {b : Addr} {o : Obj} (hb : b ∈ A) (hk : K.lookup b = none) (e : h.get? b = some o) : argH K h A b = hoOf o := by
  unfold argH
  rw [if_pos hb, hk, if_pos (show (none : Option Obj).isNone = true from rfl), e] <;> rfl
theorem of_argH {b : Addr} {u : HO} (q : argH K h A b = some u) : b ∈ A ∧ K.lookup b = none := by
  unfold argH at q
  by_cases hb : b ∈ A
  · rw [if_pos hb] at q
    cases hk : K.lookup b with
    | none => exact ⟨hb, rfl⟩
    | some o =>
      rw [hk, if_neg (by simp)] at q
      cases q
  · rw [if_neg hb] at q
    cases q
theorem argH_is (ar : ∀ a ∈ A, ArgOb h A a) {b : Addr} {u : HO} (q : argH K h A b = some u) : K.lookup b = none ∧ ∃ vs : List Value, vs.length ≤ sizeLine ∧ (∀ u ∈ vs, OkU A u) ∧
    ((h.get? b = some { cls := .type "list", data := .seq vs.toArray } ∧ u = .frz { cls := .type "list", data := .seq vs.toArray } (.lst (vs.map toV))) ∨
     (h.get? b = some { cls := .type "tuple", data := .seq vs.toArray } ∧ u = .frz { cls := .type "tuple", data := .seq vs.toArray } (.tup (vs.map toV)))) := by
  obtain ⟨hb, hk⟩ := of_argH q
  obtain ⟨vs, h1, h2, h3⟩ := ar b hb
  refine ⟨hk, vs, h1, h2, ?_⟩
  rcases h3 with e | e
  · rw [argH_at hb hk e, hoOf_lst] at q
    exact .inl ⟨e, (Option.some.inj q).symm⟩
  · rw [argH_at hb hk e, hoOf_tup] at q
    exact .inr ⟨e, (Option.some.inj q).symm⟩
theorem argH_only (ar : ∀ a ∈ A, ArgOb h A a) : OnlyF (argH K h A) := fun b => by
  cases q : argH K h A b with
  | none => exact .inl rfl
  | some u =>
    obtain ⟨_, vs, _, _, ⟨_, e⟩ | ⟨_, e⟩⟩ := argH_is ar q
    · exact .inr ⟨_, _, by rw [e]⟩
    · exact .inr ⟨_, _, by rw [e]⟩
theorem argH_ok (ar : ∀ a ∈ A, ArgOb h A a) : HOk P w (argH K h A) h := fun b u q => by
  obtain ⟨_, vs, h1, h2, ⟨e, rfl⟩ | ⟨e, rfl⟩⟩ := argH_is ar q
  · exact ⟨e, by rw [List.length_map]; exact h1, vs, _, vals_toV h2, e⟩
  · exact ⟨e, by rw [List.length_map]; exact h1, vs, vals_toV h2, _, e, rfl, _, rfl⟩
theorem seq_inj {c c' : Value} {vs us : List Value} (e : (some { cls := c, data := .seq vs.toArray } : Option Obj) = some { cls := c', data := .seq us.toArray }) : c = c' ∧ vs = us := by
  have e1 := Option.some.inj e
  have e2 : c = c' := congrArg Obj.cls e1
  have e3 : Data.seq vs.toArray = Data.seq us.toArray := congrArg Obj.data e1
  injection e3 with e4
  refine ⟨e2, ?_⟩
  have e5 := congrArg Array.toList e4
  simpa using e5
theorem argL (KX : K.In h) (ar : ∀ a ∈ A, ArgOb h A a) {a : Addr} {vs : List Value} (ha : a ∈ A) (e : h.get? a = some { cls := .type "list", data := .seq vs.toArray }) : (∀ u ∈ vs, OkU A u) ∧ SqL K (argH K h A) a (vs.map toV) := by
  obtain ⟨us, h1, h2, h3⟩ := ar a ha
  have hu : us = vs := by
    rcases h3 with q | q
    · rw [e] at q
      exact (seq_inj q).2.symm
    · rw [e] at q
      exact absurd (Value.type.inj (seq_inj q).1) (by decide)
  subst hu
  refine ⟨h2, ?_⟩
  cases hk : K.lookup a with
  | none => exact .inl (.inr ⟨_, by rw [argH_at ha hk e, hoOf_lst]⟩)
  | some o =>
    have e2 := KX a o hk
    rw [e] at e2
    obtain rfl := Option.some.inj e2
    exact .inr ⟨_, us.toArray, _, hk, rfl, rfl, rfl, by rw [List.size_toArray]; exact h1, by simpa using vals_toV h2⟩
theorem argT (KX : K.In h) (ar : ∀ a ∈ A, ArgOb h A a) {a : Addr} {vs : List Value} (ha : a ∈ A) (e : h.get? a = some { cls := .type "tuple", data := .seq vs.toArray }) : (∀ u ∈ vs, OkU A u) ∧ SqT K (argH K h A) a (vs.map toV) := by
  obtain ⟨us, h1, h2, h3⟩ := ar a ha
  have hu : us = vs := by
    rcases h3 with q | q
    · rw [e] at q
      exact absurd (Value.type.inj (seq_inj q).1) (by decide)
    · rw [e] at q
      exact (seq_inj q).2.symm
  subst hu
  refine ⟨h2, ?_⟩
  cases hk : K.lookup a with
  | none => exact .inl (.inr ⟨_, by rw [argH_at ha hk e, hoOf_tup]⟩)
  | some o =>
    have e2 := KX a o hk
    rw [e] at e2
    obtain rfl := Option.some.inj e2
    exact .inr ⟨_, us.toArray, _, hk, rfl, rfl, by rw [List.size_toArray]; exact h1, by simpa using vals_toV h2⟩
mutual
theorem dw_one {Pm : Params} (KX : K.In h) (ar : ∀ a ∈ A, ArgOb h A a) : ∀ (d : WData) (v : Value), Well Pm h v d → plW d = true → OkU A v → Dw K (argH K h A) (toV v) d
  | .none, _, x, _, _ => by
    cases x
    exact .non
  | .bool b, _, x, _, _ => by
    cases x
    exact .bl b
  | .int i, _, x, _, _ => by
    cases x
    exact .int i
  | .str s, _, x, _, _ => by
    cases x
    exact .str s
  | .bytes b, _, x, _, _ => by
    cases x
    have z := Dw.byt (K := K) (H := argH K h A) b.toArray
    exact z
  | .list ds, _, x, p, hu => by
    obtain ⟨a, vs, rfl, ho, hall⟩ := well_list x
    obtain ⟨h2, hs⟩ := argL KX ar hu ho
    exact .lst hs (dw_all KX ar ds _ hall p h2)
  | .tuple ds, _, x, p, hu => by
    obtain ⟨a, vs, rfl, ho, hall⟩ := well_tuple x
    obtain ⟨h2, hs⟩ := argT KX ar hu ho
    exact .tup hs (dw_all KX ar ds _ hall p h2)
  | .float _, _, _, p, _ => Bool.noConfusion (show false = true from p)
  | .dict _, _, _, p, _ => Bool.noConfusion (show false = true from p)
  | .bytearray _, _, _, p, _ => Bool.noConfusion (show false = true from p)
  | .set _, _, _, p, _ => Bool.noConfusion (show false = true from p)
  | .frozenset _, _, _, p, _ => Bool.noConfusion (show false = true from p)
  | .obj _ _, _, _, p, _ => Bool.noConfusion (show false = true from p)
theorem dw_all {Pm : Params} (KX : K.In h) (ar : ∀ a ∈ A, ArgOb h A a) : ∀ (ds : List WData) (vs : List Value), WellAll Pm h vs ds → plWs ds = true → (∀ u ∈ vs, OkU A u) → DwAll K (argH K h A) (vs.map toV) ds
  | [], _, x, _, _ => by
    cases x
    exact .nil
  | d :: ds, _, x, p, hu => by
    obtain ⟨v, vs, rfl, x1, x2⟩ := well_cons x
    have q : plW d = true ∧ plWs ds = true := Bool.and_eq_true_iff.mp p
    exact .cons (dw_one KX ar d v x1 q.1 (hu _ (List.mem_cons_self ..))) (dw_all KX ar ds vs x2 q.2 fun u m => hu u (List.mem_cons_of_mem _ m))
end
end
theorem layable_weight {ds : List WData} (h : WData.layableAll ds = true) : ∀ d ∈ ds, d.weight ≤ 1048576 := fun d hd =>
  (PySem.W.layableW_iff.mp (List.all_eq_true.mp h d hd)).2.2
theorem encAll_len : ∀ (cs : List Codec) (a : Codec.denoteAll cs), (Codec.encAll cs a).length = cs.length
  | [], _ => rfl
  | c :: cs, a => by
    show (Codec.encAll cs a.2).length + 1 = cs.length + 1
    rw [encAll_len cs a.2]
end L2
end
section
set_option autoImplicit false
namespace Sim
open PySem PyProof.Rows
section
variable {M : Model} {Γ : Ctx} {s1 s2 : Shared} {kd : SortKind}
def Sim (M : Model) (Γ : Ctx) (s1 s2 : Shared) (kd : SortKind) {α : Type} (m : StateT SortSt Sem α) : Prop :=
  ∀ (st : SortSt), kindOf st = kd → ∀ (P1 : α × SortSt → Pos → Shared → Prop) (E1 : Value → Pos → Shared → Prop) (p : Pos),
    Sem.wp M Γ (m.run st) P1 E1 p s1 → ∃ (r : α × SortSt) (p1 : Pos), kindOf r.2 = kd ∧ P1 r p1 s1 ∧
      ∀ (P2 : α × SortSt → Pos → Shared → Prop) (E2 : Value → Pos → Shared → Prop) (p2 : Pos), (∀ p', P2 r p' s2) → Sem.wp M Γ (m.run st) P2 E2 p2 s2
theorem sim_pure {α : Type} (a : α) : Sim M Γ s1 s2 kd (pure a : StateT SortSt Sem α) := fun st hk P1 E1 p h => by
  rw [StateT.run_pure] at h ⊢
  rw [Sem.wp_pure'] at h
  exact ⟨(a, st), p, hk, h, fun P2 E2 p2 q => by rw [Sem.wp_pure']; exact q p2⟩
theorem sim_bind {α β : Type} {m : StateT SortSt Sem α} {f : α → StateT SortSt Sem β} (hm : Sim M Γ s1 s2 kd m) (hf : ∀ a, Sim M Γ s1 s2 kd (f a)) : Sim M Γ s1 s2 kd (m >>= f) := fun st hk P1 E1 p h => by
  rw [StateT.run_bind, Sem.wp_bind'] at h
  obtain ⟨r, p1, k1, h1, g1⟩ := hm st hk _ _ _ h
  obtain ⟨r', p2, k2, h2, g2⟩ := hf r.1 r.2 k1 _ _ _ h1
  refine ⟨r', p2, k2, h2, fun P2 E2 p3 q => ?_⟩
  rw [StateT.run_bind, Sem.wp_bind']
  exact g1 _ _ _ fun p' => g2 _ _ _ q
theorem sim_get {β : Type} {f : SortSt → StateT SortSt Sem β} (hf : ∀ st, kindOf st = kd → Sim M Γ s1 s2 kd (f st)) : Sim M Γ s1 s2 kd (get >>= f) := fun st hk P1 E1 p h => by
  rw [StateT.run_bind, StateT.run_get, pure_bind] at h ⊢
  exact hf st hk st hk P1 E1 p h
theorem sim_get0 : Sim M Γ s1 s2 kd (get : StateT SortSt Sem SortSt) := fun st hk P1 E1 p h => by
  rw [StateT.run_get] at h ⊢
  rw [Sem.wp_pure'] at h
  exact ⟨(st, st), p, hk, h, fun P2 E2 p2 q => by rw [Sem.wp_pure']; exact q p2⟩
theorem sim_modify {f : SortSt → SortSt} (hf : ∀ st, kindOf (f st) = kindOf st) : Sim M Γ s1 s2 kd (modify f : StateT SortSt Sem PUnit) := fun st hk P1 E1 p h => by
  rw [StateT.run_modify] at h ⊢
  rw [Sem.wp_pure'] at h
  exact ⟨_, p, (hf st).trans hk, h, fun P2 E2 p2 q => by rw [Sem.wp_pure']; exact q p2⟩
theorem sim_set {x : SortSt} (hx : kindOf x = kd) : Sim M Γ s1 s2 kd (set x : StateT SortSt Sem PUnit) := fun st hk P1 E1 p h => by
  rw [StateT.run_set] at h ⊢
  rw [Sem.wp_pure'] at h
  exact ⟨_, p, hx, h, fun P2 E2 p2 q => by rw [Sem.wp_pure']; exact q p2⟩
theorem sim_rule {tag : String} : Sim M Γ s1 s2 kd (liftM (rule tag) : StateT SortSt Sem Unit) := fun st hk P1 E1 p h => by
  have h' : Sem.wp M Γ (rule tag >>= fun a => pure (a, st)) P1 E1 p s1 := h
  rw [Sem.wp_bind'] at h'
  have h2 : P1 ((), st) p s1 := h'
  exact ⟨((), st), p, hk, h2, fun P2 E2 p2 q => q p2⟩
theorem sim_unsupported {α : Type} {what : String} : Sim M Γ s1 s2 kd (liftM (unsupported what : Sem α) : StateT SortSt Sem α) := fun st hk P1 E1 p h => by
  have h' : Sem.wp M Γ ((unsupported what : Sem α) >>= fun a => pure (a, st)) P1 E1 p s1 := h
  rw [Sem.wp_bind'] at h'
  exact (show False from h').elim
theorem sim_ite {α : Type} {c : Prop} [Decidable c] {a b : StateT SortSt Sem α} (ha : c → Sim M Γ s1 s2 kd a) (hb : ¬ c → Sim M Γ s1 s2 kd b) : Sim M Γ s1 s2 kd (if c then a else b) := by
  by_cases h : c
  · rw [if_pos h]; exact ha h
  · rw [if_neg h]; exact hb h
theorem sim_list {β : Type} {f : Nat → β → StateT SortSt Sem (ForInStep β)} (hf : ∀ x b, Sim M Γ s1 s2 kd (f x b)) : ∀ (l : List Nat) (b : β), Sim M Γ s1 s2 kd (forIn l b f)
  | [], b => by rw [List.forIn_nil]; exact sim_pure b
  | x :: r, b => by
    rw [List.forIn_cons]
    refine sim_bind (hf x b) fun z => ?_
    cases z with
    | done b' => exact sim_pure b'
    | yield b' => exact sim_list hf r b'
theorem sim_range {β : Type} {a b : Nat} {c : β} {f : Nat → β → StateT SortSt Sem (ForInStep β)} (hf : ∀ x c, Sim M Γ s1 s2 kd (f x c)) : Sim M Γ s1 s2 kd (forIn [a:b] c f) := by
  rw [Std.Legacy.Range.forIn_eq_forIn_range']
  exact sim_list hf _ _
theorem sim_elem {arr : Array Keyed} {i : Nat} : Sim M Γ s1 s2 kd (elem' arr i) := by
  rw [elem'_eq]
  cases arr[i]? with
  | none => exact sim_unsupported
  | some p => exact sim_pure p
def KeysSim (M : Model) (Γ : Ctx) (s1 s2 : Shared) (kd : SortKind) : Prop :=
  ∀ (x y : Value) (P1 : Bool → Pos → Shared → Prop) (E1 : Value → Pos → Shared → Prop) (p : Pos), Sem.wp M Γ (keyLt' kd x y) P1 E1 p s1 →
    ∃ (b : Bool) (p1 : Pos), P1 b p1 s1 ∧ ∀ (P2 : Bool → Pos → Shared → Prop) (E2 : Value → Pos → Shared → Prop) (p2 : Pos), (∀ p', P2 b p' s2) → Sem.wp M Γ (keyLt' kd x y) P2 E2 p2 s2
theorem sim_lt (hK : KeysSim M Γ s1 s2 kd) (x y : Keyed) : Sim M Γ s1 s2 kd (lt' x y) := by
  rw [lt'_eq]
  refine sim_get fun st0 hk0 st hk P1 E1 p h => ?_
  rw [hk0] at h ⊢
  have h' : Sem.wp M Γ (((keyLt' kd x.1 y.1).attempt >>= fun a => pure (a, st)) >>= fun r => StateT.run (match r.1 with
    | .ok b => (pure (some b) : StateT SortSt Sem (Option Bool))
    | .error e => do modify (fun s => SortSt.mk' (kindOf s) (arrOf s) (pendingOf s) (gallopOf s) (some e)); pure none) r.2) P1 E1 p s1 := h
  rw [Sem.wp_bind', Sem.wp_bind', Sem.wp_attempt] at h'
  obtain ⟨b, p1, h1, g1⟩ := hK x.1 y.1 _ _ _ h'
  rw [Sem.wp_pure'] at h1
  have h2 : P1 (some b, st) p1 s1 := by
    have := h1
    rw [StateT.run_pure, Sem.wp_pure'] at this
    exact this
  refine ⟨(some b, st), p1, hk, h2, fun P2 E2 p2 q => ?_⟩
  show Sem.wp M Γ (((keyLt' kd x.1 y.1).attempt >>= fun a => pure (a, st)) >>= fun r => StateT.run (match r.1 with
    | .ok b => (pure (some b) : StateT SortSt Sem (Option Bool))
    | .error e => do modify (fun s => SortSt.mk' (kindOf s) (arrOf s) (pendingOf s) (gallopOf s) (some e)); pure none) r.2) P2 E2 p2 s2
  rw [Sem.wp_bind', Sem.wp_bind', Sem.wp_attempt]
  refine g1 _ _ _ fun p' => ?_
  rw [Sem.wp_pure', StateT.run_pure, Sem.wp_pure']
  exact q p'
theorem sim_ltAt (hK : KeysSim M Γ s1 s2 kd) (i j : Nat) : Sim M Γ s1 s2 kd (ltAt' i j) := by
  rw [ltAt'_eq]
  exact sim_get fun st _ => sim_bind sim_elem fun x => sim_bind sim_elem fun y => sim_lt hK x y
theorem sim_move {i j : Nat} : Sim M Γ s1 s2 kd (moveDown' i j) := by
  rw [moveDown'_eq]; exact sim_modify fun _ => rfl
theorem sim_rev {i j : Nat} : Sim M Γ s1 s2 kd (reverseSlice' i j) := by
  rw [reverseSlice'_eq]; exact sim_modify fun _ => rfl
theorem sim_binary (hK : KeysSim M Γ s1 s2 kd) (lo n ok : Nat) : Sim M Γ s1 s2 kd (binarySort' lo n ok) := by
  rw [binarySort'_eq]
  repeat' (first
    | with_reducible exact sim_pure _
    | with_reducible exact sim_ltAt hK _ _
    | with_reducible exact sim_lt hK _ _
    | with_reducible exact sim_elem
    | with_reducible exact sim_rule
    | with_reducible exact sim_unsupported
    | with_reducible exact sim_modify fun _ => rfl
    | with_reducible exact sim_move
    | with_reducible exact sim_rev
    | with_reducible refine sim_range fun _ _ => ?_
    | with_reducible refine sim_get fun _ _ => ?_
    | with_reducible refine sim_bind ?_ fun _ => ?_
    | with_reducible refine sim_ite (fun _ => ?_) fun _ => ?_
    | dsimp only
    | split)
end
end Sim
end
namespace Sim
open PySem PyProof.Rows PySem.SeqAt
open AutoSeq1 (wpAny_loadPart')
open MeetsSeq MeetsSeq2 MeetsSeq3 SeqRoads2
def ltL : List Int → List Int → Bool
  | [], [] => false
  | [], _ :: _ => true
  | _ :: _, [] => false
  | a :: l, b :: r => if a = b then ltL l r else decide (a < b)
theorem rc_lt {prog : Program} {w : World} {A : Around} {E : Value → Shared → Prop} {s : Shared} {i j : Int} {t t' : Tok} {Q : Value → Shared → Prop} (h : Q (.bool (decide (i < j))) s) :
    wpAny (model prog w) A (richCompare .Lt (.int i t) (.int j t')) Q E s := P.lt_int h
theorem tup_lt_meets (l b : Addr) (xs ys : Array Value) (n k : Nat) (dd dd2 : Option Addr) (sl sl2 : Array (Option Value)) {is js : List Int} (hx : IntsAre xs.toList is) (hy : IntsAre ys.toList js) :
    Meets (Builtin.«tuple.__lt__» ⟨[.ref l, .ref b], []⟩)
      (fun _ R s => s.heap.get? l = some { cls := .type "tuple", dict := dd, data := .seq xs n, slots := sl } ∧ s.heap.get? b = some { cls := .type "tuple", dict := dd2, data := .seq ys k, slots := sl2 } ∧
        R (.ok (.ret (.bool (ltL is js)))) s) :=
  .of_wp fun prog w A R s h => by
    obtain ⟨hp, g, d, tk, os⟩ := s
    obtain ⟨hl, hb, h⟩ := h
    have f2 := AutoSeq1.sub_tuple_tuple
    wp_walk using wpAny_loadPart' hl, wpAny_loadPart' hb, wpAny_forIn_list _ (fun (rest : List (Value × Value)) c s' => c.1 = none ∧ s' = (⟨hp, g, d, tk, os⟩ : Shared) ∧
      ∃ us vs is' js', rest = us.zip vs ∧ IntsAre us is' ∧ IntsAre vs js' ∧ (xs.size < ys.size ↔ us.length < vs.length) ∧ R (.ok (.ret (.bool (ltL is' js')))) ⟨hp, g, d, tk, os⟩) _
    case turn =>
      rintro ⟨y, x⟩ rest c s' ⟨hc, rfl, us, vs, is', js', hz, hu, hv, hs, hR⟩
      cases hu with
      | nil => cases hz
      | cons i t hu =>
        cases hv with
        | nil => cases hz
        | cons j t' hv =>
          rw [List.zip_cons_cons] at hz
          injection hz with e1 e2
          injection e1 with e3 e4
          subst e3 e4
          refine wpAny_bind (EqAt.int_int i t j t' prog w _ _ ?_)
          by_cases q : i = j
          · subst q
            have hR' := hR
            unfold ltL at hR'
            rw [if_pos rfl] at hR'
            rw [beq_self_eq_true]
            wp_walk
            exact ⟨rfl, rfl, _, _, _, _, e2, hu, hv, by simpa using hs, hR'⟩
          · have hR' := hR
            unfold ltL at hR'
            rw [if_neg q] at hR'
            rw [beq_eq_false_iff_ne.mpr q]
            wp_walk using rc_lt
            exact ⟨_, rfl, hR'⟩
    case fin =>
      rintro ⟨b1, b2⟩ s' ⟨hc, rfl, us, vs, is', js', hz, hu, hv, hs, hR⟩
      simp only at hc
      subst hc
      have e : ltL is' js' = decide (xs.size < ys.size) := by
        cases hu with
        | nil =>
          cases hv with
          | nil => unfold ltL; rw [decide_eq_false (fun z => by have := hs.mp z; simp at this)]
          | cons _ _ _ => unfold ltL; rw [decide_eq_true (hs.mpr (by simp))]
        | cons _ _ _ =>
          cases hv with
          | nil => unfold ltL; rw [decide_eq_false (fun z => by have := hs.mp z; simp at this)]
          | cons _ _ _ => cases hz
      rw [e] at hR
      wp_walk
      exact ⟨_, rfl, by simpa [Builtin.Tuple.tupleCompareSizes] using hR⟩
    case h =>
      exact ⟨rfl, rfl, _, _, _, _, rfl, hx, hy, by simp, h⟩
section
variable {prog : Program} {w : World} {A : Around} {E : Value → Shared → Prop} {s : Shared}
theorem tup_lt {l b : Addr} {xs ys : Array Value} {is js : List Int} {Q : Value → Shared → Prop} (hl : s.heap.IsTuple l xs) (hb : s.heap.IsTuple b ys) (hx : IntsAre xs.toList is) (hy : IntsAre ys.toList js) (hu : A.units < cLine)
    (h : Q (.bool (ltL is js)) s) : wpAny (model prog w) A (richCompare .Lt (.ref l) (.ref b)) Q E s := by
  obtain ⟨⟨c1, d1, t1, z1⟩, o1, k1, n, e1⟩ := id hl
  obtain ⟨⟨c2, d2, t2, z2⟩, o2, k2, m, e2⟩ := id hb
  simp only at k1 e1 k2 e2
  subst k1 e1 k2 e2
  exact richCompare_meets_room (op := .Lt) ⟨_, o1, rfl⟩ ⟨_, o2, rfl⟩ F.slot_tuple_lt F.entry_tuple_lt (F.args_tuple_lt_2 _ _) (tup_lt_meets l b xs ys n m d1 d2 z1 z2 hx hy)
    ⟨o1, o2, show Value.bool (ltL is js) ≠ Value.notImplemented ∧ Q (.bool (ltL is js)) s from ⟨(fun x => nomatch x), h⟩⟩ hu
theorem ints_at {us : List Value} {is : List Int} (h : IntsAre us is) : ∀ (j : Nat) (h1 : j < us.length), ∃ t, us[j] = .int (is.getD j 0) t := by
  induction h with
  | nil => intro j h1; simp at h1
  | cons n t h ih =>
    intro j h1
    cases j with
    | zero => exact ⟨t, rfl⟩
    | succ j =>
      obtain ⟨t', e⟩ := ih j (by simpa using h1)
      exact ⟨t', by simpa using e⟩
theorem all_eq : ∀ (is js : List Int), ((List.range (min is.length js.length)).all (fun j => is.getD j 0 == js.getD j 0) && is.length == js.length) = decide (is = js)
  | [], [] => rfl
  | [], b :: js => by simp
  | a :: is, [] => by simp
  | a :: is, b :: js => by
    have ih := all_eq is js
    have e : min (a :: is).length (b :: js).length = min is.length js.length + 1 := by simp
    rw [e, List.range_succ_eq_map, List.all_cons, List.all_map]
    have e2 : ((fun j => (a :: is).getD j 0 == (b :: js).getD j 0) ∘ Nat.succ) = fun j => is.getD j 0 == js.getD j 0 := by
      funext j; simp
    have e3 : ((a :: is).length == (b :: js).length) = (is.length == js.length) := by simp
    rw [e2, e3, Bool.and_assoc, ih]
    by_cases q : a = b
    · subst q; simp
    · simp [q]
theorem tup_eq {l b : Addr} {xs ys : Array Value} {is js : List Int} (hl : s.heap.IsTuple l xs) (hb : s.heap.IsTuple b ys) (hx : IntsAre xs.toList is) (hy : IntsAre ys.toList js) (hu : A.units < cLine) :
    EqAt A s (.ref l) (.ref b) (decide (is = js)) := by
  by_cases q : l = b
  · subst q
    have e1 : is = js := by
      obtain ⟨o, h1, _, n, h2⟩ := hl
      obtain ⟨o', h1', _, n', h2'⟩ := hb
      rw [h1] at h1'; cases h1'
      rw [h2] at h2'; cases h2'
      exact hx.nums.symm.trans hy.nums
    rw [decide_eq_true e1]
    exact EqAt.same _
  · have lx : is.length = xs.size := by have := hx.length; rw [Array.length_toList] at this; omega
    have ly : js.length = ys.size := by have := hy.length; rw [Array.length_toList] at this; omega
    rw [← all_eq is js, lx, ly]
    refine EqAt.of_refs q (RcAt.tuples hl hb hu fun j h1 h2 => ?_)
    obtain ⟨t, e1⟩ := ints_at hx j (by simpa using h1)
    obtain ⟨t', e2⟩ := ints_at hy j (by simpa using h2)
    rw [Array.getElem_toList] at e1 e2
    rw [e1, e2]
    exact EqAt.int_int _ _ _ _
end
end Sim
namespace Sim
open PySem PyProof.Rows PySem.W
section
variable {M : Model} {Γ : Ctx} {s1 s2 : Shared} {kd : SortKind}
theorem sim_beyond (hK : KeysSim M Γ s1 s2 kd) {l : Bool} {k : Keyed} {arr : Array Keyed} {b i : Nat} : Sim M Γ s1 s2 kd (beyond' l k arr b i) := by
  unfold beyond'
  repeat' (first
    | with_reducible exact sim_pure _
    | with_reducible exact sim_lt hK _ _
    | with_reducible exact sim_elem
    | with_reducible refine sim_bind ?_ fun _ => ?_
    | with_reducible refine sim_ite (fun _ => ?_) fun _ => ?_
    | dsimp only
    | split)
theorem sim_gallop (hK : KeysSim M Γ s1 s2 kd) (l : Bool) (k : Keyed) (arr : Array Keyed) (b n h : Nat) : Sim M Γ s1 s2 kd (gallop' l k arr b n h) := by
  rw [gallop'_eq]
  repeat' (first
    | with_reducible exact sim_pure _
    | with_reducible exact sim_beyond hK
    | with_reducible refine sim_range fun _ _ => ?_
    | with_reducible refine sim_bind ?_ fun _ => ?_
    | with_reducible refine sim_ite (fun _ => ?_) fun _ => ?_
    | dsimp only
    | split)
theorem sim_count (hK : KeysSim M Γ s1 s2 kd) (lo n : Nat) : Sim M Γ s1 s2 kd (countRun' lo n) := by
  rw [countRun'_eq]
  repeat' (first
    | with_reducible exact sim_pure _
    | with_reducible exact sim_ltAt hK _ _
    | with_reducible exact sim_rule
    | with_reducible exact sim_rev
    | with_reducible refine sim_range fun _ _ => ?_
    | with_reducible refine sim_bind ?_ fun _ => ?_
    | with_reducible refine sim_ite (fun _ => ?_) fun _ => ?_
    | dsimp only
    | split)
theorem sim_minGallop {g : Nat} : Sim M Γ s1 s2 kd (setMinGallop' g) := by
  rw [setMinGallop'_eq]; exact sim_modify fun _ => rfl
theorem sim_mergeLo (hK : KeysSim M Γ s1 s2 kd) (a b : Array Keyed) : Sim M Γ s1 s2 kd (mergeLo' a b) := by
  rw [mergeLo'_eq]
  repeat' (first
    | with_reducible exact sim_pure _
    | with_reducible exact sim_lt hK _ _
    | with_reducible exact sim_gallop hK _ _ _ _ _ _
    | with_reducible exact sim_elem
    | with_reducible exact sim_rule
    | with_reducible exact sim_minGallop
    | with_reducible exact sim_unsupported
    | with_reducible exact sim_get0
    | with_reducible refine sim_range fun _ _ => ?_
    | with_reducible refine sim_bind ?_ fun _ => ?_
    | with_reducible refine sim_ite (fun _ => ?_) fun _ => ?_
    | dsimp only
    | split)
theorem sim_mergeHi (hK : KeysSim M Γ s1 s2 kd) (a b : Array Keyed) : Sim M Γ s1 s2 kd (mergeHi' a b) := by
  rw [mergeHi'_eq]
  repeat' (first
    | with_reducible exact sim_pure _
    | with_reducible exact sim_lt hK _ _
    | with_reducible exact sim_gallop hK _ _ _ _ _ _
    | with_reducible exact sim_elem
    | with_reducible exact sim_rule
    | with_reducible exact sim_minGallop
    | with_reducible exact sim_unsupported
    | with_reducible exact sim_get0
    | with_reducible refine sim_range fun _ _ => ?_
    | with_reducible refine sim_bind ?_ fun _ => ?_
    | with_reducible refine sim_ite (fun _ => ?_) fun _ => ?_
    | dsimp only
    | split)
theorem sim_mergeAt (hK : KeysSim M Γ s1 s2 kd) (i : Nat) : Sim M Γ s1 s2 kd (mergeAt' i) := by
  rw [mergeAt'_eq]
  refine sim_get fun st hk => ?_
  repeat' (first
    | with_reducible exact sim_pure _
    | with_reducible exact sim_mergeLo hK _ _
    | with_reducible exact sim_mergeHi hK _ _
    | with_reducible exact sim_gallop hK _ _ _ _ _ _
    | with_reducible exact sim_elem
    | with_reducible exact sim_rule
    | with_reducible exact sim_set hk
    | with_reducible exact sim_unsupported
    | with_reducible exact sim_modify fun _ => rfl
    | with_reducible exact sim_get0
    | with_reducible refine sim_bind ?_ fun _ => ?_
    | with_reducible refine sim_ite (fun _ => ?_) fun _ => ?_
    | dsimp only
    | split)
theorem sim_runs (hK : KeysSim M Γ s1 s2 kd) : Sim M Γ s1 s2 kd sortRuns' := by
  rw [sortRuns'_eq]
  repeat' (first
    | with_reducible exact sim_pure _
    | with_reducible exact sim_count hK _ _
    | with_reducible exact sim_binary hK _ _ _
    | with_reducible exact sim_mergeAt hK _
    | with_reducible exact sim_rule
    | with_reducible exact sim_modify fun _ => rfl
    | with_reducible exact sim_get0
    | with_reducible refine sim_range fun _ _ => ?_
    | with_reducible refine sim_bind ?_ fun _ => ?_
    | with_reducible refine sim_ite (fun _ => ?_) fun _ => ?_
    | dsimp only
    | split)
end
def nought : Value := .int 0 0
def zeros (r : Nat) : Obj := seqObj "tuple" (Array.replicate r nought) 0
def gone : Obj := { cls := .none, data := .freed }
def heapZ (N : Nat) (rank : Addr → Option Nat) : Heap := { objs := Array.ofFn (n := N) fun i => match rank i.val with | some r => zeros r | none => gone }
theorem heapZ_get {N : Nat} {rank : Addr → Option Nat} {a : Addr} {o : Obj} (h : (heapZ N rank).get? a = some o) : ∃ r, a < N ∧ rank a = some r ∧ o = zeros r := by
  unfold Heap.get? heapZ at h
  simp only [Array.getElem?_ofFn] at h
  by_cases q : a < N
  · rw [dif_pos q] at h
    cases e : rank a with
    | none => simp [e, gone] at h
    | some r => simp [e, zeros, seqObj] at h; exact ⟨r, q, rfl, by rw [← h]; rfl⟩
  · rw [dif_neg q] at h; cases h
theorem heapZ_at {N : Nat} {rank : Addr → Option Nat} {a : Addr} {r : Nat} (h : a < N) (e : rank a = some r) : (heapZ N rank).get? a = some (zeros r) := by
  unfold Heap.get? heapZ
  simp only [Array.getElem?_ofFn]
  rw [dif_pos h]
  simp [e, zeros, seqObj]
section
variable {M : Model} {Γ : Ctx} {E : Value → Pos → Shared → Prop} {p : Pos} {s : Shared}
theorem wp_items {x : Value} {P : Array Value → Pos → Shared → Prop} (h : Sem.wp M Γ (Builtin.List.listItems x) P E p s) : ∃ a o xs n, x = .ref a ∧ s.heap.get? a = some o ∧ o.data = .seq xs n ∧ P xs p s := by
  unfold Builtin.List.listItems at h
  rw [Sem.wp_bind'] at h
  unfold seqItems? at h
  cases x with
  | ref a =>
    dsimp only at h
    rw [Sem.wp_bind'] at h
    obtain ⟨o, ho, h⟩ := (show ∃ o, s.heap.get? a = some o ∧ _ from h)
    cases hd : o.data with
    | seq xs n =>
      have h' := h
      rw [Sem.wp_pure] at h'
      simp only [hd] at h'
      rw [Sem.wp_pure', Sem.wp_pure'] at h'
      exact ⟨a, o, xs, n, rfl, ho, hd, h'⟩
    | _ =>
      exfalso
      have h' := h
      rw [Sem.wp_pure] at h'
      simp only [hd] at h'
      rw [Sem.wp_pure'] at h'
      exact h'
  | builtin id =>
    exfalso
    dsimp only at h
    rw [Sem.wp_bind'] at h
    unfold notAStandIn at h
    dsimp only at h
    split at h
    · exact h
    · rw [Sem.wp_pure', Sem.wp_pure'] at h
      exact h
  | _ =>
    exfalso
    exact h
theorem wp_itemsM {a : Addr} {o : Obj} {xs : Array Value} {n : Nat} {P : Array Value → Pos → Shared → Prop} (ho : s.heap.get? a = some o) (hd : o.data = .seq xs n) (h : P xs p s) : Sem.wp M Γ (Builtin.List.listItems (.ref a)) P E p s := by
  unfold Builtin.List.listItems
  rw [Sem.wp_bind']
  unfold seqItems?
  dsimp only
  rw [Sem.wp_bind']
  refine (show ∃ o, s.heap.get? a = some o ∧ _ from ⟨o, ho, ?_⟩)
  rw [Sem.wp_pure]
  simp only [hd]
  rw [Sem.wp_pure', Sem.wp_pure']
  exact h
theorem wp_same {v : Value} {P : Bool → Pos → Shared → Prop} : Sem.wp M Γ (eqBool v v) P E p s = P true p s := by
  unfold eqBool
  rw [Sem.wp_holding, if_pos (beq_self_eq_true v)]
  rfl
theorem wp_noughts {P : Option Bool × Unit → Pos → Shared → Prop} {b : Bool} {body : (Value × Value) × Nat → Option Bool × Unit → Sem (ForInStep (Option Bool × Unit))}
    (hb : ∀ i P p, Sem.wp M Γ (body ((nought, nought), i) (none, ())) P E p s = P (.yield (none, ())) p s) :
    ∀ (l : List (Value × Value)) (i : Nat) (p : Pos), (∀ z ∈ l, z = (nought, nought)) → Sem.wp M Γ (forIn (l.zipIdx i) (none, ()) body) P E p s = P (none, ()) p s
  | [], i, p, _ => by rw [List.zipIdx_nil, List.forIn_nil, Sem.wp_pure']
  | z :: r, i, p, h => by
    rw [List.zipIdx_cons, List.forIn_cons, h z List.mem_cons_self, Sem.wp_bind', hb]
    exact wp_noughts (b := b) hb r (i + 1) p fun y hy => h y (List.mem_cons_of_mem _ hy)
end
theorem keyLt_zeros {M : Model} {Γ : Ctx} {E : Value → Pos → Shared → Prop} {p : Pos} {s : Shared} {N : Nat} {rank : Addr → Option Nat} {b : Bool} (x y : Value) (P : Bool → Pos → Shared → Prop) (hs : s.heap = heapZ N rank) :
    Sem.wp M Γ (keyLt' (tuples' b) x y) P E p s ↔ ∃ a c n m, x = .ref a ∧ y = .ref c ∧ a < N ∧ c < N ∧ rank a = some n ∧ rank c = some m ∧ P (decide (n < m)) p s := by
  have zeros : ∀ n m : Nat, ∀ z ∈ (Array.replicate n nought).toList.zip (Array.replicate m nought).toList, z = (nought, nought) := fun n m => by
    rintro ⟨u, v⟩ hz
    obtain ⟨h1, h2⟩ := List.of_mem_zip hz
    rw [Array.toList_replicate] at h1 h2
    rw [List.eq_of_mem_replicate h1, List.eq_of_mem_replicate h2]
  rw [kat_lt_eq]
  constructor
  · intro h
    rw [Sem.wp_bind'] at h
    obtain ⟨a, o, xs, n, rfl, ho, hd, h⟩ := wp_items h
    rw [Sem.wp_bind'] at h
    obtain ⟨c, o', ys, n', rfl, ho', hd', h⟩ := wp_items h
    rw [hs] at ho ho'
    obtain ⟨r, l1, e1, rfl⟩ := heapZ_get ho
    obtain ⟨q, l2, e2, rfl⟩ := heapZ_get ho'
    cases hd
    cases hd'
    rw [Sem.wp_bind', wp_noughts (b := b)] at h
    · dsimp only at h
      rw [Sem.wp_pure', Array.size_replicate, Array.size_replicate] at h
      exact ⟨a, c, r, q, rfl, rfl, l1, l2, e1, e2, h⟩
    · intro i P p
      dsimp only
      rw [Sem.wp_bind', wp_same]
      rfl
    · exact zeros r q
  · rintro ⟨a, c, n, m, rfl, rfl, l1, l2, e1, e2, h⟩
    rw [Sem.wp_bind']
    refine wp_itemsM (by rw [hs]; exact heapZ_at l1 e1) rfl ?_
    rw [Sem.wp_bind']
    refine wp_itemsM (by rw [hs]; exact heapZ_at l2 e2) rfl ?_
    rw [Sem.wp_bind', wp_noughts (b := b)]
    · dsimp only
      rw [Sem.wp_pure', Array.size_replicate, Array.size_replicate]
      exact h
    · intro i P p
      dsimp only
      rw [Sem.wp_bind', wp_same]
      rfl
    · exact zeros n m
@[reducible] def rankKind (N : Nat) (rank : Addr → Option Nat) : PyProof.Rows.KeyKind where
  α := Nat
  blt a b := decide (a < b)
  irrefl a := by simp
  trans a b c h1 h2 := by simp at h1 h2 ⊢; omega
  negTrans a b c h := by simp at h ⊢; omega
  total a b h1 h2 := by simp at h1 h2; omega
  keyOf v := match v with
    | .ref a => if a < N then rank a else none
    | _ => none
  dflt := 0
theorem rank_key {N : Nat} {rank : Addr → Option Nat} {v : Value} {n : Nat} (h : (rankKind N rank).keyOf v = some n) : ∃ a, v = .ref a ∧ a < N ∧ rank a = some n := by
  cases v with
  | ref a =>
    have h' : (if a < N then rank a else none) = some n := h
    by_cases q : a < N
    · rw [if_pos q] at h'; exact ⟨a, rfl, q, h'⟩
    · rw [if_neg q] at h'; cases h'
  | _ => cases h
theorem rank_of {N : Nat} {rank : Addr → Option Nat} {a : Addr} {n : Nat} (q : a < N) (h : rank a = some n) : (rankKind N rank).keyOf (.ref a) = some n := by
  show (if a < N then rank a else none) = some n
  rw [if_pos q]; exact h
theorem sort_ranked {prog : Program} {w : World} {A : Around} {E : Value → Shared → Prop} {s : Shared} {N : Nat} {rank : Addr → Option Nat} {pairs : Array Keyed} {Q : Unit → SortSt → Prop}
    (hlt : ∀ (a c : Addr) (n m : Nat) (E : Value → Shared → Prop) (Q : Bool → Shared → Prop), a < N → c < N → rank a = some n → rank c = some m → Q (decide (n < m)) s → wpAny (model prog w) A (keyLt' (tuples' true) (.ref a) (.ref c)) Q E s)
    (hkeys : ∀ p ∈ pairs.toList, ∃ a n, p.1 = .ref a ∧ a < N ∧ rank a = some n) (h2 : 2 ≤ pairs.size)
    (h : ∀ st', (arrOf st').Perm pairs → failedOf st' = none → SortedToK (rankKind N rank) (arrOf st') pairs.size → Q () st') :
    wpS (model prog w) A E s sortRuns' Q (SortSt.mk' (tuples' true) pairs #[] 7 none) := by
  have hO : G.LtAt prog w { s with heap := heapZ N rank } (rankKind N rank) (tuples' true) := by
    intro A' E' x y n m Q' hx hy hq Γ p hΓ
    obtain ⟨a, rfl, l1, e1⟩ := rank_key hx
    obtain ⟨c, rfl, l2, e2⟩ := rank_key hy
    exact (keyLt_zeros (N := N) (rank := rank) (.ref a) (.ref c) _ rfl).mpr ⟨a, c, n, m, rfl, rfl, l1, l2, e1, e2, hq⟩
  have h0 : KeysOf (rankKind N rank) pairs := fun p hp => by
    obtain ⟨a, n, e, l, r⟩ := hkeys p hp
    exact ⟨n, by rw [e]; exact rank_of l r⟩
  have run := G.wpS_sortRunsSt (prog := prog) (w := w) (A := A) (E := fun _ _ => False) (s := { s with heap := heapZ N rank }) (κ := rankKind N rank) (kd := tuples' true) (a₀ := pairs) (st := SortSt.mk' (tuples' true) pairs #[] 7 none)
    (Q := fun _ st' => (arrOf st').Perm pairs ∧ failedOf st' = none ∧ SortedToK (rankKind N rank) (arrOf st') pairs.size) hO h0 ⟨Array.Perm.refl _, rfl, rfl⟩ rfl (Stable.refl _) h2 fun st' a1 a2 a3 _ => ⟨a1, a2, a3⟩
  intro Γ p hΓ
  have hK : KeysSim (model prog w) Γ { s with heap := heapZ N rank } s (tuples' true) := by
    intro x y P1 E1 p1 hw
    obtain ⟨a, c, n, m, rfl, rfl, l1, l2, e1, e2, hq⟩ := (keyLt_zeros (N := N) (rank := rank) x y P1 rfl).mp hw
    refine ⟨decide (n < m), p1, hq, fun P2 E2 p2 k => ?_⟩
    have z := hlt a c n m (fun _ _ => False) (fun b s' => b = decide (n < m) ∧ s' = s) l1 l2 e1 e2 ⟨rfl, rfl⟩ Γ p2 hΓ
    exact Sem.wp_mono _ Γ _ (fun b p' s' ⟨h1, h2⟩ => by rw [h1, h2]; exact k p') (fun _ _ _ z => z.elim) p2 s z
  obtain ⟨r, p1, _, ⟨_, hq⟩, g⟩ := sim_runs hK _ rfl _ _ _ (run Γ p hΓ)
  exact g _ _ _ fun p' => ⟨rfl, h r.2 hq.1 hq.2.1 hq.2.2⟩
end Sim
namespace L2
open PySem PySem.Spec PyProof.Rows Sim
theorem countP_lt {α : Type} {p q : α → Bool} : ∀ {l : List α}, (∀ x ∈ l, p x = true → q x = true) → (∃ x ∈ l, q x = true ∧ p x = false) → l.countP p < l.countP q
  | [], _, ⟨x, h, _⟩ => by cases h
  | a :: l, hs, ⟨x, hx, h1, h2⟩ => by
    have le : ∀ {l : List α}, (∀ x ∈ l, p x = true → q x = true) → l.countP p ≤ l.countP q := fun h => List.countP_mono_left h
    rw [List.countP_cons, List.countP_cons]
    have hl : ∀ y ∈ l, p y = true → q y = true := fun y hy => hs y (List.mem_cons_of_mem _ hy)
    rcases List.mem_cons.mp hx with rfl | hx
    · rw [h1, h2]
      have := le hl
      simp
      omega
    · have ih := countP_lt hl ⟨x, hx, h1, h2⟩
      have := hs a List.mem_cons_self
      cases ha : p a with
      | false =>
        simp
        omega
      | true =>
        rw [this ha]
        simp
        omega
def rkOf (lt : Addr → Addr → Bool) (ws : List Addr) (a : Addr) : Nat := ws.countP fun b => lt b a
theorem rk_lt {lt : Addr → Addr → Bool} {ws : List Addr} (irr : ∀ a ∈ ws, lt a a = false) (tr : ∀ a b c, a ∈ ws → b ∈ ws → c ∈ ws → lt a b = true → lt b c = true → lt a c = true)
    (tot : ∀ a b, a ∈ ws → b ∈ ws → a ≠ b → lt a b = true ∨ lt b a = true) {a b : Addr} (ha : a ∈ ws) (hb : b ∈ ws) : decide (rkOf lt ws a < rkOf lt ws b) = lt a b := by
  have key : ∀ {a b : Addr}, a ∈ ws → b ∈ ws → lt a b = true → rkOf lt ws a < rkOf lt ws b := fun {a b} ha hb h =>
    countP_lt (fun x hx h1 => tr x a b hx ha hb h1 h) ⟨a, ha, h, irr a ha⟩
  cases q : lt a b with
  | true => exact decide_eq_true (key ha hb q)
  | false =>
    refine decide_eq_false fun h => ?_
    by_cases e : a = b
    · subst e; exact Nat.lt_irrefl _ h
    · rcases tot a b ha hb e with z | z
      · rw [q] at z; cases z
      · exact absurd (key hb ha z) (Nat.not_lt.mpr (Nat.le_of_lt h))
theorem vals_refs : ∀ {ws : List Addr} {us : List Value}, Vals (ws.map V.ref) us → us = ws.map Value.ref
  | [], _, .nil => rfl
  | a :: ws, _, .cons r t => by
    cases r
    rw [vals_refs t]
    rfl
theorem refs_vals : ∀ (ws : List Addr), Vals (ws.map V.ref) (ws.map Value.ref)
  | [] => .nil
  | a :: ws => .cons rfl (refs_vals ws)
theorem vals_intsAre : ∀ {ns : List Int} {us : List Value}, Vals (ns.map V.int) us → IntsAre us ns
  | [], _, .nil => .nil
  | n :: ns, _, .cons ⟨t, e⟩ r => by
    subst e
    exact .cons n t (vals_intsAre r)
section
variable {X : Cx} {pins : List (Addr × Obj)} {σ : St} {H : Hp} {s : Shared}
theorem key_lt {A : Around} {t u a b : Addr} {i j : Int} {xs ys : List Int} {E : Value → Shared → Prop} {Q : Bool → Shared → Prop} (I : Inv X pins σ H s) (hu : A.units < cLine)
    (ht : H t = some (.tup [.int i, .ref a])) (hu' : H u = some (.tup [.int j, .ref b])) (ha : SqT X.K H a (xs.map V.int)) (hb : SqT X.K H b (ys.map V.int))
    (h : Q (decide (i < j) || (decide (i = j) && ltL xs ys)) s) : wpAny (model X.prog X.w) A (keyLt' (tuples' true) (.ref t) (.ref u)) Q E s := by
  obtain ⟨us, r1, ⟨o1, e1, c1, n1, d1⟩, _⟩ := I.tuple (SqT.of ht)
  obtain ⟨vs, r2, ⟨o2, e2, c2, n2, d2⟩, _⟩ := I.tuple (SqT.of hu')
  obtain ⟨us', ra, ta, _⟩ := I.tuple ha
  obtain ⟨vs', rb, tb, _⟩ := I.tuple hb
  cases r1 with
  | cons q1 r1 =>
  cases r1 with
  | cons q1' r1 =>
  cases r1
  cases r2 with
  | cons q2 r2 =>
  cases r2 with
  | cons q2' r2 =>
  cases r2
  obtain ⟨t1, rfl⟩ := q1
  obtain ⟨t2, rfl⟩ := q2
  cases q1'
  cases q2'
  refine PySem.W.kat_lt e1 d1 e2 d2 ?_
  show PySem.W.KatLex X.prog X.w A true _ Q [(Value.int i t1, Value.int j t2), (Value.ref a, Value.ref b)] 0 s
  refine PySem.W.kat_cons (SeqAt.EqAt.int_int i t1 j t2 X.prog X.w _ _ (PySem.W.kat_go (fun e => ?_) fun e => ?_))
  · have e' : i = j := eq_of_beq e
    subst e'
    have h' : Q (ltL xs ys) s := by
      have z : (decide (i < i) || (decide (i = i) && ltL xs ys)) = ltL xs ys := by simp
      rw [z] at h; exact h
    refine PySem.W.kat_yes (PySem.W.kat_cons (tup_eq (A := A) ta tb (by simpa using vals_intsAre ra) (by simpa using vals_intsAre rb) hu X.prog X.w _ _ (PySem.W.kat_go (fun e => ?_) fun e => ?_)))
    · have e' : xs = ys := of_decide_eq_true e
      subst e'
      refine PySem.W.kat_yes (PySem.W.kat_nil ?_)
      have z : ltL xs xs = false := by
        have : ∀ l : List Int, ltL l l = false := by
          intro l
          induction l with
          | nil => rfl
          | cons x l ih => unfold ltL; rw [if_pos rfl]; exact ih
        exact this xs
      rw [z] at h'
      exact h'
    · refine PySem.W.kat_no ?_
      refine PySem.W.kat_one _ _ (show wpAny (model X.prog X.w) A (richCompare .Lt (.ref a) (.ref b)) _ _ s from tup_lt ta tb (by simpa using vals_intsAre ra) (by simpa using vals_intsAre rb) hu h')
  · have e' : ¬ i = j := fun z => by rw [z, beq_self_eq_true] at e; cases e
    have h' : Q (decide (i < j)) s := by
      have z : (decide (i < j) || (decide (i = j) && ltL xs ys)) = decide (i < j) := by simp [e']
      rw [z] at h; exact h
    exact PySem.W.kat_no (oneLt_int h')
end
section
variable {X : Cx} {pins : List (Addr × Obj)} {σ : St} {H : Hp} {s : Shared}
theorem Inv.track {T : Addr} {ob : HO} (I : Inv X pins σ H s) (hf : FpOk X pins H T) (hx : T ∉ X.ex) (new : ObjOk X.prog X.w (upd H T ob) s.heap T ob) : Inv X pins σ (upd H T ob) s := by
  obtain ⟨f0, f1, f2, f3, f4, f5⟩ := hf
  have ge : X.s_0.heap.objs.size ≤ T := f3.resolve_left hx
  have ne0 : ∀ b o, X.s_0.heap.get? b = some o → b ≠ T := fun b o e z => absurd (Nat.lt_of_lt_of_le (Heap.lt_size e) (by rw [z]; exact ge)) (Nat.lt_irrefl _)
  have neH : ∀ b u, H b = some u → b ≠ T := fun b u e => ne_of_none e f0
  refine ⟨I.ok, I.os, I.bare, ⟨I.base.keep, I.base.slot, fun b o e n hb => ?_, I.base.there, fun b xs e => ?_, fun b o u e => ?_, fun b ps e => ?_⟩, I.loc, I.cell, ?_, fun x c e => ?_, fun p hp => ?_, fun b u e => ?_, I.len⟩
  · rw [upd_ne (ne0 b o e)]; exact I.base.free b o e n hb
  · have q := I.base.tups b xs e
    rw [upd_ne (neH b _ q)]; exact q
  · have q := I.base.frzs b o u e
    rw [upd_ne (neH b _ q)]; exact q
  · obtain ⟨m, q⟩ := I.base.tbls b ps e
    exact ⟨m, by rw [upd_ne (neH b _ q)]; exact q⟩
  · rw [upd_ne (Ne.symm f1)]; exact I.free
  · rw [upd_ne (f4 x c e)]; exact I.freeC x c e
  · obtain ⟨a1, a2, a3⟩ := I.pin p hp
    exact ⟨a1, by rw [upd_ne (f5 p hp)]; exact a2, a3⟩
  · by_cases hb : b = T
    · subst hb
      rw [upd_same] at e
      cases e
      exact new
    · rw [upd_ne hb] at e
      exact (I.hok b u e).stay (fun c v _ q => q) (fun c q => by rw [upd_ne (neH c _ q)]; exact q) fun c xs q => by rw [upd_ne (neH c _ q)]; exact q
theorem Inv.pin1 {a : Addr} {o : Obj} (I : Inv X pins σ H s) (hf : FpOk X pins H a) (ho : s.heap.get? a = some o) (hd : ∀ v, o.data ≠ .cell v) : Inv X (pins ++ [(a, o)]) σ H s :=
  I.pins_of fun p hp => (List.mem_append.mp hp).elim (fun z => I.pin p (List.mem_append_right _ z)) fun z => by
    rw [List.mem_singleton.mp z]
    exact ⟨ho, hf.1, hf.2.1, hf.2.2.1, hd⟩
end
theorem perm_unmap {α β : Type} {f : α → β} {g : β → α} {l : List α} (hg : ∀ x ∈ l, g (f x) = x) {m : List β} (h : m.Perm (l.map f)) : (m.map g).Perm l ∧ m = (m.map g).map f := by
  have e : ∀ y ∈ m, f (g y) = y := fun y hy => by
    obtain ⟨x, hx, rfl⟩ := List.mem_map.mp (h.mem_iff.mp hy)
    rw [hg x hx]
  constructor
  · have h1 := h.map g
    rw [List.map_map] at h1
    have h2 : l.map (g ∘ f) = l := (List.map_congr_left (g := id) fun x hx => hg x hx).trans (List.map_id _)
    rw [h2] at h1
    exact h1
  · rw [List.map_map]
    exact ((List.map_congr_left (f := f ∘ g) (g := id) fun y hy => e y hy).trans (List.map_id _)).symm
def unref : Value × Value → Addr × Addr
  | (.ref t, .ref w) => (t, w)
  | _ => (0, 0)
def inref (p : Addr × Addr) : Value × Value := (.ref p.1, .ref p.2)
theorem zip_refs : ∀ (ts ws : List Addr), (ts.map Value.ref).zip (ws.map Value.ref) = (ts.zip ws).map inref
  | [], _ => rfl
  | _ :: _, [] => rfl
  | t :: ts, w :: ws => by
    rw [List.map_cons, List.map_cons, List.zip_cons_cons, List.zip_cons_cons, List.map_cons, zip_refs ts ws]
    rfl
section
variable {X : Cx} {pins : List (Addr × Obj)} {σ : St} {H : Hp} {s : Shared}
structure SortOf (K : PySem.W.Frag) (H : Hp) (ws : List Addr) (k : Addr → Int) (wd : Addr → List Int) (lt : Addr → Addr → Bool) : Prop where
  word : ∀ a ∈ ws, SqT K H a ((wd a).map V.int)
  eq : ∀ a ∈ ws, ∀ b ∈ ws, lt a b = (decide (k a < k b) || (decide (k a = k b) && ltL (wd a) (wd b)))
  irr : ∀ a ∈ ws, lt a a = false
  tr : ∀ a b c, a ∈ ws → b ∈ ws → c ∈ ws → lt a b = true → lt b c = true → lt a c = true
  tot : ∀ a b, a ∈ ws → b ∈ ws → a ≠ b → lt a b = true ∨ lt b a = true
  nd : ws.Nodup
theorem Same.tupl {K : PySem.W.Frag} {H H' : Hp} {a : Addr} {xs : List V} (e : Same H H') (h : SqT K H a xs) : SqT K H' a xs := by
  rcases h with (h | ⟨o, h⟩) | h
  · exact .inl (.inl (e _ _ h))
  · exact .inl (.inr ⟨o, e _ _ h⟩)
  · exact .inr h
theorem SortOf.same {K : PySem.W.Frag} {H H' : Hp} {ws : List Addr} {k : Addr → Int} {wd : Addr → List Int} {lt : Addr → Addr → Bool} (S : SortOf K H ws k wd lt) (e : Same H H') : SortOf K H' ws k wd lt :=
  ⟨fun a h => e.tupl (S.word a h), S.eq, S.irr, S.tr, S.tot, S.nd⟩
def KeysAt (H : Hp) (k : Addr → Int) (zs : List (Addr × Addr)) : Prop := ∀ p ∈ zs, H p.1 = some (.tup [.int (k p.2), .ref p.2])
theorem KeysAt.inj {k : Addr → Int} {zs : List (Addr × Addr)} (h : KeysAt H k zs) {t w w' : Addr} (a : (t, w) ∈ zs) (b : (t, w') ∈ zs) : w = w' := by
  have e1 : H t = some (.tup [.int (k w), .ref w]) := h (t, w) a
  have e2 : H t = some (.tup [.int (k w'), .ref w']) := h (t, w') b
  have e := e1.symm.trans e2
  simp at e
  exact e.2
theorem look_mem : ∀ {zs : List (Addr × Addr)} {t w : Addr}, zs.lookup t = some w → (t, w) ∈ zs
  | [], _, _, h => by cases h
  | (t0, w0) :: zs, t, w, h => by
    cases q : (t == t0) with
    | true =>
      simp only [List.lookup, q] at h
      rw [eq_of_beq q, Option.some.inj h]
      exact List.mem_cons_self
    | false =>
      simp only [List.lookup, q] at h
      exact List.mem_cons_of_mem _ (look_mem h)
theorem mem_look : ∀ {zs : List (Addr × Addr)} {t w : Addr}, (t, w) ∈ zs → ∃ w', zs.lookup t = some w'
  | [], _, _, h => by cases h
  | (t0, w0) :: zs, t, w, h => by
    by_cases q : t = t0
    · subst q
      exact ⟨w0, by simp [List.lookup]⟩
    · rcases List.mem_cons.mp h with e | h
      · cases e; exact absurd rfl q
      · obtain ⟨w', e⟩ := mem_look h
        refine ⟨w', ?_⟩
        have : (t == t0) = false := beq_eq_false_iff_ne.mpr q
        simp [List.lookup, this, e]
theorem sort_out {A : Around} {E : Value → Shared → Prop} {ws ts : List Addr} {k : Addr → Int} {wd : Addr → List Int} {lt : Addr → Addr → Bool} {Q : Unit → SortSt → Prop} (I : Inv X pins σ H s) (hu : A.units < cLine) (S : SortOf X.K H ws k wd lt)
    (hl : ts.length = ws.length) (hK : KeysAt H k (ts.zip ws)) (h2 : 2 ≤ ws.length)
    (h : ∀ st' (out : List Addr), out.Perm ws → out.Pairwise (fun a b => lt a b = true) → ((arrOf st').map (·.2)).toList = out.map Value.ref → failedOf st' = none → Q () st') :
    wpS (model X.prog X.w) A E s sortRuns' Q (SortSt.mk' (tuples' true) ((ts.map Value.ref).toArray.zip (ws.map Value.ref).toArray) #[] 7 none) := by
  have hz : ((ts.map Value.ref).toArray.zip (ws.map Value.ref).toArray).toList = (ts.zip ws).map inref := by
    rw [← zip_refs]; simp
  have hsz : ((ts.map Value.ref).toArray.zip (ws.map Value.ref).toArray).size = ws.length := by simp [hl]
  have memw : ∀ {p : Addr × Addr}, p ∈ ts.zip ws → p.2 ∈ ws := fun {p} hp => (List.of_mem_zip (show (p.1, p.2) ∈ ts.zip ws from hp)).2
  have rank_ok : ∀ {t w : Addr}, (t, w) ∈ ts.zip ws → ((ts.zip ws).lookup t).map (rkOf lt ws) = some (rkOf lt ws w) := fun {t w} hp => by
    obtain ⟨w', e⟩ := mem_look hp
    rw [e, hK.inj (look_mem e) hp]
    rfl
  refine sort_ranked (N := s.heap.objs.size) (rank := fun t => ((ts.zip ws).lookup t).map (rkOf lt ws)) (fun a c n m E' Q' _ _ ha hc hq => ?_) (fun p hp => ?_) (by rw [hsz]; exact h2) fun st' hp hf hs => ?_
  · obtain ⟨w1, e1, rfl⟩ := Option.map_eq_some_iff.mp ha
    obtain ⟨w2, e2, rfl⟩ := Option.map_eq_some_iff.mp hc
    have m1 := look_mem e1
    have m2 := look_mem e2
    rw [rk_lt S.irr S.tr S.tot (memw m1) (memw m2), S.eq _ (memw m1) _ (memw m2)] at hq
    exact key_lt I hu (hK _ m1) (hK _ m2) (S.word _ (memw m1)) (S.word _ (memw m2)) hq
  · rw [hz] at hp
    obtain ⟨⟨t, w⟩, hm, rfl⟩ := List.mem_map.mp hp
    exact ⟨t, _, rfl, I.hok.lt (hK _ hm), rank_ok hm⟩
  · have hpl := Array.perm_iff_toList_perm.mp hp
    rw [hz] at hpl
    obtain ⟨p1, p2⟩ := perm_unmap (f := inref) (g := unref) (fun _ _ => rfl) hpl
    have hperm : (((arrOf st').toList.map unref).map Prod.snd).Perm ws := by
      have := p1.map Prod.snd
      rw [List.map_snd_zip (by omega)] at this
      exact this
    refine h st' (((arrOf st').toList.map unref).map Prod.snd) hperm ?_ ?_ hf
    · rw [List.pairwise_iff_getElem]
      intro i j hi hj hij
      have hi' : i < (arrOf st').size := by simpa using hi
      have hj' : j < (arrOf st').size := by simpa using hj
      have sz : (arrOf st').size = ws.length := by rw [hp.size_eq, hsz]
      have q := hs i j (Nat.le_of_lt hij) (by rw [hsz, ← sz]; exact hj')
      have at_ : ∀ (n : Nat) (hn : n < (arrOf st').size), ∃ t w, (t, w) ∈ ts.zip ws ∧ (arrOf st')[n] = (Value.ref t, Value.ref w) := fun n hn => by
        have : (arrOf st')[n] ∈ (arrOf st').toList := by simp
        obtain ⟨⟨t, w⟩, hm, e⟩ := List.mem_map.mp (hpl.mem_iff.mp this)
        exact ⟨t, w, hm, e.symm⟩
      obtain ⟨t1, w1, m1, e1⟩ := at_ i hi'
      obtain ⟨t2, w2, m2, e2⟩ := at_ j hj'
      have kk : ∀ (n : Nat) (hn : n < (arrOf st').size) (t w : Addr), (t, w) ∈ ts.zip ws → (arrOf st')[n] = (Value.ref t, Value.ref w) → KK (rankKind s.heap.objs.size fun t => ((ts.zip ws).lookup t).map (rkOf lt ws)) (arrOf st') n = rkOf lt ws w := fun n hn t w hm e => by
        unfold KK
        rw [Array.getElem?_eq_getElem hn, e]
        have z : (rankKind s.heap.objs.size fun t => ((ts.zip ws).lookup t).map (rkOf lt ws)).keyOf (Value.ref t) = some (rkOf lt ws w) := rank_of (I.hok.lt (hK _ hm)) (rank_ok hm)
        show ((rankKind s.heap.objs.size fun t => ((ts.zip ws).lookup t).map (rkOf lt ws)).keyOf (Value.ref t)).getD _ = _
        rw [z]; rfl
      have q' : decide (rkOf lt ws w2 < rkOf lt ws w1) = false := by
        have z : decide (KK (rankKind s.heap.objs.size fun t => ((ts.zip ws).lookup t).map (rkOf lt ws)) (arrOf st') j < KK (rankKind s.heap.objs.size fun t => ((ts.zip ws).lookup t).map (rkOf lt ws)) (arrOf st') i) = false := q
        rw [kk j hj' t2 w2 m2 e2, kk i hi' t1 w1 m1 e1] at z
        exact z
      rw [rk_lt S.irr S.tr S.tot (memw m2) (memw m1)] at q'
      have f1 : (((arrOf st').toList.map unref).map Prod.snd)[i] = w1 := by simp [e1, unref]
      have f2 : (((arrOf st').toList.map unref).map Prod.snd)[j] = w2 := by simp [e2, unref]
      rw [f1, f2]
      have ne : w1 ≠ w2 := fun z => by
        have nd := hperm.nodup_iff.mpr S.nd
        have := (List.getElem_inj nd).mp (f1.trans (z.trans f2.symm))
        omega
      rcases S.tot w1 w2 (memw m1) (memw m2) ne with z | z
      · exact z
      · rw [q'] at z; cases z
    · rw [Array.toList_map]
      have e : (arrOf st').toList.map (fun p : Keyed => p.2) = (((arrOf st').toList.map unref).map inref).map (fun p : Keyed => p.2) := by rw [← p2]
      rw [e, List.map_map, List.map_map, List.map_map, List.map_map]
      rfl
end
end L2
namespace L2
open PySem PySem.Spec PyProof.Rows Sim
section
variable {X : Cx} {pins : List (Addr × Obj)} {σ : St} {H : Hp} {s : Shared} {A : Around} {E : Value → Shared → Prop} {P : PySem.Fin → Shared → Prop} {a kS : Addr} {e1 : Nat} {ws ts : List Addr} {k : Addr → Int} {wd : Addr → List Int} {lt : Addr → Addr → Bool}
theorem sort_tail {st : SortSt} {out : List Addr} (I : Inv X (pins ++ [(a, seqObj "list" #[] e1)]) σ H s) (hk : H kS = some (.lst (ts.map V.ref))) (hf : FpOk X pins H a) (hx : a ∉ X.ex) (hout : ((arrOf st).map (·.2)).toList = out.map Value.ref)
    (hfl : failedOf st = none) (hz : out.length ≤ sizeLine) (h : ∀ s', Inv X pins σ (upd (upd H kS (.lst [])) a (.lst (out.map V.ref))) s' → P (.done (.ret .none)) s') : wpAny (model X.prog X.w) A (ksk_tail a false e1 (.ref kS) st) P E s := by
  obtain ⟨z, its, n, r, hl, e⟩ := I.lstM hk
  unfold ksk_tail
  dsimp only
  refine wpAny_bind (listUpdate_at e rfl ?_ (by rw [List.size_toArray, ← hl]; exact z) (Nat.zero_le _))
  have I1 := I.lset (t' := s.toks) (f := fun _ => #[]) (its' := []) (ys := []) hk e rfl .nil (Nat.zero_le _)
  refine wpAny_bind (wpAny_letGo ?_)
  have pa := I1.pin (a, seqObj "list" #[] e1) (List.mem_append_right _ (List.mem_append_right _ (List.mem_singleton.mpr rfl)))
  refine wpAny_bind (seqEpoch_at pa.1 rfl ?_)
  have hsz : ((arrOf st).map (·.2)).size = out.length := by rw [← Array.length_toList, hout, List.length_map]
  refine wpAny_bind (listUpdate_at pa.1 rfl ?_ (Nat.zero_le _) (by
    show ((arrOf st).map (·.2)).size ≤ _
    rw [hsz]; exact Nat.le_succ_of_le hz))
  rw [hfl]
  simp only [bne_self_eq_false, if_neg Bool.false_ne_true]
  refine wpAny_pure (h _ ?_)
  have I2 := I1.unpinned
  have hf1 : FpOk X pins (upd H kS (.lst [])) a := ⟨pa.2.1, hf.2⟩
  obtain ⟨c2, hc2⟩ : ∃ c2, ((s.heap.update kS (Obj.mapSeq fun _ => (#[] : Array Value))).update a (Obj.mapSeq fun _ => (arrOf st).map (·.2))).get? a = some (seqObj "list" ((arrOf st).map (·.2)) c2) := ⟨_, get?_update_seq pa.1 fun _ => (arrOf st).map (·.2)⟩
  have I3 := I2.turnedL (t' := s.toks) (ch := [a]) (h' := (s.heap.update kS (Obj.mapSeq fun _ => (#[] : Array Value))).update a (Obj.mapSeq fun _ => (arrOf st).map (·.2))) (fun b o hb q => by
    rw [Heap.get?_update_ne _ _ _ _ (fun z => hb (List.mem_singleton.mpr z))]; exact q) fun b hb => by rw [List.mem_singleton.mp hb]; exact hf1
  refine I3.track hf1 hx ⟨by rw [List.length_map]; exact hz, out.map Value.ref, c2, refs_vals out, ?_⟩
  rw [hc2, ← hout, Array.toArray_toList] <;> rfl
theorem kat_ints : ∀ {ts ws : List Addr}, Inv X pins σ H s → ts.length = ws.length → KeysAt H k (ts.zip ws) → ∃ fs : List Value, PySem.W.KatTups s.heap (ts.map Value.ref) fs ∧ fs.length = ts.length ∧ ∀ v ∈ fs, ∃ i t, v = Value.int i t
  | [], _, _, _, _ => ⟨[], .nil, rfl, fun v h => by cases h⟩
  | t :: ts, [], _, hl, _ => by simp at hl
  | t :: ts, w :: ws, I, hl, hK => by
    obtain ⟨fs, h1, h2, h3⟩ := kat_ints (ts := ts) (ws := ws) I (by simpa using hl) fun p hp => hK p (by rw [List.zip_cons_cons]; exact List.mem_cons_of_mem _ hp)
    obtain ⟨us, r, ⟨o, e, c, n, d⟩, _⟩ := I.tuple (SqT.of (hK (t, w) (by rw [List.zip_cons_cons]; exact List.mem_cons_self)))
    cases r with
    | cons q r =>
      obtain ⟨tk, rfl⟩ := q
      refine ⟨_ :: fs, .cons e c d (by simp; rfl) h1, by simp [h2], fun v hv => ?_⟩
      rcases List.mem_cons.mp hv with z | hv
      · exact ⟨_, _, z⟩
      · exact h3 v hv
theorem sort_end (I : Inv X (pins ++ [(a, seqObj "list" #[] e1)]) σ H s) (hu : A.units < cLine) (hk : H kS = some (.lst (ts.map V.ref))) (hf : FpOk X pins H a) (hx : a ∉ X.ex) (S : SortOf X.K H ws k wd lt) (hl : ts.length = ws.length) (hK : KeysAt H k (ts.zip ws))
    (hz : ws.length ≤ sizeLine) (h : ∀ (out : List Addr) (s' : Shared), out.Perm ws → out.Pairwise (fun a b => lt a b = true) → Inv X pins σ (upd (upd H kS (.lst [])) a (.lst (out.map V.ref))) s' → P (.done (.ret .none)) s') :
    wpAny (model X.prog X.w) A (ksk_end a false (ws.map Value.ref).toArray e1 (.ref kS) (ts.map Value.ref).toArray) P E s := by
  unfold ksk_end
  dsimp only
  by_cases h2 : (ws.map Value.ref).toArray.size < 2
  · simp only [if_pos h2, StateT.run_pure]
    refine wpAny_bind (wpAny_pure (wpAny_bind (wpAny_pure ?_)))
    have h3 : ws.length < 2 := by simpa using h2
    refine sort_tail (out := ws) I hk hf hx ?_ rfl hz fun s' J => h ws s' (List.Perm.refl _) ?_ J
    · show (((ts.map Value.ref).toArray.zip (ws.map Value.ref).toArray).map (·.2)).toList = _
      rw [Array.toList_map]
      have : ((ts.map Value.ref).toArray.zip (ws.map Value.ref).toArray).toList = (ts.map Value.ref).zip (ws.map Value.ref) := by simp
      rw [this]
      exact List.map_snd_zip (by simp [hl])
    · match ws, h3 with
      | [], _ => exact List.Pairwise.nil
      | [x], _ => exact List.pairwise_singleton ..
      | _ :: _ :: _, h3 => simp at h3; omega
  · rw [if_neg h2, if_neg h2]
    have h3 : 2 ≤ ws.length := by simp at h2; omega
    obtain ⟨fs, k1, k2, k3⟩ := kat_ints I hl hK
    refine wpAny_bind (PySem.W.kat_kind (T := .type "int") k1 (by omega) (fun v hv => ?_) rfl ?_)
    · obtain ⟨i, t, rfl⟩ := k3 v hv
      exact .now
    · have e0 : tuples' (Value.type "int" != Value.type "tuple") = tuples' true := rfl
      rw [e0]
      refine wpAny_bind (wpAny_mono (sort_out (Q := fun _ st' => ∃ out : List Addr, out.Perm ws ∧ out.Pairwise (fun a b => lt a b = true) ∧ ((arrOf st').map (·.2)).toList = out.map Value.ref ∧ failedOf st' = none) I hu S hl hK h3
        fun st' out a1 a2 a3 a4 => ⟨out, a1, a2, a3, a4⟩) ?_ fun _ _ e => e)
      rintro ⟨⟨⟩, st'⟩ s' ⟨rfl, out, a1, a2, a3, a4⟩
      exact sort_tail I hk hf hx a3 a4 (by rw [a1.length_eq]; exact hz) fun s' J => h out s' a1 a2 J
end
section
variable {X : Cx} {pins : List (Addr × Obj)} {σ : St} {H H0 : Hp} {s : Shared} {E : Value → Shared → Prop} {P : PySem.Fin → Shared → Prop} {a kS f : Addr} {e1 : Nat} {ws : List Addr} {k : Addr → Int} {wd : Addr → List Int} {lt : Addr → Addr → Bool}
def KeyCall (X : Cx) (pins : List (Addr × Obj)) (σ : St) (H0 : Hp) (A : Around) (f : Addr) (ws : List Addr) (k : Addr → Int) : Prop :=
  ∀ (w : Addr) (pins' : List (Addr × Obj)) (s' : Shared) (H' : Hp), w ∈ ws → (∀ p ∈ pins, p ∈ pins') → Inv X pins' σ H' s' → Same H0 H' →
    codeAny (model X.prog X.w) A (.call (.ref f) ⟨[.ref w], []⟩) (CR CX0 X.stack X.prog X.w H' s' (fun v H2 => ∃ t, v = .ref t ∧ H' t = none ∧ H2 t = some (.tup [.int (k w), .ref w]) ∧ Same H' H2) E0) s'
theorem sort_rest {A : Around} (I : Inv X (pins ++ [(a, seqObj "list" #[] e1)]) σ H s) (hu : A.units < cLine) (hk : H kS = some (.lst [])) (n0 : H0 kS = none) (hS : Same H0 H) (hf : ∀ H', H' a = none → FpOk X pins H' a) (hx : a ∉ X.ex) (S : SortOf X.K H0 ws k wd lt)
    (hz : ws.length ≤ sizeLine) (hc : KeyCall X pins σ H0 A f ws k)
    (h : ∀ (out : List Addr) (s' : Shared) (H' : Hp), out.Perm ws → out.Pairwise (fun a b => lt a b = true) → Same H0 H' → Inv X pins σ (upd H' a (.lst (out.map V.ref))) s' → P (.done (.ret .none)) s') :
    wpAny (model X.prog X.w) A (ksk_rest a (.ref f) false (ws.map Value.ref).toArray e1 (.ref kS)) P E s := by
  unfold ksk_rest
  rw [List.forIn_toArray]
  refine wpAny_bind (wpAny_rule (wpAny_bind (ksk_fold (fun i s' => ∃ (H' : Hp) (ts : List Addr), Inv X (pins ++ [(a, seqObj "list" #[] e1)]) σ H' s' ∧ Same H0 H' ∧ H' kS = some (.lst (ts.map V.ref)) ∧ ts.length = (ws.take i).length ∧ KeysAt H' k (ts.zip (ws.take i))) (ws.map Value.ref) 0 s
    ⟨H, [], I, hS, hk, by simp, fun p hp => by cases hp⟩ ?step ?done)))
  case step =>
    rintro j x s' hj ⟨H', ts, I', hS', hk', hl', hK'⟩
    rw [Nat.zero_add] at hl' hK' ⊢
    rw [List.getElem?_map] at hj
    obtain ⟨w, hw, rfl⟩ := Option.map_eq_some_iff.mp hj
    have hjl : j < ws.length := (List.getElem?_eq_some_iff.mp hw).1
    refine wpAny_bind (wpAny_attempt (wpAny_call (codeAny_mono (hc w _ s' H' (List.mem_of_getElem? hw) (fun p hp => List.mem_append_left _ hp) I' hS') fun r s2 hq => ?_)))
    cases r with
    | error e => exact False.elim hq
    | ok fl =>
      cases fl with
      | next => exact False.elim hq
      | brk => exact False.elim hq
      | cont => exact False.elim hq
      | ret u =>
        obtain ⟨v, H2, I2, rv, t, rfl, nt, ht, hS2⟩ := I'.after hq
        cases rv
        dsimp only
        have hk2 := hS2 _ _ hk'
        obtain ⟨z, its, n, r, hl, e⟩ := I2.lstM hk2
        have lts : ts.length = j := by rw [hl', List.length_take]; omega
        have hits := vals_refs r
        refine wpAny_bind (listUpdate_at e rfl ?_ (by rw [List.size_toArray, ← hl]; exact z) (by
          rw [Array.size_push, List.size_toArray, ← hl, List.length_map, lts]
          exact Nat.le_trans (Nat.le_of_lt (Nat.lt_of_le_of_lt hjl (Nat.lt_succ_self _))) (Nat.succ_le_succ hz)))
        have I3 := I2.lset (t' := s2.toks) (f := (·.push (.ref t))) (its' := its ++ [.ref t]) (ys := ts.map V.ref ++ [.ref t]) hk2 e (by simp) (r.append (.cons (show RelV (V.ref t) (Value.ref t) from rfl) .nil)) (by
          rw [List.length_append, List.length_map, lts, List.length_singleton]; exact Nat.le_trans hjl hz)
        have etk : ws.take (j + 1) = ws.take j ++ [w] := by rw [List.take_add_one, hw]; rfl
        have nkt : t ≠ kS := fun q => by rw [q, hk'] at nt; cases nt
        refine wpAny_pure ⟨rfl, _, ts ++ [t], I3, fun b o eb => ?_, ?_, by rw [etk, List.length_append, List.length_append, hl'] <;> rfl, ?_⟩
        · rw [upd_ne (ne_of_none eb n0)]
          exact hS2 _ _ (hS' _ _ eb)
        · rw [upd_same, List.map_append] <;> rfl
        · intro p hp
          rw [etk, List.zip_append hl'] at hp
          rcases List.mem_append.mp hp with old | hp
          · have e0 := hK' p old
            rw [upd_ne (ne_of e0 hk' (fun q => nomatch q))]
            exact hS2 _ _ e0
          · have ep : p = (t, w) := by simpa using hp
            rw [ep, upd_ne nkt]
            exact ht
  case done =>
    rintro s' ⟨H', ts, I', hS', hk', hl', hK'⟩
    rw [Nat.zero_add, List.length_map, List.take_length] at hl' hK'
    obtain ⟨z, its, n, r, hl, e⟩ := I'.lstM hk'
    rw [vals_refs r] at e
    refine wpAny_bind (listItems_at e rfl ?_)
    have pa := I'.pin (a, seqObj "list" #[] e1) (List.mem_append_right _ (List.mem_append_right _ (List.mem_singleton.mpr rfl)))
    refine sort_end I' hu hk' (hf _ pa.2.1) hx (S.same hS') hl' hK' hz fun out s2 p1 p2 J => h out s2 (upd H' kS (.lst [])) p1 p2 (fun b o eb => ?_) J
    rw [upd_ne (ne_of_none eb n0)]
    exact hS' _ _ eb
theorem sorted_key {Q : VK} {l : Addr} {k' : Nat} (I : Inv X pins σ H s) (hex : ∀ b ∈ X.ex, b < s.heap.objs.size) (hr : Room k' X.A) (hl : SqL X.K H l (ws.map V.ref)) (S : SortOf X.K H ws k wd lt) (hc : KeyCall X pins σ H X.A.in1.in1 f ws k)
    (h : ∀ (out : List Addr) (H' : Hp) (p : Addr), out.Perm ws → out.Pairwise (fun a b => lt a b = true) → H p = none → Same H H' → H' p = some (.lst (out.map V.ref)) → Q (.ref p) H') :
    wpAny (model X.prog X.w) X.A (call (.builtin "sorted") [.ref l] [(Str.ofString "key", .ref f)]) (EP X pins σ Q) X.xe s := by
  obtain ⟨its, rv, pl, hz⟩ := I.list hl
  have hits := vals_refs rv
  subst hits
  rw [List.length_map] at hz
  have hz2 := hz
  rw [sizeLine_eq] at hz2
  have hun := hr.units
  have hu2 : X.A.in1.in1.units < cLine := Nat.lt_of_le_of_lt (show X.A.units + 2 ≤ X.A.units + 64 from Nat.add_le_add_left (by decide) _) hun
  refine call_function_entry_kw kind_sorted plain_sorted entry_sorted (ksk_s1 _ _) ?_
  unfold Builtin.«sorted»
  refine wpAny_bind (m := checkCount "sorted" 1 1 _) <| wpAny_pure <| wpAny_bind (collect_list pl.isList ?_ (by rw [List.length_map]; exact hz))
  refine wpAny_bind (wpAny_newList ?_ (by rw [List.length_map]; exact hz))
  have hsz : ((s.heap.push (seqObj "list" #[] 0)).update s.heap.objs.size (Obj.mapSeq (· ++ (ws.map Value.ref).toArray))).objs.size = s.heap.objs.size + 1 := by
    rw [Heap.size_update]; exact size_push' ..
  have keep : ∀ b o, s.heap.get? b = some o → (((s.heap.push (seqObj "list" #[] 0)).update s.heap.objs.size (Obj.mapSeq (· ++ (ws.map Value.ref).toArray))).push (seqObj "list" (ws.map Value.ref).toArray 0)).get? b = some o := fun b o q => by
    exact Heap.get?_push_of_some _ ((Heap.get?_update_ne _ _ _ _ (Nat.ne_of_lt (Heap.lt_size q))).trans (Heap.get?_push_of_some _ q))
  have hoL : (((s.heap.push (seqObj "list" #[] 0)).update s.heap.objs.size (Obj.mapSeq (· ++ (ws.map Value.ref).toArray))).push (seqObj "list" (ws.map Value.ref).toArray 0)).get? (s.heap.objs.size + 1) = some (seqObj "list" (ws.map Value.ref).toArray 0) := by
    exact hsz ▸ Heap.get?_push_size _ rfl
  show wpAny _ _ _ _ _ { s with heap := ((s.heap.push (seqObj "list" #[] 0)).update s.heap.objs.size (Obj.mapSeq (· ++ (ws.map Value.ref).toArray))).push (seqObj "list" (ws.map Value.ref).toArray 0) }
  rw [hsz]
  have nL : H (s.heap.objs.size + 1) = none := I.hok.fresh (Nat.le_succ _)
  have hfp : ∀ H', H' (s.heap.objs.size + 1) = none → FpOk X pins H' (s.heap.objs.size + 1) := fun H' n => I.fpOk (Nat.le_succ _) n
  have hxL : s.heap.objs.size + 1 ∉ X.ex := fun z => absurd (hex _ z) (Nat.not_lt.mpr (Nat.le_succ s.heap.objs.size))
  have I1 : Inv X pins σ H { s with heap := ((s.heap.push (seqObj "list" #[] 0)).update s.heap.objs.size (Obj.mapSeq (· ++ (ws.map Value.ref).toArray))).push (seqObj "list" (ws.map Value.ref).toArray 0), toks := s.toks } := I.kept keep
  generalize ((s.heap.push (seqObj "list" #[] 0)).update s.heap.objs.size (Obj.mapSeq (· ++ (ws.map Value.ref).toArray))).push (seqObj "list" (ws.map Value.ref).toArray 0) = hB at hoL keep I1 ⊢
  generalize ea : s.heap.objs.size + 1 = a at hoL nL hfp hxL ⊢
  refine wpAny_bind (wpAny_holding (wpAny_call_entry_kw slot_list_sort ⟨_, hoL, rfl⟩ entry_list_sort ?body (ksk_l1 _ _)))
  case body =>
    show wpAny (model X.prog X.w) X.A.in1.in1 (Builtin.«list.sort» ⟨[.ref a], [(Str.ofString "key", .ref f)]⟩) _ _ _
    rw [ksk_t1]
    unfold ksk_tree
    refine wpAny_bind (listItems_at hoL rfl ?_)
    refine wpAny_bind (listUpdate_at hoL rfl ?_ (by rw [List.size_toArray, List.length_map]; exact hz) (Nat.zero_le _))
    obtain ⟨e1, ho1⟩ : ∃ e1, (hB.update a (Obj.mapSeq fun _ => (#[] : Array Value))).get? a = some (seqObj "list" #[] e1) := ⟨_, get?_update_seq hoL fun _ => #[]⟩
    refine wpAny_bind <| seqEpoch_at ho1 rfl <| wpAny_bind (wpAny_newTuple ?_ (by show (ws.map Value.ref).length ≤ _; rw [List.length_map]; exact hz))
    refine wpAny_bind (wpAny_newList (wpAny_holding ?_) (Nat.zero_le _))
    have I2 := I1.turnedL (t' := s.toks) (ch := [a]) (h' := hB.update a (Obj.mapSeq fun _ => (#[] : Array Value))) (fun b o hb q => by
      rw [Heap.get?_update_ne _ _ _ _ (fun z => hb (List.mem_singleton.mpr z))]; exact q) fun b hb => by rw [List.mem_singleton.mp hb]; exact hfp _ nL
    have I3 := I2.pin1 (hfp _ nL) ho1 (fun v => fun z => nomatch z)
    have I4 := I3.kept (t' := s.toks) (h' := (hB.update a (Obj.mapSeq fun _ => (#[] : Array Value))).push (seqObj "tuple" (ws.map Value.ref).toArray 0)) fun b o q => Heap.get?_push_of_some _ q
    have I5 := I4.lnew (t' := s.toks) (its := []) (ys := []) .nil (Nat.zero_le _)
    have n5 : H ((hB.update a (Obj.mapSeq fun _ => (#[] : Array Value))).push (seqObj "tuple" (ws.map Value.ref).toArray 0)).objs.size = none := I4.fresh
    refine sort_rest I5 hu2 upd_same n5 (fun b o q => ?_) hfp hxL S hz hc fun out s' H' p1 p2 p3 J => ⟨_, rfl, ?_⟩
    · rw [upd_ne (ne_of_none q n5)]; exact q
    · refine wpAny_pure ⟨_, rfl, .ref a, _, J, rfl, h out _ a p1 p2 nL (fun b o q => ?_) upd_same⟩
      rw [upd_ne (ne_of_none q nL)]
      exact p3 b o q
end
end L2
namespace L2
open PySem PySem.Spec PyProof.Rows
def cxLam (P : Program) (w : World) (K : PySem.W.Frag) (mg : Str → Option Value) (base : Heap) (N : List Str) (qual : Str) (scope : Scope) (f c' : Addr) (cl : List (Str × Addr)) (A : Around) (outer : List Env) (s : Shared) (H : Hp) : Cx where
  prog := P
  w := w
  K := K
  mg := mg
  base := base
  A := A.deeper (PySem.W.envX qual scope s.heap.objs.size f (.ref c') cl)
  N := N
  s_0 := s
  H_0 := H
  env := PySem.W.envX qual scope s.heap.objs.size f (.ref c') cl
  outer := outer
  stack := PySem.W.envX qual scope s.heap.objs.size f (.ref c') cl :: outer
  ex := []
  fn := fun _ => false
  calm := true
  pn := []
  xe := fun _ _ => False
structure LamScope (N ps : List Str) (cl : List (Str × Addr)) (sc : Scope) : Prop where
  kind : sc.kind = .function
  co : sc.isCoroutine = false
  gen : sc.isGenerator = false
  nocell : ∀ x ∈ sc.names, x.2 ≠ .cell
  par : ∀ x ∈ ps, sc.names.lookup x = some .local
  free : ∀ x, sc.names.lookup x = some .free → ∃ c, cl.lookup x = some c
  inj : ∀ x y c, cl.lookup x = some c → cl.lookup y = some c → x = y
section
variable {P : Program} {w : World} {K : PySem.W.Frag} {mg : Str → Option Value} {base : Heap} {A : Around} {outer : List Env} {s : Shared} {H : Hp} {k : Nat} {f c' : Addr} {name qual : Str} {params : Arguments} {body : Expr} {scope : Scope} {cl : List (Str × Addr)}
  {pm ctv : Value} {N ps : List Str} {us : List Value} {Q : VK} {te : TE} {σ : St}
theorem lam_run (e0 : Env0 P w K mg base A outer s H) (hr : Room (k + 1) A) (S : LamScope N ps cl scope) (hf : s.heap.get? f = some (PySem.W.kla_obj name qual params body scope cl pm c' ctv)) (hcd : s.heap.CodeRec (.ref c') qual)
    (hb : bindArgs (PySem.W.kla_fn name qual params body scope cl pm (.ref c') ctv) ⟨us, []⟩ = pure (ps.zip us)) (hcell : ∀ x c, cl.lookup x = some c → H c = none ∧ ∃ v, s.heap.IsCell c v) (hσ : σ.length = N.length)
    (hlook : ∀ (i : Nat) (x : Str) (v : V), N[i]? = some x → σ[i]? = some (some v) → Vis scope x → ∃ u, RelV v u ∧ ((scope.names.lookup x = some .local ∧ (ps.zip us).reverse.lookup x = some u) ∨ (scope.names.lookup x = some .free ∧ ∃ c, cl.lookup x = some c ∧ s.heap.IsCell c (some u))))
    (hbody : Room k (A.deeper (PySem.W.envX qual scope s.heap.objs.size f (.ref c') cl)) → PE (cxLam P w K mg base N qual scope f c' cl A outer s H) body te) (hte : te σ H Q) :
    codeAny (model P w) A (.call (.ref f) ⟨us, []⟩) (CR CX0 outer P w H s Q E0) s := by
  refine PySem.W.kla_callFunE hr.depth hf rfl S.co S.gen rfl hcd ?_
  rw [hb]
  have lim : s.heap.NoLimit := e0.mod.nolimit.keeps fun b o e => (e0.bs b o e).1
  refine wpAny_pure (wpAny_newFunctionEnv S.nocell (fun y hy => S.par y.1 (List.of_mem_zip (show (y.1, y.2) ∈ ps.zip us from hy)).1) (fun h1 hns hsb => ⟨lim.fresh _ hsb, ?_⟩) S.kind)
  show codeAny _ _ (.expr body (PySem.W.envX qual scope s.heap.objs.size f (.ref c') cl)) _ _
  have hk : ∀ b o, s.heap.get? b = some o → h1.get? b = some o := fun b o e => hsb.extBut b o (Nat.ne_of_lt (Heap.lt_size e)) (Heap.get?_push_of_some _ e)
  have cellk : ∀ c v, s.heap.IsCell c v → h1.IsCell c v := fun c v ⟨o, e, d⟩ => ⟨o, hk _ _ e, d⟩
  have celllt : ∀ c v, s.heap.IsCell c v → c < s.heap.objs.size := fun c v ⟨o, e, _⟩ => Heap.lt_size e
  have I : Inv (cxLam P w K mg base N qual scope f c' cl A outer s H) [] σ H { s with heap := h1, toks := s.toks + (ps.zip us).length } := by
    refine ⟨⟨e0.mod, S.kind, rfl, rfl, Nat.le_refl _, S.inj, fun y hy => ?_, (fun y c hy => by cases hy), fun _ => hr.hd, Around.frames_deeper e0.frames, .inr ⟨rfl, rfl⟩, fun b z => absurd (show b ∈ ([] : List Addr) from z) (by simp), e0.bs, e0.bsz,
      fun b _ _ z => absurd (show b ∈ ([] : List Addr) from z) (by simp), fun b z => absurd (show b ∈ ([] : List Addr) from z) (by simp), e0.funs, e0.frf⟩, rfl, e0.bare, Un.kept hk, ⟨_, hns, fun i x v a1 a2 a3 => ?_⟩, fun x c h => ?_, e0.hok.fresh (Nat.le_refl _), fun x c h => (hcell x c h).1,
      fun p hp => absurd (show p ∈ ([] : List (Addr × Obj)) from hp) (by simp), e0.hok.kept hk, hσ⟩
    · have hy : scope.names.lookup y = some .cell ∨ scope.names.lookup y = some .free := hy
      rcases hy with hy | hy
      · exact absurd rfl (S.nocell _ (PySem.mem_of_lookup hy))
      · exact S.free y hy
    · obtain ⟨u, rv, z⟩ := hlook i x v a1 a2 a3
      refine ⟨u, rv, ?_⟩
      rcases z with ⟨z1, z2⟩ | ⟨z1, c, z2, z3⟩
      · exact .inl ⟨z1, z2⟩
      · exact .inr ⟨.inr z1, c, z2, cellk c _ z3⟩
    · obtain ⟨_, v, hv⟩ := hcell x c h
      exact ⟨v, cellk c v hv⟩
  refine PySem.W.kla_codeExpr (wpAny_mono (hbody (hr.deeper _) [] _ σ H Q I hte) (fun v s' hq => ?_) fun _ _ z => z.elim)
  obtain ⟨x, H', J, rv, q⟩ := hq
  exact ⟨x, H', J.os, J.bare, J.base, J.hok, rv, q⟩
end
def CodeExt (c' : Addr) (qual : Str) : HO := .ext fun h => h.CodeRec (.ref c') qual
def LamExt (f : Addr) (o : Obj) : HO := .ext fun h => h.get? f = some o
def TabOk (H : Hp) (T : Addr) (pos : Pos) (qual : Str) : Prop :=
  H T = some (.tbl #[]) ∨ ∃ c', H T = some (.tbl #[rawInt pos.line, rawInt pos.col, .ref c']) ∧ H c' = some (CodeExt c' qual)
def SameT (T : Addr) (H H' : Hp) : Prop := ∀ b o, H b = some o → b ≠ T → H' b = some o
theorem SameT.refl {T : Addr} (H : Hp) : SameT T H H := fun _ _ h _ => h
theorem SameT.trans {T : Addr} {H H1 H2 : Hp} (a : SameT T H H1) (b : SameT T H1 H2) : SameT T H H2 := fun c o h n => b c o (a c o h n) n
theorem Same.t {T : Addr} {H H' : Hp} (e : Same H H') : SameT T H H' := fun b o h _ => e b o h
theorem TabOk.same {H H' : Hp} {T : Addr} {pos : Pos} {qual : Str} (h : TabOk H T pos qual) (e : Same H H') : TabOk H' T pos qual := by
  rcases h with h | ⟨c, h, h'⟩
  · exact .inl (e _ _ h)
  · exact .inr ⟨c, e _ _ h, e _ _ h'⟩
section
variable {X : Cx} {pins : List (Addr × Obj)} {σ : St} {H : Hp} {s : Shared}
theorem Inv.grow {T : Addr} {ps more : Array Value} {h' : Heap} {t' : Nat} (I : Inv X pins σ H s) (hT : H T = some (.tbl ps)) (hx : Heap.ExtBut T s.heap h') (ho : h'.get? T = some (PySem.W.tabObj (ps ++ more))) :
    Inv X pins σ (upd H T (.tbl (ps ++ more))) { s with heap := h', toks := t' } := by
  have ne : ∀ b u, H b = some u → (∀ q, u ≠ .tbl q) → b ≠ T := fun b u e n z => by rw [z, hT] at e; exact n ps (Option.some.inj e).symm
  have nn : ∀ b, H b = none → b ≠ T := fun b e z => by rw [z, hT] at e; cases e
  refine I.un ⟨fun b o e n _ _ => hx b o (nn b n) e, fun b o e n _ _ => ⟨o.slots, hx b o (nn b n) e⟩, fun b o e n _ => by rw [upd_ne (nn b n)]; exact n, fun b o e _ => ?_, fun b xs e => ?_, fun b o u e => ?_, fun b qs e => ?_⟩ fun b u e => ?_
  · by_cases z : b = T
    · exact ⟨_, by rw [z]; exact ho⟩
    · exact ⟨o, hx b o z e⟩
  · rw [upd_ne (ne b _ e fun q z => nomatch z)]; exact e
  · rw [upd_ne (ne b _ e fun q z => nomatch z)]; exact e
  · by_cases z : b = T
    · subst z
      rw [hT] at e
      cases e
      exact ⟨more, upd_same⟩
    · exact ⟨#[], by rw [upd_ne z, e]; simp⟩
  · by_cases z : b = T
    · subst z
      rw [upd_same] at e
      cases e
      exact ho
    · rw [upd_ne z] at e
      refine (I.hok b u e).stay (fun c v hc q => hx c v ?_ q) (fun c q => by rw [upd_ne (ne c _ q fun q z => nomatch z)]; exact q) fun c xs q => by rw [upd_ne (ne c _ q fun q z => nomatch z)]; exact q
      rcases hc with hc | hc
      · rw [hc]; exact z
      · exact ne c _ hc fun q z => nomatch z
theorem codeExt_ok {c' : Addr} {qual : Str} {P : Program} {w : World} {H : Hp} {h : Heap} (hc : h.CodeRec (.ref c') qual) : ObjOk P w H h c' (CodeExt c' qual) := by
  obtain ⟨c, o, vs, t, e, ho, hd, hv⟩ := hc
  cases e
  refine ⟨⟨c', o, vs, t, rfl, ho, hd, hv⟩, ⟨o, ho⟩, fun h1 h2 r k => ?_⟩
  obtain ⟨c, o, vs, t, e, ho, hd, hv⟩ := r
  cases e
  exact ⟨c', o, vs, t, rfl, k _ ho, hd, hv⟩
theorem lamExt_ok {f : Addr} {o : Obj} {P : Program} {w : World} {H : Hp} {h : Heap} (ho : h.get? f = some o) : ObjOk P w H h f (LamExt f o) :=
  ⟨ho, ⟨o, ho⟩, fun h1 h2 r k => k _ r⟩
def tLam (T : Addr) (pos : Pos) (qual : Str) (params : Arguments) (body : Expr) (scope : Scope) (clos : List (Str × Addr)) (mg : Str → Option Value) : TE := fun _ H Q => TabOk H T pos qual ∧
  ∀ (f c' : Addr) (ctv : Value) (H1 : Hp), SameT T H H1 → TabOk H1 T pos qual → H1 c' = some (CodeExt c' qual) → H1 f = none → H f = none →
    Q (.ref f) (upd H1 f (LamExt f (PySem.W.kla_obj "<lambda>" qual params body scope clos ((mg "__name__").getD .none) c' ctv)))
theorem pe_lam {T c0 : Addr} {params : Arguments} {body : Expr} {scope : Scope} {pos : Pos} {clos : List (Str × Addr)} (hex : X.ex = []) (hcode : X.env.code = .ref c0) (hC : PySem.W.CodeHd X.base c0 T) (hB : X.base.BuiltinsAt X.mg T) (hcl : closureFor scope X.env = pure clos)
    (hdef : defaultsOf params X.env = ([], []) := by rfl) : PE X (.Lambda params body scope pos) (tLam T pos (X.env.qual ++ "<lambda>") params body scope clos X.mg) := by
  intro pins s σ H Q I h
  obtain ⟨hT, q⟩ := h
  obtain ⟨bm, ob, b1, b2, b3, b4, b5, b6⟩ := hB
  have hB' : s.heap.BuiltinsAt X.mg T := ⟨bm, ob, b1, b2, b3, b4, I.bk _ _ b5, b6⟩
  have hg : s.heap.Ns mainGlobals X.mg := I.ok.mod.glob.keeps I.bk
  refine PySem.W.kla_eval hdef ?_
  rcases hT with hT | ⟨c', hT, hc'⟩
  · have hP : s.heap.get? T = some (PySem.W.tabObj #[]) := I.hok T _ hT
    have hgP : mainGlobals ≠ T := fun z => by
      obtain ⟨o, _, _, e, _⟩ := I.ok.mod.glob
      have := (I.bs _ _ e).2
      rw [z, hT] at this; cases this
    refine PySem.W.kla_makeFunction hcl I.ok.glob hg hcode (hC.keeps I.bk) hP trivial rfl hgP hB' fun c' ctv h' tk hx h1 h2 hrec ho => ?_
    have I1 := I.grow (t' := tk) hT hx ho
    have f1 : FpOk X pins (upd H T (.tbl (#[] ++ #[rawInt pos.line, rawInt pos.col, .ref c']))) c' := by
      refine I.fpOk h1 ?_
      have n := I.hok.fresh h1
      rw [upd_ne (Ne.symm (ne_of_none hT n))]; exact n
    have I2 := I1.track (ob := CodeExt c' (X.env.qual ++ "<lambda>")) f1 (by rw [hex]; simp) (codeExt_ok hrec)
    have nf : H h'.objs.size = none := I.hok.fresh (Nat.le_trans h1 (Nat.le_of_lt h2))
    have I3 := I2.laid (t' := tk) (a := h'.objs.size) (h' := h'.push (PySem.W.kla_obj "<lambda>" (X.env.qual ++ "<lambda>") params body scope clos ((X.mg "__name__").getD .none) c' ctv)) (fun b u e => Heap.get?_push_of_some _ e) (Nat.le_refl _)
      (lamExt_ok (o := PySem.W.kla_obj "<lambda>" (X.env.qual ++ "<lambda>") params body scope clos ((X.mg "__name__").getD .none) c' ctv) (Heap.get?_push_size _ rfl))
    refine ⟨.ref h'.objs.size, _, I3, rfl, q _ c' ctv _ (fun b o e n => ?_) (.inr ⟨c', ?_, upd_same⟩) upd_same (I2.hok.fresh (Nat.le_refl _)) nf⟩
    · rw [upd_ne (ne_of_none e (I.hok.fresh h1)), upd_ne n]; exact e
    · rw [upd_ne (ne_of_none hT (I.hok.fresh h1)), upd_same] <;> simp
  · have hP : s.heap.get? T = some (PySem.W.tabObj #[rawInt pos.line, rawInt pos.col, .ref c']) := I.hok T _ hT
    refine PySem.W.kla_makeFunctionHit (cv := .ref c') hcl I.ok.glob hg hcode (hC.keeps I.bk) hP (by simp [TriplesOk, rawInt]) (by simp [codeAmong, rawInt]) hB' fun ctv h' tk hk hs => ?_
    have I1 := I.kept (t' := tk) hk
    have I3 := I1.laid (t' := tk) (a := h'.objs.size) (h' := h'.push (PySem.W.kla_obj "<lambda>" (X.env.qual ++ "<lambda>") params body scope clos ((X.mg "__name__").getD .none) c' ctv)) (fun b u e => Heap.get?_push_of_some _ e) (Nat.le_refl _)
      (lamExt_ok (o := PySem.W.kla_obj "<lambda>" (X.env.qual ++ "<lambda>") params body scope clos ((X.mg "__name__").getD .none) c' ctv) (Heap.get?_push_size _ rfl))
    exact ⟨.ref h'.objs.size, _, I3, rfl, q _ c' ctv H (SameT.refl H) (.inr ⟨c', hT, hc'⟩) hc' (I1.hok.fresh (Nat.le_refl _)) (I1.hok.fresh (Nat.le_refl _))⟩
end
def tSortK (X : Cx) (te tl : TE) (rd : Addr → Addr → St → Hp → VK → Prop) : TE := fun σ H Q => te σ H fun x H1 => tl σ H1 fun g H2 => ∃ l f, x = .ref l ∧ g = .ref f ∧ rd l f σ H2 Q
def rSortK (X : Cx) (l f : Addr) (σ : St) (H : Hp) (Q : VK) : Prop := ∃ (ws : List Addr) (k : Addr → Int) (wd : Addr → List Int) (lt : Addr → Addr → Bool), SqL X.K H l (ws.map V.ref) ∧ SortOf X.K H ws k wd lt ∧
  (∀ pins, KeyCall X pins σ H X.A.in1.in1 f ws k) ∧ ∀ (out : List Addr) (H' : Hp) (p : Addr), out.Perm ws → out.Pairwise (fun a b => lt a b = true) → H p = none → Same H H' → H' p = some (.lst (out.map V.ref)) → Q (.ref p) H'
theorem pe_sortK {X : Cx} {e g : Expr} {te tl : TE} {p pos kpos : Pos} {k' : Nat} (hex : X.ex = []) (hr : Room k' X.A) (hg : Gl X "sorted") (hm : X.mg "sorted" = none) (he : PE X e te) (hl : PE X g tl)
    (hs : backTo pos (starEach [e] X.env) = (false, eval e X.env) :: backTo pos (starEach [] X.env) := by rfl) (hs' : starEach (e :: []) X.env = (false, eval e X.env) :: starEach [] X.env := by rfl) (hpl : (backTo pos (starEach [e] X.env)).any (·.1) = false := by rfl) :
    PE X (.Call (.Name "sorted" p) [e] [⟨some "key", g, kpos⟩] pos) (tSortK X te tl (rSortK X)) := by
  intro pins s σ H Q I h
  refine wpAny_Call_Name_kw (ld_blt I hg hm PyProof.Rows.boot_sorted ?_)
  refine callWith_kw (thn ((pa_cons he pa_nil hs') pos pins s σ H (fun xs H1 => match xs with
    | [x] => tl σ H1 fun g H2 => ∃ l f, x = .ref l ∧ g = .ref f ∧ rSortK X l f σ H2 Q
    | _ => False) I h) fun us s1 hq => ?_) hs hpl rfl rfl
  obtain ⟨vs, H1, I1, r1, q1⟩ := hq
  match vs, r1, q1 with
  | [x], .cons rx .nil, q1 =>
    refine thn ((pk_cons (nm := some "key") (kpos := kpos) hl pk_nil) pos pins s1 σ H1 (fun zs H2 => match zs with
      | [g] => ∃ l f, x = .ref l ∧ g = .ref f ∧ rSortK X l f σ H2 Q
      | _ => False) I1 q1) fun ws s2 hq2 => ?_
    obtain ⟨zs, H2, I2, r2, q2⟩ := hq2
    match zs, r2, q2 with
    | [g], .cons rg .nil, ⟨l, f, e1, e2, ws, k, wd, lt, h1, S, hc, hQ⟩ =>
      subst e1 e2
      cases rx
      cases rg
      exact sorted_key I2 (fun b z => by rw [hex] at z; cases z) hr h1 S (hc pins) hQ
end L2
namespace L2
open PySem PySem.Spec PyProof.Rows
open PySem.W (WData Codec OpenSpec Well WellAll ReadsW ReadsAllW)
def OnlyT (T : Addr) (H : Hp) : Prop := H T = some (.tbl #[]) ∧ ∀ b, b ≠ T → H b = none ∨ ∃ o u, H b = some (.frz o u)
mutual
theorem dw_same {K : PySem.W.Frag} {H H' : Hp} (e : Same H H') : ∀ (v : V) (d : WData), Dw K H v d → Dw K H' v d
  | _, _, .non => .non
  | _, _, .bl b => .bl b
  | _, _, .int i => .int i
  | _, _, .str x => .str x
  | _, _, .byt b => .byt b
  | _, _, .lst h h2 => .lst (e.seq h) (dwAll_same e _ _ h2)
  | _, _, .tup h h2 => .tup (e.tupl h) (dwAll_same e _ _ h2)
theorem dwAll_same {K : PySem.W.Frag} {H H' : Hp} (e : Same H H') : ∀ (vs : List V) (ds : List WData), DwAll K H vs ds → DwAll K H' vs ds
  | _, _, .nil => .nil
  | _, _, .cons h h2 => .cons (dw_same e _ _ h) (dwAll_same e _ _ h2)
end
theorem spec_callT {P : Program} {w : World} {K : PySem.W.Frag} {mg mb : Str → Option Value} {CX : CXT} {k : Nat} {fa c0 T : Addr} {fd : FuncData} {ps : List Str} {sp : Sp} {s₁ : Shared} {vals : List Value} {ds : List WData} {R : PySem.W.WRecords} {cl : Str → Option Addr} {d0 : WData}
    (KX : K.In s₁.heap) (hns : s₁.heap.Ns mainGlobals mg) (hb : s₁.heap.Ns builtinsNs mb) (hbb : ∀ x : Str, x ≠ "__name__" → mb x = bootBuiltins x) (hlim : s₁.heap.NoLimit) (hg : s₁.gens = #[])
    (hC : PySem.W.CodeHd s₁.heap c0 T) (hT : s₁.heap.get? T = some (PySem.W.tabObj #[])) (hTK : PySem.W.noTabs K = true)
    (hwl : WellAll w.params s₁.heap vals ds) (hpl : plWs ds = true) (hwt : ∀ d ∈ ds, d.weight ≤ 1048576) (hr : Room k callerA)
    (hBm : s₁.heap.BuiltinsAt mg T) (F : ∀ base : Heap, K.In base → base.Ns mainGlobals mg → base.BuiltinsAt mg T → FnOk P w K mg base CX k fa fd ps sp) (hbind : ∀ (s : Shared) (us : List Value), us.length = ps.length → BindsTo s fd ⟨us, []⟩ (ps.zip us)) (hlen : ds.length = ps.length)
    (hsp : ∀ (H : Hp) (xs : List V), OnlyT T H → DwAll K H xs ds → sp xs H (fun v H' => Dw K H' v d0) fun _ _ _ => False)
    (hCX : ∀ H e s', CX [] H s₁ (fun _ _ _ => False) e s' → False) :
    codeAny (model P w) callerA (.call (.ref fa) ⟨vals, []⟩) (fun r s' => ∃ u as, r = .ok (.ret u) ∧ ReadsW R cl s'.heap u d0 as ∧ OldK s₁.heap s'.heap ∧ s'.os = s₁.os ∧ AllBare s'.gens) s₁ := by
  obtain ⟨A, ho, ar⟩ := area_all ds vals hwl hpl hwt
  have hO0 : OnlyF (argH K s₁.heap A) := argH_only ar
  have hok0 : HOk P w (argH K s₁.heap A) s₁.heap := argH_ok ar
  have hS0 := dw_all KX ar ds vals hwl hpl ho
  have hV := vals_toV ho
  have hK0 : ∀ b u, argH K s₁.heap A b = some u → K.lookup b = none := fun b u q => (argH_is ar q).1
  have KT : K.lookup T = none := by
    cases q : K.lookup T with
    | none => rfl
    | some o =>
      have e := KX T o q
      rw [hT] at e
      cases e
      have h2 := List.all_eq_true.mp hTK (T, PySem.W.tabObj #[]) (PySem.W.mem_of_lookupK q)
      exact absurd (show false = true from h2) Bool.false_ne_true
  have nT0 : argH K s₁.heap A T = none := by
    cases q : argH K s₁.heap A T with
    | none => rfl
    | some u =>
      obtain ⟨_, vs, _, _, ⟨e2, _⟩ | ⟨e2, _⟩⟩ := argH_is ar q
      · rw [hT] at e2; cases e2
      · rw [hT] at e2; cases e2
  have noA0 : ∀ {b : Addr} {o : Obj} {es : Array DictEntry} {ep : Nat}, s₁.heap.get? b = some o → o.data = .dict es ep → argH K s₁.heap A b = none := fun {b o es ep} e d => by
    cases q : argH K s₁.heap A b with
    | none => rfl
    | some u =>
      obtain ⟨_, vs, _, _, ⟨e2, _⟩ | ⟨e2, _⟩⟩ := argH_is ar q
      · rw [e2] at e
        cases e
        have d' : Data.seq vs.toArray _ = Data.dict es ep := d
        cases d'
      · rw [e2] at e
        cases e
        have d' : Data.seq vs.toArray _ = Data.dict es ep := d
        cases d'
  have noP0 : ∀ {b : Addr} {o : Obj}, s₁.heap.get? b = some o → o.data = .plain → argH K s₁.heap A b = none := fun {b o} e d => by
    cases q : argH K s₁.heap A b with
    | none => rfl
    | some u =>
      obtain ⟨_, vs, _, _, ⟨e2, _⟩ | ⟨e2, _⟩⟩ := argH_is ar q
      · rw [e2] at e
        cases e
        cases d
      · rw [e2] at e
        cases e
        cases d
  generalize argH K s₁.heap A = G at hO0 hok0 hS0 hK0 nT0 noA0 noP0
  have hsame : Same G (upd G T (.tbl #[])) := fun b o e => by rw [upd_ne (ne_of_none e nT0)]; exact e
  have hok : HOk P w (upd G T (.tbl #[])) s₁.heap := fun b u e => by
    by_cases z : b = T
    · subst z
      rw [upd_same] at e
      cases e
      exact hT
    · rw [upd_ne z] at e
      exact (hok0 b u e).stay (fun c v _ q => q) (fun c q => hsame _ _ q) fun c xs q => hsame _ _ q
  have hO : OnlyT T (upd G T (.tbl #[])) := ⟨upd_same, fun b z => by rw [upd_ne z]; exact hO0 b⟩
  have hS : DwAll K (upd G T (.tbl #[])) (vals.map toV) ds := dwAll_same hsame _ _ hS0
  have hK : ∀ b u, upd G T (.tbl #[]) b = some u → K.lookup b = none := fun b u q => by
    by_cases z : b = T
    · rw [z]; exact KT
    · rw [upd_ne z] at q; exact hK0 b u q
  have noA : ∀ {b : Addr} {o : Obj} {es : Array DictEntry} {ep : Nat}, s₁.heap.get? b = some o → o.data = .dict es ep → upd G T (.tbl #[]) b = none := fun {b o es ep} e d => by
    have z : b ≠ T := fun z => by rw [z, hT] at e; cases e; cases d
    rw [upd_ne z]
    exact noA0 e d
  have noP : ∀ {b : Addr} {o : Obj}, s₁.heap.get? b = some o → o.data = .plain → upd G T (.tbl #[]) b = none := fun {b o} e d => by
    have z : b ≠ T := fun z => by rw [z, hT] at e; cases e; cases d
    rw [upd_ne z]
    exact noP0 e d
  generalize upd G T (.tbl #[]) = H at hO hok hS hK noA noP
  have base_of : ∀ {b : Addr} {o : Obj}, s₁.heap.get? b = some o → H b = none → (hidT s₁.heap H).get? b = some o := fun e n => hidT_get e n
  have nsK : ∀ {b : Addr} {m : Str → Option Value}, s₁.heap.Ns b m → (hidT s₁.heap H).Ns b m := fun {b m} ⟨o, es, ep, e, d, r⟩ => ⟨o, es, ep, base_of e (noA e d), d, r⟩
  have nK : ∀ b o, K.lookup b = some o → H b = none := fun b o e => by
    cases q : H b with
    | none => rfl
    | some u =>
      rw [hK b u q] at e
      cases e
  have hKb : K.In (hidT s₁.heap H) := fun b o e => base_of (KX b o e) (nK b o e)
  have hM : Mod K mg (hidT s₁.heap H) := ⟨hKb, nsK hns, ⟨mb, nsK hb, hbb⟩, let ⟨mc, h1, h2⟩ := hlim; ⟨mc, nsK h1, h2⟩⟩
  have e0 : Env0 P w K mg (hidT s₁.heap H) callerA [] s₁ H := ⟨rfl, hM, fun b o e => of_hidT e, Nat.le_of_eq (hidT_size _ _), trivial, fun b hb => absurd (show b ∈ ([] : List Addr) from hb) (by simp), hok, .of_eq hg⟩
  have hl : vals.length = ps.length := by rw [wellAll_len hwl]; exact hlen
  have hBb : (hidT s₁.heap H).BuiltinsAt mg T := by
    obtain ⟨bm, o, b1, b2, b3, b4, b5, b6, b7, b8⟩ := hBm
    exact ⟨bm, o, b1, b2, b3, b4, base_of b5 (noP b5 b8), b6, b7, b8⟩
  refine codeAny_mono ((F _ hKb (nsK hns) hBb).run callerA [] s₁ H ⟨vals, []⟩ vals (vals.map toV) _ _ hr e0 (hbind s₁ vals hl) hV (hsp H _ hO hS)) fun r s' x => ?_
  cases r with
  | error e => exact (hCX H e s' x).elim
  | ok fl =>
    cases fl with
    | next => exact False.elim x
    | brk => exact False.elim x
    | cont => exact False.elim x
    | ret u =>
      obtain ⟨v, H', os, bare, un, hok', r', q⟩ := x
      have kept : ∀ b o, b ≠ T → s₁.heap.get? b = some o → s'.heap.get? b = some o := fun b o z e => by
        cases q2 : H b with
        | none => exact un.keep b o e q2 (by intro z; exact absurd (show b ∈ ([] : List Addr) from z) (by simp)) (by simp)
        | some u2 =>
          rcases hO.2 b z with z | ⟨ob, u3, z⟩
          · rw [q2] at z
            cases z
          · have z2 := un.frzs b ob _ z
            obtain ⟨e1, _⟩ := hok b _ z
            obtain ⟨e2, _⟩ := hok' b _ z2
            rw [e] at e1
            cases e1
            exact e2
      obtain ⟨more, hmore⟩ := un.tbls T #[] hO.1
      have hT' : s'.heap.get? T = some (PySem.W.tabObj (#[] ++ more)) := hok' T _ hmore
      have KX' : K.In s'.heap := fun b o e => kept b o (fun z => by rw [z, KT] at e; cases e) (KX b o e)
      obtain ⟨as, hrd⟩ := Dw.reads (R := R) (cl := cl) hok' KX' d0 v u q r'
      refine ⟨u, as, rfl, hrd, ⟨fun b o e => ?_, fun b o e => ?_⟩, os, bare⟩
      · by_cases z : b = T
        · subst z
          rw [hT] at e
          cases e
          exact .inr (.inl ⟨(hC.tab hT).isCodeTable, rfl, #[], more, rfl, hT'⟩)
        · exact .inl (kept b o z e)
      · by_cases z : b = T
        · subst z; exact ⟨_, hT'⟩
        · exact ⟨o, kept b o z e⟩
end L2
namespace Wk
open Ks295 (Entry before first)
theorem before_irrefl : ∀ a : List Nat, before a a = false
  | [] => rfl
  | x :: l => by
    show (decide (x < x) || (x == x && before l l)) = false
    rw [before_irrefl l]; simp
theorem before_trans : ∀ {a b c : List Nat}, before a b = true → before b c = true → before a c = true
  | [], [], _, h, _ => by simp [before] at h
  | [], _ :: _, [], _, h => by simp [before] at h
  | [], _ :: _, _ :: _, _, _ => rfl
  | _ :: _, [], _, h, _ => by simp [before] at h
  | _ :: _, _ :: _, [], _, h => by simp [before] at h
  | x :: a, y :: b, z :: c, h, k => by
    simp only [before, Bool.or_eq_true, decide_eq_true_eq, Bool.and_eq_true, beq_iff_eq] at h k ⊢
    rcases h with h | ⟨rfl, h⟩
    · rcases k with k | ⟨rfl, k⟩
      · exact .inl (Nat.lt_trans h k)
      · exact .inl h
    · rcases k with k | ⟨rfl, k⟩
      · exact .inl k
      · exact .inr ⟨rfl, before_trans h k⟩
theorem before_total : ∀ {a b : List Nat}, a ≠ b → before a b = true ∨ before b a = true
  | [], [], h => absurd rfl h
  | [], _ :: _, _ => .inl rfl
  | _ :: _, [], _ => .inr rfl
  | x :: a, y :: b, h => by
    simp only [before, Bool.or_eq_true, decide_eq_true_eq, Bool.and_eq_true, beq_iff_eq]
    rcases Nat.lt_trichotomy x y with q | q | q
    · exact .inl (.inl q)
    · subst q
      rcases before_total (a := a) (b := b) (fun e => h (by rw [e])) with z | z
      · exact .inl (.inr ⟨rfl, z⟩)
      · exact .inr (.inr ⟨rfl, z⟩)
    · exact .inr (.inl q)
theorem first_iff {a b : Entry} : first a b = true ↔ b.count < a.count ∨ (a.count = b.count ∧ before a.word b.word = true) := by
  unfold first
  simp only [Bool.or_eq_true, decide_eq_true_eq, Bool.and_eq_true, beq_iff_eq]
theorem first_trans {a b c : Entry} (h : first a b = true) (k : first b c = true) : first a c = true := by
  rw [first_iff] at *
  rcases h with h | ⟨e, h⟩
  · rcases k with k | ⟨e', _⟩
    · exact .inl (Nat.lt_trans k h)
    · exact .inl (by omega)
  · rcases k with k | ⟨e', k⟩
    · exact .inl (by omega)
    · exact .inr ⟨by omega, before_trans h k⟩
theorem first_irrefl (a : Entry) : first a a = false := by
  unfold first; rw [before_irrefl]; simp
theorem first_total {a b : Entry} (h : a.word ≠ b.word) : first a b = true ∨ first b a = true := by
  rw [first_iff, first_iff]
  rcases Nat.lt_trichotomy a.count b.count with q | q | q
  · exact .inr (.inl q)
  · rcases before_total h with z | z
    · exact .inl (.inr ⟨q, z⟩)
    · exact .inr (.inr ⟨q.symm, z⟩)
  · exact .inl (.inl q)
theorem first_asymm {a b : Entry} (h : first a b = true) : first b a = false := by
  cases q : first b a with
  | false => rfl
  | true => have := first_trans h q; rw [first_irrefl] at this; cases this
def Sorted (l : List Entry) : Prop := l.Pairwise fun a b => first a b = true
theorem insert_perm (e : Entry) : ∀ l : List Entry, (Ks295.insert e l).Perm (e :: l)
  | [] => List.Perm.refl _
  | x :: l => by
    unfold Ks295.insert
    split
    · exact List.Perm.refl _
    · exact ((insert_perm e l).cons x).trans (List.Perm.swap e x l)
theorem insert_sorted {e : Entry} : ∀ {l : List Entry}, Sorted l → (∀ x ∈ l, x.word ≠ e.word) → Sorted (Ks295.insert e l)
  | [], _, _ => by
    show List.Pairwise _ [e]
    exact List.pairwise_singleton ..
  | x :: l, s, h => by
    have s' : (∀ y ∈ l, first x y = true) ∧ Sorted l := List.pairwise_cons.mp s
    unfold Ks295.insert
    split
    · rename_i q
      refine List.pairwise_cons.mpr ⟨fun y hy => ?_, s⟩
      rcases List.mem_cons.mp hy with rfl | hy
      · exact q
      · exact first_trans q (s'.1 y hy)
    · rename_i q
      refine List.pairwise_cons.mpr ⟨fun y hy => ?_, insert_sorted s'.2 fun y hy => h y (List.mem_cons_of_mem _ hy)⟩
      rcases List.mem_cons.mp ((insert_perm e l).mem_iff.mp hy) with rfl | hy
      · rcases first_total (h x List.mem_cons_self) with z | z
        · exact z
        · exact absurd z q
      · exact s'.1 y hy
theorem sorted_unique : ∀ {l l' : List Entry}, Sorted l → Sorted l' → l.Perm l' → l = l'
  | [], l', _, _, p => (List.Perm.nil_eq p)
  | a :: l, [], _, _, p => absurd p.length_eq (by simp)
  | a :: l, b :: l', s, s', p => by
    have s1 := List.pairwise_cons.mp s
    have s2 := List.pairwise_cons.mp s'
    have e : a = b := by
      have ha : a ∈ b :: l' := p.mem_iff.mp List.mem_cons_self
      have hb : b ∈ a :: l := p.mem_iff.mpr List.mem_cons_self
      rcases List.mem_cons.mp ha with e | ha
      · exact e
      · rcases List.mem_cons.mp hb with e | hb
        · exact e.symm
        · have h1 := s1.1 b hb
          have h2 := s2.1 a ha
          rw [first_asymm h1] at h2; cases h2
    subst e
    rw [sorted_unique s1.2 s2.2 (List.perm_cons a |>.mp p)]
structure Rel (d l : List Entry) : Prop where
  so : Sorted l
  pe : l.Perm d
  nd : (d.map Entry.word).Nodup
theorem Rel.nil : Rel [] [] := ⟨List.Pairwise.nil, List.Perm.refl _, List.nodup_nil⟩
theorem Rel.len {d l : List Entry} (r : Rel d l) : l.length = d.length := r.pe.length_eq
theorem any_perm {α : Type} {l l' : List α} (p : l.Perm l') (f : α → Bool) : l.any f = l'.any f := by
  cases q : l'.any f with
  | true =>
    obtain ⟨x, hx, h⟩ := List.any_eq_true.mp q
    exact List.any_eq_true.mpr ⟨x, p.mem_iff.mpr hx, h⟩
  | false =>
    cases q' : l.any f with
    | false => rfl
    | true =>
      obtain ⟨x, hx, h⟩ := List.any_eq_true.mp q'
      have : l'.any f = true := List.any_eq_true.mpr ⟨x, p.mem_iff.mp hx, h⟩
      rw [q] at this; cases this
theorem Rel.any {d l : List Entry} (r : Rel d l) (f : Entry → Bool) : l.any f = d.any f := any_perm r.pe f
theorem Rel.has {d l : List Entry} (r : Rel d l) (w : List Nat) : Ks295.has l w = Ks295.has d w := r.any _
theorem has_iff {d : List Entry} {w : List Nat} : Ks295.has d w = true ↔ w ∈ d.map Entry.word := by
  unfold Ks295.has
  rw [List.any_eq_true, List.mem_map]
  constructor
  · rintro ⟨e, h, q⟩; exact ⟨e, h, beq_iff_eq.mp q⟩
  · rintro ⟨e, h, q⟩; exact ⟨e, h, beq_iff_eq.mpr q⟩
theorem nodup_snoc {α : Type} {l : List α} {x : α} (h : l.Nodup) (hx : x ∉ l) : (l ++ [x]).Nodup := by
  rw [List.nodup_append]
  refine ⟨h, by simp, fun a ha b hb => ?_⟩
  rw [List.mem_singleton.mp hb]
  exact fun e => hx (e ▸ ha)
theorem Rel.add {d l : List Entry} (r : Rel d l) {w : List Nat} {n : Nat} (h : Ks295.has d w = false) : Rel (d ++ [⟨w, n⟩]) (Ks295.insert ⟨w, n⟩ l) := by
  have hw : w ∉ d.map Entry.word := fun q => by rw [has_iff.mpr q] at h; cases h
  refine ⟨insert_sorted r.so fun x hx e => hw ?_, (insert_perm _ _).trans ?_, ?_⟩
  · exact List.mem_map.mpr ⟨x, r.pe.mem_iff.mp hx, e⟩
  · exact (r.pe.cons _).trans (List.perm_append_singleton _ _).symm
  · rw [List.map_append]; exact nodup_snoc r.nd hw
def setE (d : List Entry) (w : List Nat) (n : Nat) : List Entry := d.map fun e => if e.word = w then ⟨w, n⟩ else e
def lookE (d : List Entry) (w : List Nat) : Option Nat := (d.find? fun e => e.word == w).map Entry.count
theorem nodup_word {d : List Entry} (nd : (d.map Entry.word).Nodup) : ∀ {e e' : Entry}, e ∈ d → e' ∈ d → e.word = e'.word → e = e' := by
  induction d with
  | nil => intro e e' h; cases h
  | cons x d ih =>
    have nd' : x.word ∉ d.map Entry.word ∧ (d.map Entry.word).Nodup := List.nodup_cons.mp nd
    intro e e' h h' q
    rcases List.mem_cons.mp h with e1 | h
    · rcases List.mem_cons.mp h' with e2 | h'
      · exact e1.trans e2.symm
      · exact absurd (List.mem_map.mpr ⟨e', h', by rw [← q, e1]⟩) nd'.1
    · rcases List.mem_cons.mp h' with e2 | h'
      · exact absurd (List.mem_map.mpr ⟨e, h, by rw [q, e2]⟩) nd'.1
      · exact ih nd'.2 h h' q
theorem find_word {d : List Entry} (nd : (d.map Entry.word).Nodup) {e : Entry} (h : e ∈ d) : d.find? (fun x => x.word == e.word) = some e := by
  cases q : d.find? (fun x => x.word == e.word) with
  | none =>
    have := List.find?_eq_none.mp q e h
    simp at this
  | some x =>
    have hx := List.find?_some q
    exact congrArg some (nodup_word nd (List.mem_of_find?_eq_some q) h (beq_iff_eq.mp hx))
theorem Rel.ndl {d l : List Entry} (r : Rel d l) : (l.map Entry.word).Nodup := (r.pe.map _).nodup_iff.mpr r.nd
theorem Rel.find {d l : List Entry} (r : Rel d l) (w : List Nat) : l.find? (fun e => e.word == w) = d.find? (fun e => e.word == w) := by
  cases q : d.find? (fun e => e.word == w) with
  | none =>
    rw [List.find?_eq_none] at q ⊢
    exact fun x hx => q x (r.pe.mem_iff.mp hx)
  | some x =>
    have hx := List.find?_some q
    have e : x.word = w := beq_iff_eq.mp hx
    have := find_word r.ndl (r.pe.mem_iff.mpr (List.mem_of_find?_eq_some q))
    rw [e] at this
    exact this
theorem setE_words (d : List Entry) (w : List Nat) (n : Nat) : (setE d w n).map Entry.word = d.map Entry.word := by
  unfold setE
  rw [List.map_map]
  refine List.map_congr_left fun e _ => ?_
  show (if e.word = w then (⟨w, n⟩ : Entry) else e).word = e.word
  split
  · rename_i h; exact h.symm
  · rfl
theorem perm_set {d : List Entry} (nd : (d.map Entry.word).Nodup) {e : Entry} (h : e ∈ d) (n : Nat) : ((⟨e.word, n⟩ : Entry) :: d.filter fun x => x.word != e.word).Perm (setE d e.word n) := by
  induction d with
  | nil => cases h
  | cons x d ih =>
    have nd' : x.word ∉ d.map Entry.word ∧ (d.map Entry.word).Nodup := List.nodup_cons.mp nd
    by_cases q : x.word = e.word
    · have e1 : d.filter (fun y => y.word != e.word) = d := List.filter_eq_self.mpr fun y hy => bne_iff_ne.mpr fun z => nd'.1 (List.mem_map.mpr ⟨y, hy, z.trans q.symm⟩)
      have e2 : setE d e.word n = d := by
        unfold setE
        refine (List.map_congr_left (g := id) fun y hy => if_neg fun z => nd'.1 (List.mem_map.mpr ⟨y, hy, z.trans q.symm⟩)).trans (List.map_id _)
      rw [List.filter_cons, if_neg (by simp [q]), e1]
      show List.Perm _ ((if x.word = e.word then ⟨e.word, n⟩ else x) :: setE d e.word n)
      rw [if_pos q, e2]
    · have h' : e ∈ d := by
        rcases List.mem_cons.mp h with z | z
        · exact absurd (by rw [z]) q
        · exact z
      rw [List.filter_cons, if_pos (by simp [q])]
      show List.Perm _ ((if x.word = e.word then ⟨e.word, n⟩ else x) :: setE d e.word n)
      rw [if_neg q]
      exact (List.Perm.swap x _ _).trans ((ih nd'.2 h').cons x)
theorem Rel.counted {d l : List Entry} (r : Rel d l) {w : List Nat} {c : Nat} (f : Nat → Nat) (h : lookE d w = some c) : Rel (setE d w (f c)) (Ks297.counted l w f) := by
  unfold lookE at h
  cases q : d.find? (fun e => e.word == w) with
  | none => rw [q] at h; cases h
  | some e =>
    rw [q] at h
    have hc : e.count = c := Option.some.inj h
    have hw : e.word = w := by have z := List.find?_some q; exact beq_iff_eq.mp z
    have he : e ∈ d := List.mem_of_find?_eq_some q
    unfold Ks297.counted
    rw [r.find, q]
    show Rel _ (Ks295.insert ⟨w, f e.count⟩ (l.filter fun x => x.word != w))
    rw [hc]
    have hne : ∀ x ∈ l.filter (fun x => x.word != w), x.word ≠ w := fun x hx => bne_iff_ne.mp (List.mem_filter.mp hx).2
    refine ⟨insert_sorted (List.Pairwise.filter _ r.so) hne, (insert_perm _ _).trans ?_, by rw [setE_words]; exact r.nd⟩
    refine ((r.pe.filter _).cons _).trans ?_
    have := perm_set r.nd he (f c)
    rw [hw] at this
    exact this
theorem Rel.meant {d l out : List Entry} (r : Rel d l) (ks : List Nat) (so : Sorted out) (pe : out.Perm (d.filter fun e => Ks295.keys e.word == ks)) : out = Ks295.meant l ks :=
  sorted_unique so (List.Pairwise.filter _ r.so) (pe.trans (r.pe.filter _).symm)
theorem Rel.all {d out l : List Entry} (r : Rel d l) (so : Sorted out) (pe : out.Perm d) : out = l := sorted_unique so r.so (pe.trans r.pe.symm)
theorem lookE_mem {d : List Entry} (nd : (d.map Entry.word).Nodup) {e : Entry} (h : e ∈ d) : lookE d e.word = some e.count := by
  unfold lookE; rw [find_word nd h]; rfl
theorem lookE_has {d : List Entry} {w : List Nat} : (lookE d w).isSome = Ks295.has d w := by
  unfold lookE
  cases q : d.find? (fun e => e.word == w) with
  | none =>
    symm
    show Ks295.has d w = false
    cases z : Ks295.has d w with
    | false => rfl
    | true =>
      obtain ⟨e, he, h⟩ := List.any_eq_true.mp z
      exact absurd h (List.find?_eq_none.mp q e he)
  | some e =>
    symm
    exact List.any_eq_true.mpr ⟨e, List.mem_of_find?_eq_some q, by have z := List.find?_some q; exact z⟩
theorem Rel.full {d l : List Entry} (r : Rel d l) {w : List Nat} {c : Nat} (h : lookE d w = some c) : Ks297.full l w = decide (Ks295.MOST ≤ c) := by
  unfold lookE at h
  cases q : d.find? (fun e => e.word == w) with
  | none => rw [q] at h; cases h
  | some e =>
    rw [q] at h
    have hc : e.count = c := Option.some.inj h
    have hw : e.word = w := by have z := List.find?_some q; exact beq_iff_eq.mp z
    have he : e ∈ d := List.mem_of_find?_eq_some q
    unfold Ks297.full
    rw [r.any]
    by_cases z : Ks295.MOST ≤ c
    · rw [decide_eq_true z]
      exact List.any_eq_true.mpr ⟨e, he, by simp [hw, hc, z]⟩
    · rw [decide_eq_false z]
      cases y : d.any (fun e => e.word == w && decide (Ks295.MOST ≤ e.count)) with
      | false => rfl
      | true =>
        obtain ⟨x, hx, k⟩ := List.any_eq_true.mp y
        simp only [Bool.and_eq_true, beq_iff_eq, decide_eq_true_eq] at k
        have : x = e := nodup_word r.nd hx he (k.1.trans hw.symm)
        rw [this, hc] at k
        exact absurd k.2 z
end Wk
namespace Wk
open Ks295 (Entry)
def linesStep (st : List (List Nat) × List Nat) (b : Nat) : List (List Nat) × List Nat := if b = 10 then (st.1 ++ [st.2], []) else (st.1, st.2 ++ [b])
def linesFin (st : List (List Nat) × List Nat) : List (List Nat) := if 0 < st.2.length then st.1 ++ [st.2] else st.1
def linesM (bs : List Nat) : List (List Nat) := linesFin (bs.foldl linesStep ([], []))
theorem takeWhile_no {cur : List Nat} (h : ∀ x ∈ cur, x ≠ 10) (r : List Nat) : (cur ++ r).takeWhile (fun b => b != 10) = cur ++ r.takeWhile (fun b => b != 10) :=
  List.takeWhile_append_of_pos fun x hx => bne_iff_ne.mpr (h x hx)
theorem dropWhile_no {cur : List Nat} (h : ∀ x ∈ cur, x ≠ 10) (r : List Nat) : (cur ++ r).dropWhile (fun b => b != 10) = r.dropWhile (fun b => b != 10) :=
  List.dropWhile_append_of_pos fun x hx => bne_iff_ne.mpr (h x hx)
theorem lines_nil : ∀ n, Ks295.lines n [] = []
  | 0 => rfl
  | n + 1 => by show (if ([] : List Nat) = [] then _ else _) = _; rw [if_pos rfl]
theorem lines_fold : ∀ (bs : List Nat) (acc : List (List Nat)) (cur : List Nat) (n : Nat), (∀ x ∈ cur, x ≠ 10) → cur.length + bs.length < n → linesFin (bs.foldl linesStep (acc, cur)) = acc ++ Ks295.lines n (cur ++ bs)
  | [], acc, cur, 0, _, hn => absurd hn (Nat.not_lt_zero _)
  | [], acc, cur, n + 1, h, hn => by
    rw [List.append_nil]
    show linesFin (acc, cur) = acc ++ (if cur = [] then [] else cur.takeWhile (fun b => b != 10) :: Ks295.lines n ((cur.dropWhile (fun b => b != 10)).drop 1))
    have e1 := takeWhile_no h []
    have e2 := dropWhile_no h []
    rw [List.append_nil] at e1 e2
    rw [e1, e2]
    unfold linesFin
    cases cur with
    | nil => simp
    | cons a r =>
      have n1 : ¬ (a :: r = []) := by simp
      have n2 : 0 < (a :: r).length := by simp
      rw [if_neg n1, if_pos n2]
      simp [lines_nil]
  | b :: bs, acc, cur, 0, _, hn => absurd hn (Nat.not_lt_zero _)
  | b :: bs, acc, cur, n + 1, h, hn => by
    rw [List.foldl_cons]
    have hn' : cur.length + (bs.length + 1) < n + 1 := hn
    by_cases hb : b = 10
    · subst hb
      have e : linesStep (acc, cur) 10 = (acc ++ [cur], []) := if_pos rfl
      rw [e, lines_fold bs (acc ++ [cur]) [] n (by simp) (by simp; omega)]
      show _ = acc ++ (if cur ++ 10 :: bs = [] then [] else (cur ++ 10 :: bs).takeWhile (fun b => b != 10) :: Ks295.lines n (((cur ++ 10 :: bs).dropWhile (fun b => b != 10)).drop 1))
      rw [if_neg (by simp), takeWhile_no h, dropWhile_no h]
      simp
    · have e : linesStep (acc, cur) b = (acc, cur ++ [b]) := if_neg hb
      rw [e, lines_fold bs acc (cur ++ [b]) (n + 1) (fun x hx => ?_) (by simp; omega), List.append_assoc]
      · rfl
      · rcases List.mem_append.mp hx with q | q
        · exact h x q
        · rw [List.mem_singleton.mp q]; exact hb
theorem linesM_eq (bs : List Nat) : linesM bs = Ks295.lines (bs.length + 1) bs := by
  have := lines_fold bs [] [] (bs.length + 1) (by simp) (by simp)
  unfold linesM
  simpa using this
def digitB (b : Nat) : Bool := decide (48 ≤ b) && decide (b ≤ 57)
def numStep (n b : Nat) : Nat := n * 10 + b - 48
def readCount (ds : List Nat) : Nat :=
  if ¬ (1 ≤ ds.length ∧ ds.length ≤ 7) then 0 else if ds.head? = some 48 ∨ ds.all digitB = false then 0 else
  if 1 ≤ ds.foldl numStep 0 ∧ ds.foldl numStep 0 ≤ 1000000 then ds.foldl numStep 0 else 0
theorem numStep_eq : ∀ (ds : List Nat) (n : Nat), ds.all digitB = true → ds.foldl numStep n = ds.foldl (fun n b => 10 * n + (b - 48)) n
  | [], _, _ => rfl
  | b :: r, n, h => by
    rw [List.all_cons, Bool.and_eq_true] at h
    have hb : 48 ≤ b := by have := h.1; unfold digitB at this; simp at this; exact this.1
    rw [List.foldl_cons, List.foldl_cons, numStep_eq r _ h.2]
    have : numStep n b = 10 * n + (b - 48) := by unfold numStep; omega
    rw [this]
theorem num_ge : ∀ (ds : List Nat) (n : Nat), n ≤ ds.foldl (fun n b => 10 * n + (b - 48)) n
  | [], n => Nat.le_refl _
  | b :: r, n => Nat.le_trans (by omega) (num_ge r (10 * n + (b - 48)))
theorem readCount_eq (ds : List Nat) : readCount ds = (Ks295.numOf ds).getD 0 ∧ ∀ n, Ks295.numOf ds = some n → 1 ≤ n ∧ n ≤ 1000000 := by
  unfold readCount Ks295.numOf
  by_cases h1 : 1 ≤ ds.length ∧ ds.length ≤ 7
  · rw [if_neg (not_not_intro h1)]
    have e1 : (ds != []) = true := by rw [bne_iff_ne]; intro z; rw [z] at h1; simp at h1
    by_cases h2 : ds.head? = some 48
    · rw [if_pos (.inl h2)]
      rw [if_neg (by simp [h2])]
      exact ⟨rfl, fun n h => by cases h⟩
    · cases h3 : ds.all digitB with
      | false =>
        have h3' : ds.all (fun b => decide (48 ≤ b) && decide (b ≤ 57)) = false := h3
        rw [if_pos (.inr rfl), if_neg (by rw [h3']; simp)]
        exact ⟨rfl, fun n h => by cases h⟩
      | true =>
        have h3' : ds.all (fun b => decide (48 ≤ b) && decide (b ≤ 57)) = true := h3
        have c1 : ((ds != [] && decide (ds.length ≤ 7) && ds.all fun b => decide (48 ≤ b) && decide (b ≤ 57)) && ds.head? != some 48) = true := by rw [h3', e1]; simp [h1.2, h2]
        rw [if_neg (by simp [h2]), if_pos c1, numStep_eq ds 0 h3]
        have hpos : 1 ≤ ds.foldl (fun n b => 10 * n + (b - 48)) 0 := by
          cases ds with
          | nil => simp at h1
          | cons b r =>
            rw [List.foldl_cons]
            refine Nat.le_trans ?_ (num_ge r _)
            have hb : digitB b = true := by rw [List.all_cons, Bool.and_eq_true] at h3; exact h3.1
            unfold digitB at hb
            simp at hb h2
            omega
        show (if _ then _ else _) = (if _ ≤ Ks295.MOST then some _ else none).getD 0 ∧ ∀ n, (if _ ≤ Ks295.MOST then some _ else none) = some n → _
        by_cases h4 : ds.foldl (fun n b => 10 * n + (b - 48)) 0 ≤ Ks295.MOST
        · rw [if_pos h4, if_pos ⟨hpos, h4⟩]
          exact ⟨rfl, fun n h => by have e := Option.some.inj h; rw [← e]; exact ⟨hpos, h4⟩⟩
        · rw [if_neg h4, if_neg (fun z => h4 z.2)]
          exact ⟨rfl, fun n h => by cases h⟩
  · rw [if_pos h1, if_neg]
    · exact ⟨rfl, fun n h => by cases h⟩
    · simp only [Bool.and_eq_true, decide_eq_true_eq, bne_iff_ne]
      rintro ⟨⟨⟨a, b⟩, _⟩, _⟩
      refine h1 ⟨?_, b⟩
      cases ds with
      | nil => exact absurd rfl a
      | cons _ _ => simp
def blankAt (t : List Nat) : Nat := (t.takeWhile fun b => b != 32).length
def addLine (t : List Nat) (d : List Entry) : Option (List Entry) :=
  if d.length = 64 ∨ 32 ∉ t then none else
  if Ks295.isWord (t.take (blankAt t)) = false ∨ Ks295.has d (t.take (blankAt t)) = true ∨ readCount (t.drop (blankAt t + 1)) = 0 then none else
  some (d ++ [⟨t.take (blankAt t), readCount (t.drop (blankAt t + 1))⟩])
theorem take_blank (t : List Nat) : t.take (blankAt t) = t.takeWhile fun b => b != 32 := by
  unfold blankAt
  have := List.takeWhile_prefix (l := t) (fun b => b != 32)
  exact (List.prefix_iff_eq_take.mp this).symm
theorem blank_all {t : List Nat} (h : 32 ∉ t) : t.takeWhile (fun b => b != 32) = t := by
  have := List.takeWhile_append_of_pos (p := fun b => b != 32) (l₁ := t) (l₂ := []) fun x hx => bne_iff_ne.mpr fun e => h (e ▸ hx)
  simpa using this
theorem addLine_eq {t : List Nat} {d l : List Entry} (r : Rel d l) (h64 : d.length ≤ 64) :
    (∃ d' l', addLine t d = some d' ∧ Rel d' l' ∧ d'.length ≤ 64 ∧ (∀ e ∈ d', e ∈ d ∨ (Ks295.isWord e.word = true ∧ 1 ≤ e.count ∧ e.count ≤ 1000000)) ∧ ∀ k ls, Ks295.readFrom k (t :: ls) l = Ks295.readFrom (k + 1) ls l') ∨
    (addLine t d = none ∧ ∀ k ls, Ks295.readFrom k (t :: ls) l = .error k) := by
  have unf : ∀ k ls, Ks295.readFrom k (t :: ls) l = match Ks295.entryOf t with
    | none => .error k
    | some e => if Ks295.has l e.word || decide (Ks295.WORDS ≤ l.length) then .error k else Ks295.readFrom (k + 1) ls (Ks295.insert e l) := fun k ls => by
    rw [Ks295.readFrom]
    cases Ks295.entryOf t <;> rfl
  have ent : Ks295.entryOf t = if Ks295.isWord (t.takeWhile fun b => b != 32) then (match Ks295.numOf (t.drop ((t.takeWhile fun b => b != 32).length + 1)) with
    | some n => some ⟨t.takeWhile fun b => b != 32, n⟩
    | none => none) else none := rfl
  obtain ⟨rc, rp⟩ := readCount_eq (t.drop (blankAt t + 1))
  have rc' : readCount (t.drop (blankAt t + 1)) = (Ks295.numOf (t.drop ((t.takeWhile fun b => b != 32).length + 1))).getD 0 := rc
  have rp' : ∀ n, Ks295.numOf (t.drop ((t.takeWhile fun b => b != 32).length + 1)) = some n → 1 ≤ n ∧ n ≤ 1000000 := rp
  unfold addLine
  rw [take_blank]
  have none_of : Ks295.entryOf t = none → ∀ k ls, Ks295.readFrom k (t :: ls) l = .error k := fun e k ls => by rw [unf, e]
  by_cases hb : 32 ∈ t
  · by_cases h0 : d.length = 64
    · right
      rw [if_pos (.inl h0)]
      refine ⟨rfl, fun k ls => ?_⟩
      rw [unf]
      cases Ks295.entryOf t with
      | none => rfl
      | some e =>
        show (if Ks295.has l e.word || decide (Ks295.WORDS ≤ l.length) then _ else _) = _
        have : decide (Ks295.WORDS ≤ l.length) = true := decide_eq_true (by rw [r.len, h0]; exact Nat.le_refl _)
        rw [this, Bool.or_true, if_pos rfl]
    · rw [if_neg (by simp [h0, hb])]
      cases hw : Ks295.isWord (t.takeWhile fun b => b != 32) with
      | false =>
        right
        rw [if_pos (.inl rfl)]
        exact ⟨rfl, none_of (by rw [ent, hw]; rfl)⟩
      | true =>
        cases hn : Ks295.numOf (t.drop ((t.takeWhile fun b => b != 32).length + 1)) with
        | none =>
          right
          rw [rc', hn, if_pos (.inr (.inr rfl))]
          exact ⟨rfl, none_of (by rw [ent, hw, hn]; rfl)⟩
        | some n =>
          have en : Ks295.entryOf t = some ⟨t.takeWhile fun b => b != 32, n⟩ := by rw [ent, hw, hn]; rfl
          have hp := rp' n hn
          rw [rc', hn]
          cases hh : Ks295.has d (t.takeWhile fun b => b != 32) with
          | true =>
            right
            rw [if_pos (.inr (.inl rfl))]
            refine ⟨rfl, fun k ls => ?_⟩
            rw [unf, en]
            show (if Ks295.has l (t.takeWhile fun b => b != 32) || _ then _ else _) = _
            rw [r.has, hh, Bool.true_or, if_pos rfl]
          | false =>
            left
            have hgt : ¬ (some n).getD 0 = 0 := by show ¬ n = 0; omega
            rw [if_neg (by simp; omega)]
            refine ⟨_, _, rfl, r.add hh, by simp; omega, fun e he => ?_, fun k ls => ?_⟩
            · rcases List.mem_append.mp he with q | q
              · exact .inl q
              · rw [List.mem_singleton.mp q]; exact .inr ⟨hw, hp⟩
            · rw [unf, en]
              show (if Ks295.has l (t.takeWhile fun b => b != 32) || decide (Ks295.WORDS ≤ l.length) then _ else _) = _
              have : decide (Ks295.WORDS ≤ l.length) = false := decide_eq_false (by rw [r.len]; show ¬ 64 ≤ d.length; omega)
              rw [r.has, hh, this]
              rfl
  · right
    rw [if_pos (.inr hb)]
    refine ⟨rfl, none_of ?_⟩
    rw [ent, blank_all hb]
    have : t.drop (t.length + 1) = [] := List.drop_eq_nil_of_le (by omega)
    rw [this]
    have : Ks295.numOf [] = none := rfl
    rw [this]
    split <;> rfl
def addLines : Nat → List (List Nat) → List Entry → Nat ⊕ List Entry
  | _, [], d => .inr d
  | k, t :: ls, d => match addLine t d with
    | none => .inl k
    | some d' => addLines (k + 1) ls d'
def Good (d : List Entry) : Prop := ∀ e ∈ d, Ks295.isWord e.word = true ∧ 1 ≤ e.count ∧ e.count ≤ 1000000
theorem addLines_eq : ∀ (ls : List (List Nat)) (k : Nat) (d l : List Entry), Rel d l → d.length ≤ 64 → Good d →
    (∃ j, addLines k ls d = .inl j ∧ Ks295.readFrom k ls l = .error j) ∨ ∃ d' l', addLines k ls d = .inr d' ∧ Ks295.readFrom k ls l = .ok l' ∧ Rel d' l' ∧ d'.length ≤ 64 ∧ Good d'
  | [], k, d, l, r, h, g => .inr ⟨d, l, rfl, rfl, r, h, g⟩
  | t :: ls, k, d, l, r, h, g => by
    rcases addLine_eq (t := t) r h with ⟨d', l', e, r', h', g', q⟩ | ⟨e, q⟩
    · have g2 : Good d' := fun x hx => (g' x hx).elim (g x) id
      rw [q]
      have : addLines k (t :: ls) d = addLines (k + 1) ls d' := by
        show (match addLine t d with | none => _ | some d' => _) = _
        rw [e]
      rw [this]
      exact addLines_eq ls (k + 1) d' l' r' h' g2
    · left
      refine ⟨k, ?_, q k ls⟩
      show (match addLine t d with | none => _ | some d' => _) = _
      rw [e]
end Wk
namespace Wk
open PyKs297 (shape whole)
inductive CallAt (all : List Int) (p : Nat) : List (List Int) → Nat → Prop
  | begin (n : Nat) (bs : List Int) : all[p]? = some 0 → all[p + 1]? = some (n : Int) → bs = (all.drop (p + 2)).take n → bs.length = n → (∀ z ∈ bs, 0 ≤ z ∧ z < 256) → p + 2 + n ≤ all.length → CallAt all p [[0], bs] (p + 2 + n)
  | learn (x : Int) (n : Nat) (bs : List Int) : all[p]? = some 1 → all[p + 1]? = some x → all[p + 2]? = some (n : Int) → bs = (all.drop (p + 3)).take n → bs.length = n → (∀ z ∈ bs, 0 ≤ z ∧ z < 256) → 0 ≤ x → x < 4294967296 → p + 3 + n ≤ all.length → CallAt all p [[1, x], bs] (p + 3 + n)
  | key (x : Int) : all[p]? = some 2 → all[p + 1]? = some x → 0 ≤ x → x < 4294967296 → p + 2 ≤ all.length → CallAt all p [[2, x]] (p + 2)
  | row (n : Nat) (bs : List Int) : all[p]? = some 7 → all[p + 1]? = some (n : Int) → bs = (all.drop (p + 2)).take n → bs.length = n → (∀ z ∈ bs, 0 ≤ z ∧ z < 256) → p + 2 + n ≤ all.length → CallAt all p [[7], bs] (p + 2 + n)
  | plain (k : Int) : (k = 3 ∨ k = 4 ∨ k = 5 ∨ k = 6 ∨ k = 8 ∨ k = 9) → all[p]? = some k → p + 1 ≤ all.length → CallAt all p [[k]] (p + 1)
theorem row_some {r x t : List Int} (h : PyFlat.row r = some (x, t)) : ∃ n : Nat, ∃ q, r = (n : Int) :: q ∧ x = q.take n ∧ t = q.drop n ∧ n ≤ q.length := by
  cases r with
  | nil => cases h
  | cons n q =>
    unfold PyFlat.row at h
    dsimp only at h
    by_cases c : 0 ≤ n ∧ n.toNat ≤ q.length
    · rw [if_pos c] at h
      have e := Option.some.inj h
      have e1 := congrArg Prod.fst e
      have e2 := congrArg Prod.snd e
      exact ⟨n.toNat, q, by rw [Int.toNat_of_nonneg c.1], e1.symm, e2.symm, c.2⟩
    · rw [if_neg c] at h; cases h
theorem rows1_some {r : List Int} {xs : List (List Int)} {t : List Int} (h : PyFlat.rows 1 r = some (xs, t)) : ∃ n : Nat, ∃ q, r = (n : Int) :: q ∧ xs = [q.take n] ∧ t = q.drop n ∧ n ≤ q.length := by
  unfold PyFlat.rows at h
  cases e : PyFlat.row r with
  | none => rw [e] at h; cases h
  | some y =>
    obtain ⟨x, s⟩ := y
    rw [e] at h
    have h' : some ([x], s) = some (xs, t) := h
    have e1 : [x] = xs := congrArg Prod.fst (Option.some.inj h')
    have e2 : s = t := congrArg Prod.snd (Option.some.inj h')
    obtain ⟨n, q, a, b, c, d⟩ := row_some e
    exact ⟨n, q, a, by rw [← e1, b], by rw [← e2, c], d⟩
theorem drop_at {α : Type} {l : List α} {p : Nat} {x : α} {r : List α} (h : l.drop p = x :: r) : l[p]? = some x ∧ l.drop (p + 1) = r ∧ p < l.length := by
  have hp : p < l.length := by
    rcases Nat.lt_or_ge p l.length with q | q
    · exact q
    · rw [List.drop_eq_nil_of_le q] at h; cases h
  rw [List.drop_eq_getElem_cons hp] at h
  exact ⟨by rw [List.getElem?_eq_getElem hp, (List.cons.inj h).1], (List.cons.inj h).2, hp⟩
theorem natural_iff {z : Int} {k : Nat} : Ks297Neutral.natural z k = true ↔ 0 ≤ z ∧ z < 2 ^ k := by
  unfold Ks297Neutral.natural; simp
theorem bytes_of {bs : List Int} (h : bs.all (fun z => Ks297Neutral.natural z 8) = true) : ∀ z ∈ bs, 0 ≤ z ∧ z < 256 := fun z hz =>
  natural_iff.mp (List.all_eq_true.mp h z hz)
theorem call_at {all : List Int} {p : Nat} {c : List (List Int)} {t : List Int} (h : PyFlat.call shape (all.drop p) = some (c, t)) (ha : Ks297Neutral.asked1 (whole c) = true) : ∃ p', CallAt all p c p' ∧ t = all.drop p' ∧ p < p' ∧ whole c = c := by
  cases hd : all.drop p with
  | nil => rw [hd] at h; cases h
  | cons x r =>
    rw [hd] at h
    obtain ⟨g0, g1, g2⟩ := drop_at hd
    unfold PyFlat.call at h
    dsimp only at h
    have zero : ∀ k : Int, shape x = some (0, 0) → c = [[x]] ∧ t = r := fun k e => by
      rw [e] at h
      simp only [Nat.not_lt_zero, if_false] at h
      have h' : (match PyFlat.rows 0 (r.drop 0) with | none => none | some (xs, t) => some ((x :: r.take 0) :: xs, t)) = some (c, t) := h
      have h2 : some ([[x]], r) = some (c, t) := h'
      have e := Option.some.inj h2
      exact ⟨(congrArg Prod.fst e).symm, (congrArg Prod.snd e).symm⟩
    have one : shape x = some (0, 1) → ∃ n : Nat, ∃ q, r = (n : Int) :: q ∧ c = [[x], q.take n] ∧ t = q.drop n ∧ n ≤ q.length := fun e => by
      rw [e] at h
      simp only [Nat.not_lt_zero, if_false] at h
      cases e1 : PyFlat.rows 1 (r.drop 0) with
      | none => rw [e1] at h; cases h
      | some y =>
        obtain ⟨xs, s⟩ := y
        rw [e1] at h
        have h2 : some ([x] :: xs, s) = some (c, t) := h
        have e := Option.some.inj h2
        obtain ⟨n, q, a, b, d, f⟩ := rows1_some e1
        have e3 : [x] :: xs = c := congrArg Prod.fst e
        have e4 : s = t := congrArg Prod.snd e
        exact ⟨n, q, a, by rw [← e3, b], by rw [← e4, d], f⟩
    have rowAt : ∀ (n : Nat) (q : List Int) (k : Nat), all.drop (p + k) = (n : Int) :: q → n ≤ q.length → all[p + k]? = some (n : Int) ∧ q.take n = (all.drop (p + k + 1)).take n ∧ (q.take n).length = n ∧ q.drop n = all.drop (p + k + 1 + n) ∧ p + k + 1 + n ≤ all.length := fun n q k e hn => by
      obtain ⟨a, b, d⟩ := drop_at e
      have hl : q.length = all.length - (p + k + 1) := by rw [← b, List.length_drop]
      exact ⟨a, by rw [b], by rw [List.length_take]; omega, by rw [← b, List.drop_drop], by omega⟩
    by_cases x0 : x = 0
    · subst x0
      obtain ⟨n, q, e1, e2, e3, e4⟩ := one rfl
      rw [e1] at g1
      obtain ⟨a1, a2, a3, a4, a5⟩ := rowAt n q 1 g1 e4
      rw [e2] at ha ⊢
      exact ⟨p + 2 + n, .begin n _ g0 a1 a2 a3 (bytes_of ha) a5, by rw [e3, a4], by omega, rfl⟩
    by_cases x1 : x = 1
    · subst x1
      have e : shape 1 = some (1, 1) := rfl
      rw [e] at h
      cases r with
      | nil => simp at h
      | cons y r =>
        obtain ⟨b0, b1, b2⟩ := drop_at g1
        simp only [List.length_cons, Nat.not_lt, if_neg (show ¬ (r.length + 1 < 1) by omega)] at h
        cases e1 : PyFlat.rows 1 ((y :: r).drop 1) with
        | none => rw [e1] at h; cases h
        | some z =>
          obtain ⟨xs, s⟩ := z
          rw [e1] at h
          have h2 : some ([1, y] :: xs, s) = some (c, t) := h
          have e := Option.some.inj h2
          obtain ⟨n, q, f1, f2, f3, f4⟩ := rows1_some e1
          have f1' : r = (n : Int) :: q := f1
          rw [f1'] at b1
          obtain ⟨a1, a2, a3, a4, a5⟩ := rowAt n q 2 b1 f4
          have e3 : [1, y] :: xs = c := congrArg Prod.fst e
          have e4 : s = t := congrArg Prod.snd e
          have ec : c = [[1, y], q.take n] := by rw [← e3, f2]
          have et : t = q.drop n := by rw [← e4, f3]
          rw [ec] at ha ⊢
          have ha' : (Ks297Neutral.natural y 32 && ((q.take n).all (fun (z : Int) => Ks297Neutral.natural z 8))) = true := ha
          rw [Bool.and_eq_true] at ha'
          have hy := natural_iff.mp ha'.1
          exact ⟨p + 3 + n, .learn y n _ g0 b0 a1 a2 a3 (bytes_of ha'.2) hy.1 hy.2 a5, by rw [et, a4], by omega, rfl⟩
    by_cases x2 : x = 2
    · subst x2
      have e : shape 2 = some (1, 0) := rfl
      rw [e] at h
      cases r with
      | nil => simp at h
      | cons y r =>
        obtain ⟨b0, b1, b2⟩ := drop_at g1
        simp only [List.length_cons, Nat.not_lt, if_neg (show ¬ (r.length + 1 < 1) by omega)] at h
        have h2 : some ([[2, y]], r) = some (c, t) := h
        have e := Option.some.inj h2
        have ec : c = [[2, y]] := (congrArg Prod.fst e).symm
        have et : t = r := (congrArg Prod.snd e).symm
        rw [ec] at ha ⊢
        have hy := natural_iff.mp (show Ks297Neutral.natural y 32 = true from ha)
        exact ⟨p + 2, .key y g0 b0 hy.1 hy.2 (by omega), by rw [et, ← b1], by omega, rfl⟩
    by_cases x7 : x = 7
    · subst x7
      obtain ⟨n, q, e1, e2, e3, e4⟩ := one rfl
      rw [e1] at g1
      obtain ⟨a1, a2, a3, a4, a5⟩ := rowAt n q 1 g1 e4
      rw [e2] at ha ⊢
      exact ⟨p + 2 + n, .row n _ g0 a1 a2 a3 (bytes_of ha) a5, by rw [e3, a4], by omega, rfl⟩
    have pl : (x = 3 ∨ x = 4 ∨ x = 5 ∨ x = 6 ∨ x = 8 ∨ x = 9) → ∃ p', CallAt all p c p' ∧ t = all.drop p' ∧ p < p' ∧ whole c = c := fun hx => by
      have e : shape x = some (0, 0) := by rcases hx with rfl | rfl | rfl | rfl | rfl | rfl <;> rfl
      obtain ⟨ec, et⟩ := zero x e
      rw [ec]
      exact ⟨p + 1, .plain x hx g0 (by omega), by rw [et, ← g1], by omega, by rcases hx with rfl | rfl | rfl | rfl | rfl | rfl <;> rfl⟩
    by_cases x3 : x = 3
    · exact pl (.inl x3)
    by_cases x4 : x = 4
    · exact pl (.inr (.inl x4))
    by_cases x5 : x = 5
    · exact pl (.inr (.inr (.inl x5)))
    by_cases x6 : x = 6
    · exact pl (.inr (.inr (.inr (.inl x6))))
    by_cases x8 : x = 8
    · exact pl (.inr (.inr (.inr (.inr (.inl x8)))))
    by_cases x9 : x = 9
    · exact pl (.inr (.inr (.inr (.inr (.inr x9)))))
    have e : shape x = none := by
      unfold PyKs297.shape
      simp [x0, x1, x2, x3, x4, x5, x6, x7, x8, x9]
    rw [e] at h; cases h
abbrev SSt := Ks297Neutral.S
abbrev stepC := Ks297Neutral.step
structure Run (all : List Int) (p : Nat) (cs : List (List (List Int))) (s : SSt) (out : List Int) : Prop where
  rest : ∃ f, PyFlat.calls shape f (all.drop p) = some cs
  ans : PyKs297.answers all = out ++ PyFlat.told (PyFlat.played stepC s (cs.map whole))
  ask : ∀ c ∈ cs, Ks297Neutral.asked1 (whole c) = true
  len : p ≤ all.length
theorem calls_some {l : List Int} {cs : List (List (List Int))} (h : PyKs297.calls l = some cs) : ∃ cs', PyFlat.calls shape l.length l = some cs' ∧ cs = cs'.map whole := by
  unfold PyKs297.calls at h
  cases e : PyFlat.calls shape l.length l with
  | none => rw [e] at h; cases h
  | some cs' => rw [e] at h; exact ⟨cs', rfl, (Option.some.inj h).symm⟩
theorem runs_played : ∀ (cs : List (List (List Int))) (s : SSt), Ks297Neutral.runs s cs = PyFlat.played stepC s cs
  | [], _ => rfl
  | c :: cs, s => by
    show (stepC s c).2 :: Ks297Neutral.runs (stepC s c).1 cs = _
    rw [runs_played cs]
    rfl
theorem told_len : ∀ l : List (List Int), (PyFlat.told l).length = l.length + (l.map List.length).foldl (· + ·) 0
  | [] => rfl
  | a :: l => by
    have ih := told_len l
    have e : PyFlat.told (a :: l) = ((a.length : Int) :: a) ++ PyFlat.told l := by unfold PyFlat.told; rw [List.flatMap_cons]
    have g : ∀ (xs : List Nat) (n : Nat), xs.foldl (· + ·) n = n + xs.foldl (· + ·) 0 := by
      intro xs
      induction xs with
      | nil => intro n; simp
      | cons x xs ih => intro n; rw [List.foldl_cons, List.foldl_cons, ih, ih (0 + x)]; omega
    rw [e, List.length_append, ih, List.map_cons, List.foldl_cons, g _ (0 + a.length)]
    simp only [List.length_cons]
    omega
theorem played_len : ∀ (cs : List (List (List Int))) (s : SSt), (PyFlat.played stepC s cs).length = cs.length
  | [], _ => rfl
  | c :: cs, s => by
    show (PyFlat.played stepC _ cs).length + 1 = _
    rw [played_len cs]; rfl
theorem Run.start {all : List Int} (h : PyKs297.answers_asked all = true) : (∃ cs, Run all 0 cs Ks297Neutral.start []) ∧ (PyKs297.answers all).length ≤ 1005000 := by
  unfold PyKs297.answers_asked at h
  cases e : PyKs297.calls all with
  | none => rw [e] at h; cases h
  | some cs =>
    rw [e] at h
    have h' : (PyFlat.atMost 5000 cs && Ks297Neutral.asked cs) = true := h
    rw [Bool.and_eq_true] at h'
    obtain ⟨cs', e1, e2⟩ := calls_some e
    have hA := h'.2
    unfold Ks297Neutral.asked at hA
    simp only [Bool.and_eq_true, decide_eq_true_eq] at hA
    have ea : PyKs297.answers all = PyFlat.told (PyFlat.played stepC Ks297Neutral.start cs) := by unfold PyKs297.answers; rw [e]
    refine ⟨⟨cs', ⟨_, e1⟩, by rw [ea, e2]; rfl, fun c hc => ?_, Nat.zero_le _⟩, ?_⟩
    · exact List.all_eq_true.mp hA.1.1.1.1 _ (by rw [e2]; exact List.mem_map_of_mem hc)
    · rw [ea, told_len, played_len]
      have h1 : cs.length ≤ 5000 := of_decide_eq_true h'.1
      have h2 := hA.2
      unfold Ks297Neutral.f at h2
      rw [runs_played] at h2
      omega
theorem Run.done {all : List Int} {p : Nat} {cs : List (List (List Int))} {s : SSt} {out : List Int} (r : Run all p cs s out) (h : all.length ≤ p) : PyKs297.answers all = out := by
  obtain ⟨f, e⟩ := r.rest
  rw [List.drop_eq_nil_of_le h] at e
  have : cs = [] := by
    cases f with
    | zero => exact (Option.some.inj (show some [] = some cs from e)).symm
    | succ f => exact (Option.some.inj (show some [] = some cs from e)).symm
  rw [r.ans, this]
  simp [PyFlat.played, PyFlat.told]
theorem Run.turn {all : List Int} {p : Nat} {cs : List (List (List Int))} {s : SSt} {out : List Int} (r : Run all p cs s out) (h : p < all.length) :
    ∃ c cs' p', CallAt all p c p' ∧ p < p' ∧ Run all p' cs' (stepC s c).1 (out ++ (((stepC s c).2.length : Int) :: (stepC s c).2)) := by
  obtain ⟨f, e⟩ := r.rest
  cases hd : all.drop p with
  | nil => rw [List.drop_eq_nil_iff] at hd; omega
  | cons x q =>
    rw [hd] at e
    cases f with
    | zero => cases e
    | succ f =>
      unfold PyFlat.calls at e
      cases ec : PyFlat.call shape (x :: q) with
      | none => rw [ec] at e; cases e
      | some y =>
        obtain ⟨c, t⟩ := y
        rw [ec] at e
        have e' : (match PyFlat.calls shape f t with | none => none | some cs => some (c :: cs)) = some cs := e
        cases et : PyFlat.calls shape f t with
        | none => rw [et] at e'; cases e'
        | some cs' =>
          rw [et] at e'
          have ecs : cs = c :: cs' := (Option.some.inj e').symm
          obtain ⟨p', hc, ht, hlt, hw⟩ := call_at (all := all) (p := p) (by rw [hd]; exact ec) (r.ask c (by rw [ecs]; exact List.mem_cons_self))
          have hp' : p' ≤ all.length := by cases hc <;> assumption
          refine ⟨c, cs', p', hc, hlt, ⟨⟨f, by rw [← ht]; exact et⟩, ?_, fun x hx => r.ask x (by rw [ecs]; exact List.mem_cons_of_mem _ hx), hp'⟩⟩
          rw [r.ans, ecs, List.map_cons, hw]
          show out ++ PyFlat.told ((stepC s c).2 :: PyFlat.played stepC (stepC s c).1 (cs'.map whole)) = _
          have : ∀ a l, PyFlat.told (a :: l) = ((a.length : Int) :: a) ++ PyFlat.told l := fun a l => by unfold PyFlat.told; rw [List.flatMap_cons]
          rw [this, List.append_assoc]
end Wk
namespace Wk
open PySem L2
def wv (w : List Nat) : List V := w.map fun (b : Nat) => V.int (b : Int)
def kw (w : List Nat) : List Key := w.map fun (b : Nat) => Sum.inl (b : Int)
def wi (w : List Nat) : List Int := w.map fun (b : Nat) => (b : Int)
def ek (e : Ks295.Entry) : List Key × V := (kw e.word, V.int (e.count : Int))
def dv (D : List Ks295.Entry) : List (List Key × V) := D.map ek
theorem kw_kV (w : List Nat) : (kw w).map kV = wv w := by
  unfold kw wv; rw [List.map_map]; rfl
theorem wi_V (w : List Nat) : (wi w).map V.int = wv w := by
  unfold wi wv; rw [List.map_map]; rfl
theorem wv_len (w : List Nat) : (wv w).length = w.length := List.length_map ..
theorem kw_inj : ∀ {a b : List Nat}, kw a = kw b → a = b
  | [], [], _ => rfl
  | [], _ :: _, h => by simp [kw] at h
  | _ :: _, [], h => by simp [kw] at h
  | x :: a, y :: b, h => by
    have h' : (Sum.inl (x : Int) : Key) :: kw a = Sum.inl (y : Int) :: kw b := h
    injection h' with h1 h2
    have := kw_inj h2
    have h3 : (x : Int) = y := Sum.inl.inj h1
    rw [this, Int.ofNat.inj h3]
theorem wv_at {w : List Nat} {i : Nat} {x : V} (h : (wv w)[i]? = some x) : ∃ b, w[i]? = some b ∧ x = V.int (b : Int) := by
  unfold wv at h
  rw [List.getElem?_map] at h
  obtain ⟨b, e, rfl⟩ := Option.map_eq_some_iff.mp h
  exact ⟨b, e, rfl⟩
theorem wv_take (w : List Nat) (n : Nat) : wv (w.take n) = (wv w).take n := by unfold wv; rw [List.map_take]
theorem wv_drop (w : List Nat) (n : Nat) : wv (w.drop n) = (wv w).drop n := by unfold wv; rw [List.map_drop]
theorem wv_app (a b : List Nat) : wv (a ++ b) = wv a ++ wv b := by unfold wv; rw [List.map_append]
theorem dv_len (D : List Ks295.Entry) : (dv D).length = D.length := List.length_map ..
theorem dv_val (D : List Ks295.Entry) (w : List Nat) : valV (dv D) (kw w) = (lookE D w).map fun (c : Nat) => V.int (c : Int) := by
  induction D with
  | nil => rfl
  | cons e D ih =>
    show valV (ek e :: dv D) (kw w) = _
    by_cases q : e.word = w
    · rw [valV_pos (show (ek e).1 = kw w by unfold ek; rw [q])]
      unfold lookE
      rw [List.find?_cons, beq_iff_eq.mpr q]
      rfl
    · rw [valV_neg (fun z => q (kw_inj z)), ih]
      unfold lookE
      rw [List.find?_cons, beq_eq_false_iff_ne.mpr q]
theorem dv_put_old {D : List Ks295.Entry} {w : List Nat} {n : Nat} (h : Ks295.has D w = true) : putK (dv D) (kw w) (V.int (n : Int)) = dv (setE D w n) := by
  unfold putK
  rw [if_pos]
  · unfold dv setE
    rw [List.map_map, List.map_map]
    refine List.map_congr_left fun e _ => ?_
    show (if kw e.word = kw w then (kw e.word, V.int (n : Int)) else ek e) = ek (if e.word = w then ⟨w, n⟩ else e)
    by_cases q : e.word = w
    · rw [if_pos q, if_pos (by rw [q]), q]; rfl
    · rw [if_neg q, if_neg (fun z => q (kw_inj z))]
  · rw [valV_any, dv_val, Option.isSome_map, lookE_has]; exact h
theorem dv_put_new {D : List Ks295.Entry} {w : List Nat} {n : Nat} (h : Ks295.has D w = false) : putK (dv D) (kw w) (V.int (n : Int)) = dv (D ++ [⟨w, n⟩]) := by
  unfold putK
  rw [if_neg]
  · unfold dv; rw [List.map_append]; rfl
  · rw [valV_any, dv_val, Option.isSome_map, lookE_has, h]; exact Bool.false_ne_true
theorem dv_at {D : List Ks295.Entry} {i : Nat} {k : List Key} {v : V} (h : (dv D)[i]? = some (k, v)) : ∃ e, D[i]? = some e ∧ k = kw e.word ∧ v = V.int (e.count : Int) := by
  unfold dv at h
  rw [List.getElem?_map] at h
  obtain ⟨e, h1, h2⟩ := Option.map_eq_some_iff.mp h
  unfold ek at h2
  injection h2 with h3 h4
  exact ⟨e, h1, h3.symm, h4.symm⟩
theorem ltL_before : ∀ (a b : List Nat), Sim.ltL (wi a) (wi b) = Ks295.before a b
  | [], [] => rfl
  | [], _ :: _ => rfl
  | _ :: _, [] => rfl
  | x :: a, y :: b => by
    show (if (x : Int) = y then Sim.ltL (wi a) (wi b) else decide ((x : Int) < y)) = (decide (x < y) || (x == y && Ks295.before a b))
    by_cases q : x = y
    · subst q
      rw [if_pos rfl, ltL_before a b]
      simp
    · rw [if_neg (show ¬ (x : Int) = (y : Int) by omega)]
      simp [q]
theorem first_key (e d : Ks295.Entry) : Ks295.first e d = (decide (-(e.count : Int) < -(d.count : Int)) || (decide (-(e.count : Int) = -(d.count : Int)) && Sim.ltL (wi e.word) (wi d.word))) := by
  unfold Ks295.first
  rw [ltL_before]
  congr 1
  · exact decide_eq_decide.mpr (by omega)
  · congr 1
    by_cases q : e.count = d.count
    · rw [beq_iff_eq.mpr q, decide_eq_true (by omega)]
    · rw [beq_eq_false_iff_ne.mpr q, decide_eq_false (by omega)]
end Wk
namespace Wk
open PySem PySem.Spec PyProof.Rows L2
def top (i : Nat) : Stmt := PySem.Challenge.pw_wordkeysdesk_s01_answers.main.body.getD i (.Pass ⟨0, 0, 0, 0⟩)
abbrev sLetter : Stmt := top 10
abbrev sDigit : Stmt := top 11
abbrev sWord : Stmt := top 12
abbrev sCount : Stmt := top 13
abbrev sKeys : Stmt := top 14
abbrev sOrder : Stmt := top 15
abbrev sLines : Stmt := top 16
abbrev sRead : Stmt := top 17
abbrev sAdd : Stmt := top 18
abbrev sWText : Stmt := top 19
abbrev sWList : Stmt := top 20
abbrev sWeight : Stmt := top 23
abbrev sWeighted : Stmt := top 24
abbrev sFirst : Stmt := top 25
abbrev sLikely : Stmt := top 26
abbrev sIsKey : Stmt := top 41
abbrev sWithLen : Stmt := top 42
abbrev sReader : Stmt := top 56
abbrev sCall : Stmt := top 57
abbrev sAnswers : Stmt := top 58
def GV (mg : Str → Option Value) (x : Str) (v : V) : Prop := ∃ u, mg x = some u ∧ RelV v u
theorem pe_gv {X : Cx} {x : Str} {v : V} {pos : Pos} (h : GV X.mg x v) (hg : Gl X x := by rfl) (hd : (x == ("__debug__" : Str)) = false := by decide) : PE X (.Name x pos) (tC v) :=
  let ⟨_, h1, h2⟩ := h
  pe_glob hg h1 h2 hd
def letterKeys : List Nat := [2, 2, 2, 3, 3, 3, 4, 4, 4, 5, 5, 5, 6, 6, 6, 7, 7, 7, 7, 8, 8, 8, 9, 9, 9, 9]
structure TxW (K : PySem.W.Frag) (mg : Str → Option Value) : Prop where
  lineEnd : GV mg "LINE_END" (.int 10)
  blank : GV mg "BLANK" (.int 32)
  zero : GV mg "DIGIT_ZERO" (.int 48)
  a : GV mg "LETTER_A" (.int 97)
  mostL : GV mg "MOST_LETTERS" (.int 12)
  mostC : GV mg "MOST_COUNT" (.int 1000000)
  mostD : GV mg "MOST_COUNT_DIGITS" (.int 7)
  mostW : GV mg "MOST_WORDS" (.int 64)
  keys : ∃ p, GV mg "LETTER_KEYS" (.ref p) ∧ ∀ H, SqT K H p (wv letterKeys)
  len : mg "len" = none
  all : mg "all" = none
  sorted : mg "sorted" = none
  tuple : mg "tuple" = none
  enumerate : mg "enumerate" = none
  list : mg "list" = none
  str : mg "str" = none
  ord : mg "ord" = none
  sum : mg "sum" = none
  min : mg "min" = none
  max : mg "max" = none
  range : mg "range" = none
  way0 : ∃ p q, GV mg "WAY_OF_NO_WORDS" (.ref p) ∧ (∀ H, SqT K H p [.int (-1), .int 0, .ref q] ∧ SqT K H q []) ∧ ∃ o : Obj, K.lookup q = some o ∧ o.dict = none
section
variable {P : Program} {w : World} {K : PySem.W.Frag} {mg : Str → Option Value} {base : Heap}
def spBetween (lo hi : Int) : Sp := fun vs H Q _ => ∃ z : Int, vs = [.int z] ∧ Q (.bl (decide (lo ≤ z ∧ z ≤ hi))) H
theorem scLetter : FnScope ["sign"] ["sign"] (defScope sLetter) := ⟨rfl, rfl, rfl, by decide +kernel, rfl, by decide +kernel, by decide +kernel⟩
theorem ok_letter {f : Addr} {fd : FuncData} (F : Fun K "is_letter" "is_letter" sLetter f fd) (T : TxW K mg) : FnOk P w K mg base CX0 1 f fd ["sign"] (spBetween 97 122) := by
  refine F.ok scLetter (fun vs H Q E h => ?_) (fun cdv A outer s H vs Q E hr h => ?_)
  · obtain ⟨z, rfl, _⟩ := h
    rfl
  · obtain ⟨z, rfl, k⟩ := h
    obtain ⟨p, tk, hk⟩ := T.keys
    refine ⟨_, pss_one (ps_ret (pe_chain op_le op_lt (pe_gv T.a) (pv 0) (pe_op op_add (pe_gv T.a) (pe_callB call_len_seq (by rfl) T.len PySem.boot_len (pa_cons (pe_gv tk) pa_nil))))), ?_⟩
    refine ⟨_, rfl, _, _, rfl, rfl, _, rfl, ite2 (fun h1 => ?_) fun h1 => ?_⟩
    · refine ⟨p, _, rfl, .inr (hk H), _, _, rfl, rfl, _, _, rfl, rfl, ?_⟩
      have e : decide (z < 97 + ((wv letterKeys).length : Int)) = decide (97 ≤ z ∧ z ≤ 122) := by
        have l : ((wv letterKeys).length : Int) = 26 := rfl
        rw [l]
        have := of_decide_eq_true h1
        exact decide_eq_decide.mpr (by omega)
      show Q (.bl (decide (z < 97 + ((wv letterKeys).length : Int)))) H
      rw [e]
      exact k
    · have h2 : ¬ (97 ≤ z) := fun q => h1 (decide_eq_true q)
      rw [decide_eq_false (fun q : 97 ≤ z ∧ z ≤ 122 => h2 q.1)] at k
      exact k
theorem scDigit : FnScope ["sign"] ["sign"] (defScope sDigit) := ⟨rfl, rfl, rfl, by decide +kernel, rfl, by decide +kernel, by decide +kernel⟩
theorem ok_digit {f : Addr} {fd : FuncData} (F : Fun K "is_digit" "is_digit" sDigit f fd) (T : TxW K mg) : FnOk P w K mg base CX0 1 f fd ["sign"] (spBetween 48 57) := by
  refine F.ok scDigit (fun vs H Q E h => ?_) (fun cdv A outer s H vs Q E hr h => ?_)
  · obtain ⟨z, rfl, _⟩ := h
    rfl
  · obtain ⟨z, rfl, k⟩ := h
    refine ⟨_, pss_one (ps_ret (pe_chain op_le op_lt (pe_gv T.zero) (pv 0) (pe_op op_add (pe_gv T.zero) pe_int))), ?_⟩
    refine ⟨_, rfl, _, _, rfl, rfl, _, rfl, ite2 (fun h1 => ?_) fun h1 => ?_⟩
    · refine ⟨_, _, rfl, rfl, _, _, rfl, rfl, ?_⟩
      have e : decide (z < 48 + 10) = decide (48 ≤ z ∧ z ≤ 57) := by
        have := of_decide_eq_true h1
        exact decide_eq_decide.mpr (by omega)
      show Q (.bl (decide (z < 48 + 10))) H
      rw [e]
      exact k
    · have h2 : ¬ (48 ≤ z) := fun q => h1 (decide_eq_true q)
      rw [decide_eq_false (fun q : 48 ≤ z ∧ z ≤ 57 => h2 q.1)] at k
      exact k
theorem scCount : FnScope ["number"] ["number"] (defScope sCount) := ⟨rfl, rfl, rfl, by decide +kernel, rfl, by decide +kernel, by decide +kernel⟩
theorem ok_count {f : Addr} {fd : FuncData} (F : Fun K "is_count" "is_count" sCount f fd) (T : TxW K mg) : FnOk P w K mg base CX0 1 f fd ["number"] (spBetween 1 1000000) := by
  refine F.ok scCount (fun vs H Q E h => ?_) (fun cdv A outer s H vs Q E hr h => ?_)
  · obtain ⟨z, rfl, _⟩ := h
    rfl
  · obtain ⟨z, rfl, k⟩ := h
    refine ⟨_, pss_one (ps_ret (pe_chain op_le op_le pe_int (pv 0) (pe_gv T.mostC))), ?_⟩
    refine ⟨_, rfl, _, _, rfl, rfl, _, rfl, ite2 (fun h1 => ?_) fun h1 => ?_⟩
    · refine ⟨_, _, rfl, rfl, ?_⟩
      have e : decide (z ≤ 1000000) = decide (1 ≤ z ∧ z ≤ 1000000) := by
        have := of_decide_eq_true h1
        exact decide_eq_decide.mpr (by omega)
      show Q (.bl (decide (z ≤ 1000000))) H
      rw [e]
      exact k
    · have h2 : ¬ (1 ≤ z) := fun q => h1 (decide_eq_true q)
      rw [decide_eq_false (fun q : 1 ≤ z ∧ z ≤ 1000000 => h2 q.1)] at k
      exact k
theorem same_new {H : Hp} {p : Addr} {o : HO} (h : H p = none) : Same H (upd H p o) := fun b u e => by rw [upd_ne (ne_of_none e h)]; exact e
theorem same_upd {H H' : Hp} {p : Addr} {o : HO} (e : Same H H') (h : H p = none) : Same H (upd H' p o) := fun b u q => by rw [upd_ne (ne_of_none q h)]; exact e b u q
theorem yes_of {σ : L2.St} {H : Hp} {A B : Hp → Prop} (h : A H) : tYes σ H (fun b H3 => if b = true then A H3 else B H3) := iteT (A := A H) (B := B H) h
theorem take_one {α : Type} {l : List α} {i : Nat} {x : α} (h : l[i]? = some x) : l.take (i + 1) = l.take i ++ [x] := by
  rw [List.take_add_one, h]; rfl
def letB (b : Nat) : Bool := decide (97 ≤ b) && decide (b ≤ 122)
theorem letB_z (b : Nat) : decide ((97 : Int) ≤ (b : Int) ∧ (b : Int) ≤ 122) = letB b := by
  unfold letB
  rw [← Bool.decide_and]
  exact decide_eq_decide.mpr (by omega)
theorem isWord_eq (v : List Nat) : Ks295.isWord v = (decide (1 ≤ v.length) && decide (v.length ≤ 12) && v.all letB) := rfl
def spWord (K : PySem.W.Frag) : Sp := fun vs H Q _ => ∃ (a : Addr) (v : List Nat), vs = [.ref a] ∧ (SqL K H a (wv v) ∨ SqT K H a (wv v)) ∧ ∀ H', Same H H' → Q (.bl (Ks295.isWord v)) H'
theorem scWord : FnScope ["signs", "sign"] ["signs"] (defScope sWord) := ⟨rfl, rfl, rfl, by decide +kernel, rfl, by decide +kernel, by decide +kernel⟩
end
end Wk
namespace Wk
open PySem PySem.Spec PyProof.Rows L2
section
variable {P : Program} {w : World} {K : PySem.W.Frag} {mg : Str → Option Value} {base : Heap}
theorem ok_word {f fL : Addr} {fd fdL : FuncData} (F : Fun K "is_word" "is_word" sWord f fd) (T : TxW K mg) (FL : Fun K "is_letter" "is_letter" sLetter fL fdL) (mL : mg "is_letter" = some (.ref fL)) (bL : Binds K fdL ["sign"] []) :
    FnOk P w K mg base CX0 2 f fd ["signs"] (spWord K) := by
  have GL : FnOk P w K mg base CX0 1 fL fdL ["sign"] (spBetween 97 122) := ok_letter FL T
  refine F.ok scWord (fun vs H Q E h => ?_) (fun cdv A outer s H vs Q E hr h => ?_)
  · obtain ⟨a, v, rfl, _⟩ := h
    rfl
  · obtain ⟨a, v, rfl, hs, k⟩ := h
    have fin : ∀ (H1 : Hp) (D : Addr), Same H H1 → H1 D = some (.lst ((v.map letB).map V.bl)) → 1 ≤ v.length → v.length ≤ 12 → Q (.bl ((v.map letB).all id)) H1 := fun H1 D e _ h1 h2 => by
      have e1 : (v.map letB).all id = Ks295.isWord v := by
        rw [isWord_eq, decide_eq_true h1, decide_eq_true h2, List.all_map]; rfl
      rw [e1]
      exact k H1 e
    have short : ¬ (1 ≤ v.length ∧ v.length ≤ 12) → Q (.bl false) H := fun q => by
      have e1 : Ks295.isWord v = false := by
        rw [isWord_eq]
        by_cases z : 1 ≤ v.length
        · rw [decide_eq_false (fun y => q ⟨z, y⟩), Bool.and_false, Bool.false_and]
        · rw [decide_eq_false z, Bool.false_and, Bool.false_and]
      rw [← e1]
      exact k H (Same.refl H)
    rcases hs with hs | hs
    · refine ⟨_, pss_one (ps_ret (pe_and (pe_chain op_le op_le pe_int (pe_callB call_len_seq (by rfl) T.len PySem.boot_len (pa_cons (pv 0) pa_nil)) (pe_gv T.mostL))
        (pe_one (pe_callB (cr_all rfl) (by rfl) T.all boot_all (pa_cons (pe_lc (own := [("sign", 1)]) rfl scWord.nd (pi_list (pv 0)) (show BlkOk ["signs", "sign"] (defScope sWord) _ [("sign", 1)] from blkOk_by (by decide +kernel)) (fun s H C cl fp => pg_name (i := 1) scWord.nd rfl (Or.inl rfl)) (fun s H C cl fp => pts_nil)
          (fun s H C cl fp => pe_call GL hr rfl mL FL.kp bL .nil pass0 (pa_cons (pv 1) pa_nil))) pa_nil))))), ?_⟩
      refine ⟨_, rfl, a, _, rfl, .inl hs, _, _, rfl, rfl, _, rfl, ite2 (fun h1 => ?_) fun h1 => ?_⟩
      · refine ⟨_, _, rfl, rfl, _, rfl, ite2 (fun h2 => ?_) fun h2 => ?_⟩
        · have h1' : 1 ≤ v.length := by have := of_decide_eq_true h1; rw [wv_len] at this; omega
          have h2' : v.length ≤ 12 := by have := of_decide_eq_true h2; rw [wv_len] at this; omega
          refine ⟨_, rfl, a, rfl, ⟨_, hs⟩, fun D hD => lc_list (K := K) (a := a) (xs := wv v) (fun i H' => Same H H' ∧ H' D = some (.lst (((v.take i).map letB).map V.bl))) ⟨same_new hD, upd_same⟩ (fun i H' _ p => p.1.seq hs) ?_ ?_⟩
          · rintro i x H' hi ⟨e, hd⟩
            obtain ⟨b, hb, rfl⟩ := wv_at hi
            refine ⟨rfl, yes_of ⟨_, rfl, _, rfl, ?_⟩⟩
            refine ⟨_, hd, ?_, same_upd e hD, ?_⟩
            · rw [List.length_map, List.length_map, List.length_take]
              exact Nat.lt_of_le_of_lt (Nat.min_le_right _ _) (Nat.lt_of_le_of_lt h2' (by decide))
            · rw [upd_same, take_one hb, letB_z, List.map_append, List.map_append]
              rfl
          · rintro H' ⟨e, hd⟩
            rw [wv_len, List.take_length] at hd
            exact ⟨D, v.map letB, rfl, SqL.of hd, fin H' D e hd h1' h2'⟩
        · refine short fun q => h2 (decide_eq_true ?_)
          rw [wv_len]; omega
      · refine ⟨_, rfl, iteF (short fun q => h1 (decide_eq_true ?_))⟩
        rw [wv_len]; omega
    · refine ⟨_, pss_one (ps_ret (pe_and (pe_chain op_le op_le pe_int (pe_callB call_len_seq (by rfl) T.len PySem.boot_len (pa_cons (pv 0) pa_nil)) (pe_gv T.mostL))
        (pe_one (pe_callB (cr_all rfl) (by rfl) T.all boot_all (pa_cons (pe_lc (own := [("sign", 1)]) rfl scWord.nd (pi_tup (pv 0)) (show BlkOk ["signs", "sign"] (defScope sWord) _ [("sign", 1)] from blkOk_by (by decide +kernel)) (fun s H C cl fp => pg_name (i := 1) scWord.nd rfl (Or.inl rfl)) (fun s H C cl fp => pts_nil)
          (fun s H C cl fp => pe_call GL hr rfl mL FL.kp bL .nil pass0 (pa_cons (pv 1) pa_nil))) pa_nil))))), ?_⟩
      refine ⟨_, rfl, a, _, rfl, .inr hs, _, _, rfl, rfl, _, rfl, ite2 (fun h1 => ?_) fun h1 => ?_⟩
      · refine ⟨_, _, rfl, rfl, _, rfl, ite2 (fun h2 => ?_) fun h2 => ?_⟩
        · have h1' : 1 ≤ v.length := by have := of_decide_eq_true h1; rw [wv_len] at this; omega
          have h2' : v.length ≤ 12 := by have := of_decide_eq_true h2; rw [wv_len] at this; omega
          refine ⟨_, rfl, a, rfl, ⟨_, hs⟩, fun D hD => lc_tup (K := K) (a := a) (xs := wv v) (fun i H' => Same H H' ∧ H' D = some (.lst (((v.take i).map letB).map V.bl))) ⟨same_new hD, upd_same⟩ (fun i H' _ p => p.1.tupl hs) ?_ ?_⟩
          · rintro i x H' hi ⟨e, hd⟩
            obtain ⟨b, hb, rfl⟩ := wv_at hi
            refine ⟨rfl, yes_of ⟨_, rfl, _, rfl, ?_⟩⟩
            refine ⟨_, hd, ?_, same_upd e hD, ?_⟩
            · rw [List.length_map, List.length_map, List.length_take]
              exact Nat.lt_of_le_of_lt (Nat.min_le_right _ _) (Nat.lt_of_le_of_lt h2' (by decide))
            · rw [upd_same, take_one hb, letB_z, List.map_append, List.map_append]
              rfl
          · rintro H' ⟨e, hd⟩
            rw [wv_len, List.take_length] at hd
            exact ⟨D, v.map letB, rfl, SqL.of hd, fin H' D e hd h1' h2'⟩
        · refine short fun q => h2 (decide_eq_true ?_)
          rw [wv_len]; omega
      · refine ⟨_, rfl, iteF (short fun q => h1 (decide_eq_true ?_))⟩
        rw [wv_len]; omega
end
end Wk
namespace L2
open PySem PySem.Spec PyProof.Rows
theorem len_raw {prog : Program} {w : World} {A : Around} {E : Value → Shared → Prop} {s : Shared} {d : Addr} {o : Obj} {es : Array DictEntry} {ep : Nat} {Q : Value → Shared → Prop} (hd : (d == sysModules) = false) (ho : s.heap.get? d = some o) (hc : o.ExactDict) (hdat : o.data = .dict es ep)
    (hfit : (es.size : Int) < 2 ^ 63) (h : ∀ t s', s' = { s with toks := s.toks + 2 } → Q (.int es.size t) s') : wpAny (model prog w) A (call (.builtin "len") [.ref d]) Q E s := by
  have ty : s.TypeIs (.ref d) "dict" := ⟨o, ho, hc.1⟩
  have size : ∀ {A' : Around} {E' : Value → Shared → Prop} {R : Nat → Shared → Prop}, R es.size s → wpAny (model prog w) A' (dictSize d) R E' s := fun r => by
    unfold dictSize
    exact wpAny_bind (wpAny_dictEntries ho hdat (wpAny_pure r))
  have one : MeetsIn prog w (Builtin.«dict.__len__» ⟨[.ref d], []⟩) (fun _ R s' => s' = s ∧ R (.ok (.ret (.int es.size s.toks))) { s with toks := s.toks + 1 }) := .of_wp fun A' R s' ⟨e, hq⟩ => by
    subst e
    exact wpAny_bind (m := dictSize d) (size (wpAny_bind (m := Builtin.Dict.pendingCount d) (wpAny_pendingCount_other hd (wpAny_ret_mkInt hq))))
  have low : ¬ ((es.size : Nat) : Int) < 0 := by omega
  have high : ¬ ((es.size : Nat) : Int) ≥ 2 ^ 63 := by omega
  have asked := fun Q' E' q => wpAny_callSpecial?_slot (M := model prog w) (A := A.in1) (E := E') (Q := Q') (name := Str.ofString "__len__") ty F.slot_dict_len (call_meetsIn F.slot_dict_len ty F.entry_dict_len (F.args_dict_len_1 _) one ⟨rfl, q⟩)
  refine Calls.call_function_entry kind_len plain_len entry_len (args_len1 _) (wpAny_bind (m := oneArg "len" _) (wpAny_pure (wpAny_bind (m := callSpecial? (.ref d) (Str.ofString "__len__")) (asked _ _ (wpAny_bind (wpAny_holding (wpAny_pure (wpAny_bind (wpAny_letGo ?_)))))))))
  simp only [low, high, if_false]
  exact wpAny_bind (wpAny_mkInt (wpAny_pure ⟨_, rfl, h _ _ rfl⟩))
theorem call_lenT {X : Cx} : CallR X (.builtin "len") (fun xs H Q => ∃ a kvs, xs = [V.ref a] ∧ H a = some (.dT kvs) ∧ Q (.int kvs.length) H) := by
  intro pins s σ H xs us Q I r h
  obtain ⟨a, kvs, rfl, ha, q⟩ := h
  rw [Vals.ref1 r]
  obtain ⟨z, hd, zs, rel, o, es, ep, ho, hc, hdat, he, _⟩ := I.hok a _ ha
  have e1 : es.size = kvs.length := by
    have := congrArg List.length he
    rw [Array.length_toList, List.length_map] at this
    rw [this, ← rel.length]
  have z' := z
  rw [sizeLine_eq] at z'
  refine len_raw hd ho hc hdat (by rw [e1]; omega) fun t s' es' => ?_
  subst es'
  rw [e1]
  exact ⟨.int kvs.length, H, I.tok _, ⟨t, rfl⟩, q⟩
end L2
namespace Wk
open PySem PySem.Spec PyProof.Rows L2
section
variable {P : Program} {w : World} {K : PySem.W.Frag} {mg : Str → Option Value} {base : Heap}
theorem key_at : ∀ b : Nat, letB b = true → letterKeys[b - 97]? = some (Ks295.keyOf b) := by
  have h : ∀ j : _root_.Fin 26, letterKeys[j.val]? = some (Ks295.keyOf (j.val + 97)) := by decide
  intro b hb
  unfold letB at hb
  simp only [Bool.and_eq_true, decide_eq_true_eq] at hb
  have := h ⟨b - 97, by omega⟩
  rw [show b - 97 + 97 = b by omega] at this
  exact this
def spKeys (K : PySem.W.Frag) : Sp := fun vs H Q _ => ∃ (a : Addr) (v : List Nat), vs = [.ref a] ∧ SqT K H a (wv v) ∧ v.all letB = true ∧ v.length ≤ 100 ∧ ∀ H' p, Same H H' → H p = none → H' p = some (.lst (wv (Ks295.keys v))) → Q (.ref p) H'
theorem scKeys : FnScope ["word", "letter"] ["word"] (defScope sKeys) := ⟨rfl, rfl, rfl, by decide +kernel, rfl, by decide +kernel, by decide +kernel⟩
theorem ok_keys {f : Addr} {fd : FuncData} (F : Fun K "keys_of" "keys_of" sKeys f fd) (T : TxW K mg) : FnOk P w K mg base CX0 1 f fd ["word"] (spKeys K) := by
  refine F.ok scKeys (fun vs H Q E h => ?_) (fun cdv A outer s H vs Q E hr h => ?_)
  · obtain ⟨a, v, rfl, _⟩ := h
    rfl
  · obtain ⟨a, v, rfl, hs, hl, hz, k⟩ := h
    obtain ⟨p, tk, hk⟩ := T.keys
    refine ⟨_, pss_one (ps_ret (pe_lc (own := [("letter", 1)]) rfl scKeys.nd (pi_tup (pv 0)) (show BlkOk ["word", "letter"] (defScope sKeys) _ [("letter", 1)] from blkOk_by (by decide +kernel))
      (fun s H C cl fp => pg_name (i := 1) scKeys.nd rfl (Or.inl rfl)) (fun s H C cl fp => pts_nil) (fun s H C cl fp => pe_ix (r := rIxT K) ix_tup (pe_gv tk) (pe_op op_sub (pv 1) (pe_gv T.a)) (fun _ _ => rfl)))), ?_⟩
    refine ⟨_, rfl, a, rfl, ⟨_, hs⟩, fun D hD => lc_tup (K := K) (a := a) (xs := wv v) (fun i H' => Same H H' ∧ H' D = some (.lst (wv (Ks295.keys (v.take i))))) ⟨same_new hD, upd_same⟩ (fun i H' _ p => p.1.tupl hs) ?_ ?_⟩
    · rintro i x H' hi ⟨e, hd⟩
      obtain ⟨b, hb, rfl⟩ := wv_at hi
      have hb' : letB b = true := List.all_eq_true.mp hl b (List.mem_of_getElem? hb)
      have hk2 := key_at b hb'
      have h97 : 97 ≤ b := by unfold letB at hb'; simp at hb'; exact hb'.1
      refine ⟨rfl, yes_of ⟨_, rfl, _, _, rfl, rfl, p, _, _, _, rfl, rfl, hk _, at_of (j := b - 97) (v := V.int (Ks295.keyOf b : Nat)) (by omega) (by unfold wv; rw [List.getElem?_map, hk2]; rfl), ?_⟩⟩
      refine ⟨_, hd, ?_, same_upd e hD, ?_⟩
      · rw [wv_len]
        unfold Ks295.keys
        rw [List.length_map, List.length_take]
        exact Nat.lt_of_le_of_lt (Nat.min_le_right _ _) (Nat.lt_of_le_of_lt hz (by decide))
      · rw [upd_same, take_one hb]
        unfold Ks295.keys
        rw [List.map_append, wv_app]
        rfl
    · rintro H' ⟨e, hd⟩
      rw [wv_len, List.take_length] at hd
      exact k H' D e hD hd
def LinesAt (H : Hp) (as : List Addr) (ls : List (List Nat)) : Prop := as.length = ls.length ∧ ∀ (i : Nat) (a : Addr) (l : List Nat), as[i]? = some a → ls[i]? = some l → H a = some (.lst (wv l))
def spLines (K : PySem.W.Frag) : Sp := fun vs H Q _ => ∃ (a : Addr) (bs : List Nat), vs = [.ref a] ∧ SqL K H a (wv bs) ∧ bs.length ≤ 100000 ∧ ∀ H' p as, Same H H' → H' p = some (.lst (as.map V.ref)) → LinesAt H' as (linesM bs) → Q (.ref p) H'
theorem scLines : FnScope ["signs", "lines", "line", "sign"] ["signs"] (defScope sLines) := ⟨rfl, rfl, rfl, by decide +kernel, rfl, by decide +kernel, by decide +kernel⟩
structure LinesInv (H0 H : Hp) (p q : Addr) (as : List Addr) (st : List (List Nat) × List Nat) (n : Nat) : Prop where
  same : Same H0 H
  p0 : H0 p = none
  q0 : H0 q = none
  pl : H p = some (.lst (as.map V.ref))
  ql : H q = some (.lst (wv st.2))
  ne : p ≠ q
  na : q ∉ as
  np : p ∉ as
  a0 : ∀ a ∈ as, H0 a = none
  at_ : LinesAt H as st.1
  len : st.1.length + st.2.length ≤ n
theorem LinesAt.upd {H : Hp} {as : List Addr} {ls : List (List Nat)} {q : Addr} {o : HO} (h : LinesAt H as ls) (n : q ∉ as) : LinesAt (L2.upd H q o) as ls :=
  ⟨h.1, fun i a l h1 h2 => by
    have z : a ≠ q := fun z => n (by rw [← z]; exact List.mem_of_getElem? h1)
    rw [upd_ne z]; exact h.2 i a l h1 h2⟩
theorem LinesAt.snoc {H : Hp} {as : List Addr} {ls : List (List Nat)} {q : Addr} {l : List Nat} (h : LinesAt H as ls) (hq : H q = some (.lst (wv l))) : LinesAt H (as ++ [q]) (ls ++ [l]) := by
  refine ⟨by simp [h.1], fun i a l' h1 h2 => ?_⟩
  by_cases hi : i < as.length
  · rw [List.getElem?_append_left hi] at h1
    rw [List.getElem?_append_left (by rw [← h.1]; exact hi)] at h2
    exact h.2 i a l' h1 h2
  · rw [List.getElem?_append_right (by omega)] at h1
    rw [List.getElem?_append_right (by rw [← h.1]; omega), ← h.1] at h2
    cases z : i - as.length with
    | zero =>
      rw [z] at h1 h2
      have e1 : q = a := Option.some.inj h1
      have e2 : l = l' := Option.some.inj h2
      rw [← e1, ← e2]; exact hq
    | succ n => rw [z] at h1; simp at h1
theorem foldl_take {α β : Type} {f : β → α → β} {z : β} {l : List α} {i : Nat} {x : α} (h : l[i]? = some x) : (l.take (i + 1)).foldl f z = f ((l.take i).foldl f z) x := by
  rw [take_one h, List.foldl_append]; rfl
theorem ok_lines {f : Addr} {fd : FuncData} (F : Fun K "lines_of" "lines_of" sLines f fd) (T : TxW K mg) : FnOk P w K mg base CX0 1 f fd ["signs"] (spLines K) := by
  refine F.ok scLines (fun vs H Q E h => ?_) (fun cdv A outer s H vs Q E hr h => ?_)
  · obtain ⟨a, v, rfl, _⟩ := h
    rfl
  · obtain ⟨a, bs, rfl, hs, hz, k⟩ := h
    refine ⟨_, pss_cons (ps_set (i := 1) scLines.nd rfl (Or.inl rfl) (pe_lst pa_nil)) (pss_cons (ps_set (i := 2) scLines.nd rfl (Or.inl rfl) (pe_lst pa_nil))
      (pss_cons (ps_for PassesOwn.never rfl (pi_list (pv 0)) (pg_name (i := 3) scLines.nd rfl (Or.inl rfl)) (pss_one (ps_if (pt_cmpR op_eq (pv 3) (pe_gv T.lineEnd) (nomark _))
        (pss_cons (ps_expr (pe_bm PySem.F.plainAttrs_list PySem.F.slot_list_append PySem.F.type_list_append mt_append (pv 1) (pa_cons (pv 2) pa_nil))) (pss_one (ps_set (i := 2) scLines.nd rfl (Or.inl rfl) (pe_lst pa_nil))))
        (pss_one (ps_expr (pe_bm PySem.F.plainAttrs_list PySem.F.slot_list_append PySem.F.type_list_append mt_append (pv 2) (pa_cons (pv 3) pa_nil)))))))
      (pss_cons (ps_if (pt_cmpR op_gt (pe_callB call_len_seq (by rfl) T.len PySem.boot_len (pa_cons (pv 2) pa_nil)) pe_int (nomark _)) (pss_one (ps_expr (pe_bm PySem.F.plainAttrs_list PySem.F.slot_list_append PySem.F.type_list_append mt_append (pv 1) (pa_cons (pv 2) pa_nil)))) pss_nil)
      (pss_one (ps_ret (pv 1)))))), ?_⟩
    refine ⟨Nat.zero_le _, fun p hp => ⟨Nat.zero_le _, fun q hq => ?_⟩⟩
    have npq : p ≠ q := fun z => by rw [← z, upd_same] at hq; cases hq
    have hq0 : H q = none := by rw [← hq, upd_ne (Ne.symm npq)]
    have I0 : LinesInv H (upd (upd H p (.lst [])) q (.lst [])) p q [] ((bs.take 0).foldl linesStep ([], [])) 0 :=
      ⟨same_upd (same_new hp) hq0, hp, hq0, by rw [upd_ne npq, upd_same] <;> rfl, upd_same, npq, by simp, by simp, by simp, ⟨rfl, fun i a l h => by simp at h⟩, Nat.le_refl _⟩
    refine ⟨_, rfl, a, rfl, ⟨_, I0.same.seq hs⟩, for_list (K := K) (a := a) (xs := wv bs) (fun i σ H' => ∃ (q' : Addr) (as : List Addr) (v : Option V), σ = [some (.ref a), some (.ref p), some (.ref q'), v] ∧ LinesInv H H' p q' as ((bs.take i).foldl linesStep ([], [])) i)
      ⟨q, [], none, rfl, I0⟩ (fun i σ H' _ ⟨_, _, _, _, J⟩ => J.same.seq hs) ?_ ?_⟩
    · rintro i y σ H' hi ⟨q', as, v, rfl, J⟩
      obtain ⟨b, hb, rfl⟩ := wv_at hi
      have hil : i < bs.length := (List.getElem?_eq_some_iff.mp hb).1
      have J1 := J.len
      have line : sizeLine = 16777216 := sizeLine_eq
      rw [foldl_take hb]
      generalize (bs.take i).foldl linesStep ([], []) = st at J J1
      refine ⟨_, rfl, rfl, _, rfl, ite2 (fun h1 => ?_) fun h1 => ?_⟩
      · have h2 : b = 10 := by
          have := of_decide_eq_true h1
          injection this with h3
          exact Int.ofNat.inj h3
        subst h2
        have e : linesStep st 10 = (st.1 ++ [st.2], []) := if_pos rfl
        rw [e]
        refine ⟨_, rfl, .inl ⟨rfl, _, SqL.of J.pl⟩, _, rfl, p, _, _, rfl, rfl, J.pl, ?_, Nat.zero_le _, fun r hr => ?_⟩
        · rw [List.length_map, J.at_.1]; omega
        have nrp : r ≠ p := fun z => by rw [z, upd_same] at hr; cases hr
        rw [upd_ne nrp] at hr
        have hr0 := J.same.free hr
        refine ⟨r, as ++ [q'], _, rfl, ?_⟩
        have nrq : r ≠ q' := fun z => by rw [z, J.ql] at hr; cases hr
        have nra : r ∉ as := fun z => by
          obtain ⟨j, hj⟩ := List.mem_iff_getElem?.mp z
          obtain ⟨l, hl⟩ : ∃ l, st.1[j]? = some l := ⟨_, List.getElem?_eq_getElem (by rw [← J.at_.1]; exact (List.getElem?_eq_some_iff.mp hj).1)⟩
          rw [J.at_.2 j r l hj hl] at hr; cases hr
        refine ⟨same_upd (same_upd J.same J.p0) hr0, J.p0, hr0, ?_, upd_same, Ne.symm nrp, ?_, ?_, ?_, ?_, ?_⟩
        · rw [upd_ne (Ne.symm nrp), upd_same, List.map_append] <;> rfl
        · intro z
          rcases List.mem_append.mp z with z | z
          · exact nra z
          · exact nrq (List.mem_singleton.mp z)
        · intro z
          rcases List.mem_append.mp z with z | z
          · exact J.np z
          · exact J.ne (List.mem_singleton.mp z)
        · intro x z
          rcases List.mem_append.mp z with z | z
          · exact J.a0 x z
          · rw [List.mem_singleton.mp z]; exact J.q0
        · refine LinesAt.upd (LinesAt.snoc (J.at_.upd J.np) ?_) ?_
          · rw [upd_ne (Ne.symm J.ne)]; exact J.ql
          · intro z
            rcases List.mem_append.mp z with z | z
            · exact nra z
            · exact nrq (List.mem_singleton.mp z)
        · simp; omega
      · have h2 : ¬ b = 10 := fun z => h1 (by rw [z]; rfl)
        have e : linesStep st b = (st.1, st.2 ++ [b]) := if_neg h2
        rw [e]
        refine ⟨_, rfl, .inl ⟨rfl, _, SqL.of J.ql⟩, _, rfl, q', _, _, rfl, rfl, J.ql, ?_, ?_⟩
        · rw [wv_len]; omega
        refine ⟨q', as, _, rfl, same_upd J.same J.q0, J.p0, J.q0, ?_, ?_, J.ne, J.na, J.np, J.a0, J.at_.upd J.na, ?_⟩
        · rw [upd_ne J.ne]; exact J.pl
        · rw [upd_same, wv_app] <;> rfl
        · simp; omega
    · rintro σ H' ⟨q', as, v, rfl, J⟩
      rw [wv_len, List.take_length] at J
      have J1 := J.len
      have line : sizeLine = 16777216 := sizeLine_eq
      have fin : linesM bs = linesFin (bs.foldl linesStep ([], [])) := rfl
      generalize bs.foldl linesStep ([], []) = st at J J1 fin
      refine ⟨_, rfl, q', _, rfl, .inl (SqL.of J.ql), _, _, rfl, rfl, _, rfl, ite2 (fun h1 => ?_) fun h1 => ?_⟩
      · refine ⟨_, rfl, .inl ⟨rfl, _, SqL.of J.pl⟩, _, rfl, p, _, _, rfl, rfl, J.pl, ?_, _, rfl, ?_⟩
        · rw [List.length_map, J.at_.1]; omega
        refine k _ p (as ++ [q']) (same_upd J.same J.p0) (by rw [upd_same, List.map_append] <;> rfl) ?_
        have h2 : 0 < st.2.length := by
          have := of_decide_eq_true h1
          rw [wv_len] at this
          omega
        have e : linesFin st = st.1 ++ [st.2] := if_pos h2
        rw [fin, e]
        refine LinesAt.snoc (J.at_.upd J.np) ?_
        rw [upd_ne (Ne.symm J.ne)]; exact J.ql
      · refine ⟨_, rfl, k _ p as J.same J.pl ?_⟩
        have h2 : ¬ 0 < st.2.length := fun z => h1 (decide_eq_true (by rw [wv_len]; omega))
        have e : linesFin st = st.1 := if_neg h2
        rw [fin, e]
        exact J.at_
end
end Wk
namespace Wk
open PySem PySem.Spec PyProof.Rows L2
section
variable {P : Program} {w : World} {K : PySem.W.Frag} {mg : Str → Option Value} {base : Heap}
theorem digB_z (b : Nat) : decide ((48 : Int) ≤ (b : Int) ∧ (b : Int) ≤ 57) = digitB b := by
  unfold digitB
  rw [← Bool.decide_and]
  exact decide_eq_decide.mpr (by omega)
def spRead (K : PySem.W.Frag) : Sp := fun vs H Q _ => ∃ (a : Addr) (ds : List Nat), vs = [.ref a] ∧ SqL K H a (wv ds) ∧ ∀ H', Same H H' → Q (.int (readCount ds : Nat)) H'
theorem scRead : FnScope ["digits", "digit", "number"] ["digits"] (defScope sRead) := ⟨rfl, rfl, rfl, by decide +kernel, rfl, by decide +kernel, by decide +kernel⟩
theorem numStep_z {n b : Nat} (h : 48 ≤ b) : ((n : Int) * 10 + (b : Int) - 48) = ((numStep n b : Nat) : Int) := by
  unfold numStep; omega
theorem num_lt : ∀ (ds : List Nat) (n : Nat), ds.all digitB = true → ds.foldl numStep n < (n + 1) * 10 ^ ds.length
  | [], n, _ => by simp
  | b :: r, n, h => by
    rw [List.all_cons, Bool.and_eq_true] at h
    have hb : 48 ≤ b ∧ b ≤ 57 := by have := h.1; unfold digitB at this; simp at this; exact this
    rw [List.foldl_cons, List.length_cons]
    refine Nat.lt_of_lt_of_le (num_lt r _ h.2) ?_
    have e : numStep n b + 1 ≤ (n + 1) * 10 := by unfold numStep; omega
    calc (numStep n b + 1) * 10 ^ r.length ≤ ((n + 1) * 10) * 10 ^ r.length := Nat.mul_le_mul_right _ e
      _ = (n + 1) * 10 ^ (r.length + 1) := by rw [Nat.pow_succ, Nat.mul_assoc, Nat.mul_comm 10]
theorem ok_read {f fD fC : Addr} {fd fdD fdC : FuncData} (F : Fun K "read_count" "read_count" sRead f fd) (T : TxW K mg) (FD : Fun K "is_digit" "is_digit" sDigit fD fdD) (mD : mg "is_digit" = some (.ref fD)) (bD : Binds K fdD ["sign"] [])
    (FC : Fun K "is_count" "is_count" sCount fC fdC) (mC : mg "is_count" = some (.ref fC)) (bC : Binds K fdC ["number"] []) : FnOk P w K mg base CX0 2 f fd ["digits"] (spRead K) := by
  have GD : FnOk P w K mg base CX0 1 fD fdD ["sign"] (spBetween 48 57) := ok_digit FD T
  have GC : FnOk P w K mg base CX0 1 fC fdC ["number"] (spBetween 1 1000000) := ok_count FC T
  refine F.ok scRead (fun vs H Q E h => ?_) (fun cdv A outer s H vs Q E hr h => ?_)
  · obtain ⟨a, v, rfl, _⟩ := h
    rfl
  · obtain ⟨a, ds, rfl, hs, k⟩ := h
    refine ⟨_, pss_cons (ps_if (pt_not (pt_chain op_le op_le pe_int (pe_callB call_len_seq (by rfl) T.len PySem.boot_len (pa_cons (pv 0) pa_nil)) (pe_gv T.mostD))) (pss_one (ps_ret pe_int)) pss_nil)
      (pss_cons (ps_if (PW.pt (pw_or (pt_cmpR op_eq (pe_ix ix_list (pv 0) pe_int (fun _ _ => rfl)) (pe_gv T.zero) (nomark _)) (pw_or1 (pt_not (pt_val (pe_callB (cr_all rfl) (by rfl) T.all boot_all
        (pa_cons (pe_lc (own := [("digit", 1)]) rfl scRead.nd (pi_list (pv 0)) (show BlkOk ["digits", "digit", "number"] (defScope sRead) _ [("digit", 1)] from blkOk_by (by decide +kernel)) (fun s H C cl fp => pg_name (i := 1) scRead.nd rfl (Or.inl rfl)) (fun s H C cl fp => pts_nil)
          (fun s H C cl fp => pe_call GD hr rfl mD FD.kp bD .nil pass0 (pa_cons (pv 1) pa_nil))) pa_nil))))))) (pss_one (ps_ret pe_int)) pss_nil)
      (pss_cons (ps_set (i := 2) scRead.nd rfl (Or.inl rfl) pe_int)
      (pss_cons (ps_for PassesOwn.never rfl (pi_list (pv 0)) (pg_name (i := 1) scRead.nd rfl (Or.inl rfl)) (pss_one (ps_set (i := 2) scRead.nd rfl (Or.inl rfl) (pe_op op_sub (pe_op op_add (pe_op op_mul (pv 2) pe_int) (pv 1)) (pe_gv T.zero)))))
      (pss_one (ps_ret (pe_ifExp (pt_val (pe_call GC hr rfl mC FC.kp bC .nil pass0 (pa_cons (pv 2) pa_nil))) (pv 2) pe_int)))))), ?_⟩
    have line : sizeLine = 16777216 := sizeLine_eq
    have ret0 : ∀ H', Same H H' → readCount ds = 0 → Q (.int 0) H' := fun H' e z => by
      have := k H' e
      rw [z] at this
      exact this
    have c1 : ¬ (1 ≤ ds.length ∧ ds.length ≤ 7) → readCount ds = 0 := fun h => if_pos h
    refine ⟨_, rfl, a, _, rfl, .inl hs, _, _, rfl, rfl, _, rfl, ite2 (fun h1 => ?_) fun h1 => ?_⟩
    · refine ⟨_, _, rfl, rfl, _, rfl, ite2 (fun h2 => ?_) fun h2 => ?_⟩
      · refine ret0 H (Same.refl H) (c1 fun z => ?_)
        rw [Bool.not_eq_true', decide_eq_false_iff_not, wv_len] at h2
        exact h2 (by omega)
      · have l1 : 1 ≤ ds.length := by have := of_decide_eq_true h1; rw [wv_len] at this; omega
        have l2 : ds.length ≤ 7 := by
          rw [Bool.not_eq_true', decide_eq_false_iff_not, Classical.not_not, wv_len] at h2
          omega
        obtain ⟨d0, rest, rfl⟩ : ∃ d0 rest, ds = d0 :: rest := by
          cases ds with
          | nil => simp at l1
          | cons d r => exact ⟨d, r, rfl⟩
        have c2 : (d0 :: rest).head? = some 48 ∨ (d0 :: rest).all digitB = false → readCount (d0 :: rest) = 0 := fun h => by
          unfold readCount
          rw [if_neg (not_not_intro ⟨l1, l2⟩), if_pos h]
        refine ⟨_, rfl, a, _, _, _, rfl, rfl, hs, at_of (j := 0) rfl rfl, rfl, _, rfl, ?_⟩
        refine ite2 (fun h3 => iteT (ret0 H (Same.refl H) (c2 (.inl ?_)))) fun h3 => ?_
        · have := of_decide_eq_true h3
          injection this with h4
          rw [List.head?_cons, Int.ofNat.inj h4]
        · refine ⟨_, rfl, a, rfl, ⟨_, hs⟩, fun D hD => lc_list (K := K) (a := a) (xs := wv (d0 :: rest)) (fun i H' => Same H H' ∧ H' D = some (.lst ((((d0 :: rest).take i).map digitB).map V.bl))) ⟨same_new hD, upd_same⟩ (fun i H' _ p => p.1.seq hs) ?_ ?_⟩
          · rintro i x H' hi ⟨e, hd⟩
            obtain ⟨b, hb, rfl⟩ := wv_at hi
            refine ⟨rfl, yes_of ⟨_, rfl, _, rfl, ?_⟩⟩
            refine ⟨_, hd, ?_, same_upd e hD, ?_⟩
            · rw [List.length_map, List.length_map, List.length_take]
              exact Nat.lt_of_le_of_lt (Nat.min_le_right _ _) (Nat.lt_of_le_of_lt l2 (by rw [line]; decide))
            · rw [upd_same, take_one hb, digB_z, List.map_append, List.map_append]
              rfl
          · rintro H1 ⟨e1, hd⟩
            rw [wv_len, List.take_length] at hd
            refine ⟨D, _, rfl, SqL.of hd, _, rfl, ite2 (fun h4 => ret0 H1 e1 (c2 (.inr ?_))) fun h4 => ?_⟩
            · rw [Bool.not_eq_true', List.all_map] at h4
              exact h4
            · have hall : (d0 :: rest).all digitB = true := by
                rw [Bool.not_eq_true', List.all_map] at h4
                cases z : (d0 :: rest).all digitB with
                | true => rfl
                | false => exact absurd z h4
              have hhd : ¬ (d0 :: rest).head? = some 48 := fun z => h3 (by
                rw [List.head?_cons] at z
                rw [Option.some.inj z]; rfl)
              have c3 : readCount (d0 :: rest) = if 1 ≤ (d0 :: rest).foldl numStep 0 ∧ (d0 :: rest).foldl numStep 0 ≤ 1000000 then (d0 :: rest).foldl numStep 0 else 0 := by
                unfold readCount
                rw [if_neg (not_not_intro ⟨l1, l2⟩), if_neg (by rw [hall]; simp only [Bool.true_eq_false, or_false]; exact hhd)]
              refine ⟨_, rfl, a, rfl, ⟨_, e1.seq hs⟩, for_list (K := K) (a := a) (xs := wv (d0 :: rest)) (fun i σ H' => ∃ v : Option V, σ = [some (.ref a), v, some (.int ((((d0 :: rest).take i).foldl numStep 0 : Nat) : Int))] ∧ H' = H1) ⟨none, rfl, rfl⟩ ?_ ?_ ?_⟩
              · rintro i σ H' _ ⟨_, _, rfl⟩
                exact e1.seq hs
              · rintro i y σ H' hi ⟨v, rfl, rfl⟩
                obtain ⟨b, hb, rfl⟩ := wv_at hi
                have hb' : digitB b = true := List.all_eq_true.mp hall b (List.mem_of_getElem? hb)
                have h48 : 48 ≤ b := by unfold digitB at hb'; simp at hb'; exact hb'.1
                have hlt := num_lt ((d0 :: rest).take i) 0 (List.all_eq_true.mpr fun x hx => List.all_eq_true.mp hall x (List.mem_of_mem_take hx))
                have hle : 10 ^ ((d0 :: rest).take i).length ≤ 10 ^ 7 := Nat.pow_le_pow_right (by decide) (by rw [List.length_take]; omega)
                refine ⟨_, rfl, _, _, rfl, rfl, .inl ⟨by omega, by omega⟩, _, rfl, _, _, rfl, rfl, _, _, rfl, rfl, ?_⟩
                refine ⟨some (V.int ((b : Nat) : Int)), ?_, rfl⟩
                rw [foldl_take hb, ← numStep_z h48]
                rfl
              · rintro σ H' ⟨v, rfl, rfl⟩
                rw [wv_len, List.take_length]
                refine ⟨_, rfl, _, rfl, _, rfl, ?_⟩
                have kk := k H' e1
                rw [c3] at kk
                refine ite2 (fun h5 => ⟨_, rfl, ?_⟩) fun h5 => ?_
                · have h6 := of_decide_eq_true h5
                  rw [if_pos (by omega)] at kk
                  exact kk
                · have h6 : ¬ (1 ≤ (((d0 :: rest).foldl numStep 0 : Nat) : Int) ∧ (((d0 :: rest).foldl numStep 0 : Nat) : Int) ≤ 1000000) := fun z => h5 (decide_eq_true z)
                  rw [if_neg (by omega)] at kk
                  exact kk
    · refine ⟨_, rfl, iteT (ret0 H (Same.refl H) (c1 fun z => h1 (decide_eq_true ?_)))⟩
      rw [wv_len]; omega
end
end Wk
namespace Wk
open PySem PySem.Spec PyProof.Rows L2
section
variable {P : Program} {w : World} {K : PySem.W.Frag} {mg : Str → Option Value} {base : Heap}
theorem cut_to (v : List Nat) (n : Nat) : cutV (wv v) none (some (n : Int)) = wv (v.take n) := by
  unfold cutV
  rw [HT.sIx_none, HT.sIx_nat, List.drop_zero, Nat.sub_zero, wv_take, List.take_eq_take_min, wv_len, Nat.min_comm]
  rw [List.take_eq_take_min (l := wv v) (i := n), wv_len]
  congr 1
  omega
theorem cut_from (v : List Nat) (n : Nat) : cutV (wv v) (some (n : Int)) none = wv (v.drop n) := by
  unfold cutV
  rw [HT.sIx_none, HT.sIx_nat, wv_drop]
  by_cases h : n ≤ (wv v).length
  · rw [Nat.min_eq_left h, List.take_of_length_le (by rw [List.length_drop]; omega)]
  · rw [Nat.min_eq_right (by omega), Nat.sub_self, List.take_zero, List.drop_eq_nil_of_le (by omega)]
theorem inV_w (v : List Nat) (n : Nat) : inV (.int (n : Int)) (wv v) = decide (n ∈ v) := by
  unfold inV wv
  rw [List.any_map]
  by_cases h : n ∈ v
  · rw [decide_eq_true h]
    exact List.any_eq_true.mpr ⟨n, h, by show ((n : Int) == (n : Int)) = true; simp⟩
  · rw [decide_eq_false h, List.any_eq_false]
    intro x hx q
    have q' : ((x : Int) == (n : Int)) = true := q
    have : x = n := by have := eq_of_beq q'; omega
    exact h (this ▸ hx)
theorem flat_w (v : List Nat) : (wv v).all flatV = true := by
  unfold wv; rw [List.all_map]; exact List.all_eq_true.mpr fun _ _ => rfl
theorem blank_here {t : List Nat} (h : 32 ∈ t) : t[blankAt t]? = some 32 ∧ ∀ m z, m < blankAt t → t[m]? = some z → z ≠ 32 := by
  induction t with
  | nil => cases h
  | cons a t ih =>
    unfold blankAt
    by_cases q : a = 32
    · subst q
      simp
    · have h' : 32 ∈ t := by
        rcases List.mem_cons.mp h with z | z
        · exact absurd z.symm q
        · exact z
      obtain ⟨i1, i2⟩ := ih h'
      unfold blankAt at i1 i2
      have e : (a :: t).takeWhile (fun b => b != 32) = a :: t.takeWhile (fun b => b != 32) := by
        rw [List.takeWhile_cons, if_pos (bne_iff_ne.mpr q)]
      rw [e, List.length_cons]
      refine ⟨by simpa using i1, fun m z hm hz => ?_⟩
      cases m with
      | zero => simp at hz; rw [← hz]; exact q
      | succ m => exact i2 m z (by omega) (by simpa using hz)
def spAdd (K : PySem.W.Frag) : Sp := fun vs H Q _ => ∃ (a d : Addr) (t : List Nat) (D : List Ks295.Entry), vs = [.ref a, .ref d] ∧ SqL K H a (wv t) ∧ H d = some (.dT (dv D)) ∧ D.length ≤ 64 ∧
  (addLine t D = none → ∀ H', Same H H' → Q (.bl false) H') ∧ ∀ D', addLine t D = some D' → ∀ H', (∀ b o, H b = some o → b ≠ d → H' b = some o) → H' d = some (.dT (dv D')) → Q (.bl true) H'
theorem scAdd : FnScope ["line", "counts", "blank", "word", "count"] ["line", "counts"] (defScope sAdd) := ⟨rfl, rfl, rfl, by decide +kernel, rfl, by decide +kernel, by decide +kernel⟩
theorem ok_add {f fW fR : Addr} {fd fdW fdR : FuncData} (F : Fun K "add_line" "add_line" sAdd f fd) (T : TxW K mg) (GW : FnOk P w K mg base CX0 2 fW fdW ["signs"] (spWord K)) (kW : PySem.W.keepIn K (.ref fW) = true) (mW : mg "is_word" = some (.ref fW)) (bW : Binds K fdW ["signs"] [])
    (GR : FnOk P w K mg base CX0 2 fR fdR ["digits"] (spRead K)) (kR : PySem.W.keepIn K (.ref fR) = true) (mR : mg "read_count" = some (.ref fR)) (bR : Binds K fdR ["digits"] []) : FnOk P w K mg base CX0 3 f fd ["line", "counts"] (spAdd K) := by
  refine F.ok scAdd (fun vs H Q E h => ?_) (fun cdv A outer s H vs Q E hr h => ?_)
  · obtain ⟨a, d, t, D, rfl, _⟩ := h
    rfl
  · obtain ⟨a, d, t, D, rfl, hs, hd, h64, kF, kT⟩ := h
    have hu := hu_of hr
    refine ⟨_, pss_cons (ps_if (PW.pt (pw_or (pt_cmpR op_eq (pe_callB call_lenT (by rfl) T.len PySem.boot_len (pa_cons (pv 1) pa_nil)) (pe_gv T.mostW) (nomark _)) (pw_or1 (pt_cmpR op_notIn_seq (pe_gv T.blank) (pv 0) (by with_unfolding_all rfl))))) (pss_one (ps_ret pe_bl)) pss_nil)
      (pss_cons (ps_set (i := 2) scAdd.nd rfl (Or.inl rfl) (pe_bm PySem.F.plainAttrs_list PySem.F.slot_list_index PySem.F.type_list_index mt_index (pv 0) (pa_cons (pe_gv T.blank) pa_nil)))
      (pss_cons (ps_set (i := 3) scAdd.nd rfl (Or.inl rfl) (pe_callTy call_tuple_of (by rfl) T.tuple PyProof.Rows.boot_tuple (pa_cons (pe_slice sl_list (pv 0) po_none (po_some (pv 2))) pa_nil)))
      (pss_cons (ps_set (i := 4) scAdd.nd rfl (Or.inl rfl) (pe_call GR hr rfl mR kR bR .nil pass0 (pa_cons (pe_slice sl_list (pv 0) (po_some (pe_op op_add (pv 2) pe_int)) po_none) pa_nil)))
      (pss_cons (ps_if (PW.pt (pw_or (pt_not (pt_val (pe_call GW hr rfl mW kW bW .nil pass0 (pa_cons (pv 3) pa_nil)))) (pw_or (pt_cmp (pc_din hu (pv 3) (pv 1))) (pw_or1 (pt_cmpR op_eq (pv 4) pe_int (nomark _)))))) (pss_one (ps_ret pe_bl)) pss_nil)
      (pss_cons (ps_dput hu (pv 1) (pv 3) (pv 4) rfl)
      (pss_one (ps_ret pe_bl))))))), ?_⟩
    have n1 : D.length = 64 ∨ 32 ∉ t → addLine t D = none := fun h => if_pos h
    refine ⟨_, rfl, d, _, rfl, hd, rfl, _, rfl, ite2 (fun h1 => iteT (kF (n1 (.inl ?_)) H (Same.refl H))) fun h1 => ?_⟩
    · have := of_decide_eq_true h1
      injection this with h2
      rw [dv_len] at h2
      omega
    have l64 : ¬ D.length = 64 := fun z => h1 (decide_eq_true (by rw [dv_len, z] <;> rfl))
    refine ⟨_, rfl, a, _, rfl, .inl hs, rfl, flat_w t, _, rfl, ?_⟩
    have e32 : inV (.int 32) (wv t) = decide (32 ∈ t) := inV_w t 32
    rw [e32]
    refine ite2 (fun h2 => kF (n1 (.inr ?_)) H (Same.refl H)) fun h2 => ?_
    · intro z
      rw [decide_eq_true z] at h2
      cases h2
    have hb : 32 ∈ t := by
      by_cases z : 32 ∈ t
      · exact z
      · rw [decide_eq_false z] at h2
        exact absurd rfl h2
    obtain ⟨b1, b2⟩ := blank_here hb
    have eu : addLine t D = if Ks295.isWord (t.take (blankAt t)) = false ∨ Ks295.has D (t.take (blankAt t)) = true ∨ readCount (t.drop (blankAt t + 1)) = 0 then none else
        some (D ++ [⟨t.take (blankAt t), readCount (t.drop (blankAt t + 1))⟩]) := if_neg (by simp [l64, hb])
    refine ⟨_, rfl, .inl ⟨rfl, _, hs⟩, a, _, _, blankAt t, _, rfl, rfl, hs, rfl, flat_w t, (by unfold wv; rw [List.getElem?_map, b1]; rfl), rfl, fun m z' hm hz => ?_, ?_⟩
    · obtain ⟨b, hb', rfl⟩ := wv_at hz
      have := b2 m b hm hb'
      show ((b : Int) == 32) = false
      exact beq_eq_false_iff_ne.mpr (by omega)
    refine ⟨_, rfl, _, rfl, _, rfl, a, _, rfl, hs, fun p hp => ?_⟩
    rw [cut_to]
    refine ⟨p, _, rfl, .inl ⟨SqL.of upd_same, fun q hq => ?_⟩⟩
    have nqp : q ≠ p := fun z => by rw [z, upd_same] at hq; cases hq
    rw [upd_ne nqp] at hq
    have s1 : Same H (upd (upd H p (.lst (wv (t.take (blankAt t))))) q (.tup (wv (t.take (blankAt t))))) := same_upd (same_new hp) hq
    have hq1 : (upd (upd H p (.lst (wv (t.take (blankAt t))))) q (.tup (wv (t.take (blankAt t))))) q = some (.tup (wv (t.take (blankAt t)))) := upd_same
    generalize upd (upd H p (.lst (wv (t.take (blankAt t))))) q (.tup (wv (t.take (blankAt t)))) = H1 at s1 hq1
    refine ⟨_, rfl, _, rfl, _, _, rfl, rfl, _, rfl, a, _, rfl, s1.seq hs, fun r hr' => ?_⟩
    have er : ((blankAt t : Int) + 1) = ((blankAt t + 1 : Nat) : Int) := by omega
    rw [er, cut_from]
    refine ⟨r, _, rfl, SqL.of upd_same, fun H2 e2 => ?_⟩
    have s2 : Same H H2 := (s1.trans (same_new hr')).trans e2
    have hq2 : H2 q = some (.tup (wv (t.take (blankAt t)))) := e2 _ _ (same_new hr' _ _ hq1)
    refine ⟨_, rfl, q, _, rfl, .inr (SqT.of hq2), fun H3 e3 => ?_⟩
    have s3 := s2.trans e3
    have hq3 := e3 _ _ hq2
    refine ⟨_, rfl, ite2 (fun h3 => iteT (kF ?_ H3 s3)) fun h3 => ?_⟩
    · rw [eu, if_pos (.inl (by simpa using h3))]
    have hw : Ks295.isWord (t.take (blankAt t)) = true := by simpa using h3
    refine ⟨_, rfl, _, rfl, d, _, rfl, DGet.t (s3 _ _ hd) (by rw [kw_kV]; exact hq3), _, rfl, ?_⟩
    rw [dv_val, Option.isSome_map, lookE_has]
    refine ite2 (fun h4 => iteT (kF ?_ H3 s3)) fun h4 => ?_
    · rw [eu, if_pos (.inr (.inl h4))]
    have hh : Ks295.has D (t.take (blankAt t)) = false := by simpa using h4
    refine ⟨_, rfl, rfl, _, rfl, ite2 (fun h5 => kF ?_ H3 s3) fun h5 => ?_⟩
    · have := of_decide_eq_true h5
      injection this with h6
      rw [eu, if_pos (.inr (.inr (by omega)))]
    have hc : ¬ readCount (t.drop (blankAt t + 1)) = 0 := fun z => h5 (decide_eq_true (by rw [z] <;> rfl))
    refine ⟨_, rfl, _, rfl, _, rfl, d, _, rfl, DPut.t (s3 _ _ hd) (by rw [kw_kV]; exact hq3) (by rw [dv_len, sizeLine_eq]; omega), ?_⟩
    refine kT _ (by rw [eu, if_neg (by rw [hw, hh]; simp [hc])]) _ (fun b o e n => by rw [upd_ne n]; exact s3 _ _ e) ?_
    rw [upd_same, dv_put_new hh]
end
end Wk
namespace L2
open PySem PySem.Spec PyProof.Rows
structure FunC (K : PySem.W.Frag) (x qual : Str) (st : Stmt) (f : Addr) (fd : FuncData) (c0 T : Addr) : Prop where
  ex : ∃ (oc : Value) (od : Option Addr) (kV doc pm : Value) (an : Option Addr) (ct : Value) (osl : Array (Option Value)),
    fd = PySem.W.fnOf x qual (defArgs st) (defBody st) (defScope st) .none kV doc pm an (.ref c0) ct ∧ K.lookup f = some ⟨oc, od, .func fd, osl⟩ ∧ PySem.W.codeIn K (.ref c0) qual = true
  kp : PySem.W.keepIn K (.ref f) = true
  hd : PySem.W.codeHdIn K c0 T = true
theorem FunC.ok {P : Program} {w : World} {K : PySem.W.Frag} {mg : Str → Option Value} {base : Heap} {x qual : Str} {st : Stmt} {f c0 T : Addr} {fd : FuncData} {N ps : List Str} {k : Nat} {sp : Sp} (F : FunC K x qual st f fd c0 T) (S : FnScope N ps (defScope st)) (len : ∀ vs H Q E, sp vs H Q E → vs.length = ps.length)
    (hbody : ∀ (A : Around) (outer : List Env) (s : Shared) (H : Hp) (vs : List V) (Q : VK) (E : XK), Room k (A.deeper (envOfC qual (defScope st) s.heap.objs.size f (.ref c0))) → sp vs H Q E →
      ∃ t, PSs (cxOf CX0 P w K mg base N qual (defScope st) f (.ref c0) A outer s H E).nox (defBody st) t ∧ t { nx := fun _ H' => Q .non H', rt := Q } (start N vs) H) : FnOk P w K mg base CX0 (k + 1) f fd ps sp := by
  obtain ⟨oc, od, kV, doc, pm, an, ct, osl, rfl, lk, hcd⟩ := F.ex
  refine fn_of lk hcd S len fun A outer s H vs Q E hr hsp => ?_
  obtain ⟨t, h, q⟩ := hbody A outer s H vs Q E hr hsp
  exact ⟨t, h.nox, q⟩
theorem FunC.binds {K : PySem.W.Frag} {x qual : Str} {st : Stmt} {f c0 T : Addr} {fd : FuncData} {ps : List Str} (F : FunC K x qual st f fd c0 T)
    (h : ∀ (kV doc pm : Value) (an : Option Addr) (cdv ct : Value) (us : List Value), us.length = ps.length → bindArgs (PySem.W.fnOf x qual (defArgs st) (defBody st) (defScope st) .none kV doc pm an cdv ct) ⟨us, []⟩ = pure (ps.zip us)) : Binds K fd ps [] := by
  obtain ⟨oc, od, kV, doc, pm, an, ct, osl, rfl, lk, hcd⟩ := F.ex
  exact .all (h kV doc pm an (.ref c0) ct)
end L2
namespace Wk
open PySem PySem.Spec PyProof.Rows L2
section
variable {P : Program} {w : World} {K : PySem.W.Frag} {mg : Str → Option Value} {base : Heap}
def cntOf (D : List Ks295.Entry) (v : List Nat) : Nat := (lookE D v).getD 0
def entOf (D : List Ks295.Entry) (wd : Addr → List Nat) (a : Addr) : Ks295.Entry := ⟨wd a, cntOf D (wd a)⟩
def lamPos : Pos := match defBody sOrder with
  | [.Return (some (.Call _ _ [⟨_, .Lambda _ _ _ pos, _⟩] _)) _] => pos
  | _ => ⟨0, 0, 0, 0⟩
def lamQual : Str := ("in_order" : Str) ++ ".<locals>." ++ "<lambda>"
abbrev Tab (T : Addr) (H : Hp) : Prop := TabOk H T lamPos lamQual
def spOrder (K : PySem.W.Frag) (T : Addr) : Sp := fun vs H Q _ => ∃ (l d : Addr) (ws : List Addr) (wd : Addr → List Nat) (D : List Ks295.Entry), vs = [.ref l, .ref d] ∧ SqL K H l (ws.map V.ref) ∧ H d = some (.dT (dv D)) ∧
  (∀ a ∈ ws, H a = some (.tup (wv (wd a))) ∧ Ks295.has D (wd a) = true) ∧ (ws.map wd).Nodup ∧ Tab T H ∧
  ∀ (H' : Hp) (p : Addr) (out : List Addr), SameT T H H' → Tab T H' → H p = none → out.Perm ws → out.Pairwise (fun a b => Ks295.first (entOf D wd a) (entOf D wd b) = true) → H' p = some (.lst (out.map V.ref)) → Q (.ref p) H'
theorem scOrder : FnScope ["words", "counts"] ["words", "counts"] (defScope sOrder) := ⟨rfl, rfl, rfl, by decide +kernel, rfl, by decide +kernel, by decide +kernel⟩
theorem nodup_of_map {α β : Type} {f : α → β} {l : List α} (h : (l.map f).Nodup) : l.Nodup ∧ ∀ a ∈ l, ∀ b ∈ l, f a = f b → a = b := by
  induction l with
  | nil => exact ⟨List.nodup_nil, fun a h => by cases h⟩
  | cons x l ih =>
    obtain ⟨h1, h2⟩ := List.nodup_cons.mp (show (f x :: l.map f).Nodup from h)
    obtain ⟨i1, i2⟩ := ih h2
    refine ⟨List.nodup_cons.mpr ⟨fun z => h1 (List.mem_map_of_mem z), i1⟩, fun a ha b hb e => ?_⟩
    rcases List.mem_cons.mp ha with ea | ha'
    · rcases List.mem_cons.mp hb with eb | hb'
      · exact ea.trans eb.symm
      · exact absurd (List.mem_map.mpr ⟨b, hb', by rw [← e, ea]⟩) h1
    · rcases List.mem_cons.mp hb with eb | hb'
      · exact absurd (List.mem_map.mpr ⟨a, ha', by rw [e, eb]⟩) h1
      · exact i2 a ha' b hb' e
def lamParts : Arguments × Expr × Scope := match defBody sOrder with
  | [.Return (some (.Call _ _ [⟨_, .Lambda a b sc _, _⟩] _)) _] => (a, b, sc)
  | _ => (defArgs sOrder, .Constant .none 0 ⟨0, 0, 0, 0⟩, defScope sOrder)
abbrev lamArgs : Arguments := lamParts.1
abbrev lamBody : Expr := lamParts.2.1
abbrev lamScope : Scope := lamParts.2.2
theorem SameT.ne {T : Addr} {H : Hp} (hT : Tab T H) {b : Addr} {o : HO} (h : H b = some o) (n : ∀ q, o ≠ .tbl q) : b ≠ T := fun z => by
  rcases hT with q | ⟨_, q, _⟩
  · rw [z, q] at h; exact n _ (Option.some.inj h).symm
  · rw [z, q] at h; exact n _ (Option.some.inj h).symm
theorem SameT.seq {T : Addr} {H H' : Hp} (e : SameT T H H') (hT : Tab T H) {a : Addr} {xs : List V} (h : SqL K H a xs) : SqL K H' a xs := by
  rcases h with (h | ⟨o, h⟩) | h
  · exact .inl (.inl (e _ _ h (SameT.ne hT h fun q z => nomatch z)))
  · exact .inl (.inr ⟨o, e _ _ h (SameT.ne hT h fun q z => nomatch z)⟩)
  · exact .inr h
theorem order_key {f c0 g c' l d : Addr} {A : Around} {outer : List Env} {s : Shared} {H H1 : Hp} {E : XK} {ws : List Addr} {wd : Addr → List Nat} {D : List Ks295.Entry} {Q : VK} {ctv pm : Value} {o : Obj}
    (hr : Room 4 (A.deeper (envOfC "in_order" (defScope sOrder) s.heap.objs.size f (.ref c0)))) (ho : o = PySem.W.kla_obj "<lambda>" lamQual lamArgs lamBody lamScope [("counts", s.heap.objs.size + 1)] pm c' ctv)
    (hl : SqL K H1 l (ws.map V.ref)) (hd : H1 d = some (.dT (dv D))) (hw : ∀ a ∈ ws, H1 a = some (.tup (wv (wd a))) ∧ Ks295.has D (wd a) = true) (nd : (ws.map wd).Nodup) (hc : H1 c' = some (CodeExt c' lamQual)) (hg : H1 g = none)
    (k : ∀ (H' : Hp) (p : Addr) (out : List Addr), Same (upd H1 g (LamExt g o)) H' → (upd H1 g (LamExt g o)) p = none → out.Perm ws → out.Pairwise (fun a b => Ks295.first (entOf D wd a) (entOf D wd b) = true) → H' p = some (.lst (out.map V.ref)) → Q (.ref p) H') :
    rSortK (cxOf CX0 P w K mg base ["words", "counts"] "in_order" (defScope sOrder) f (.ref c0) A outer s H E).nox l g [some (.ref l), some (.ref d)] (upd H1 g (LamExt g o)) Q := by
  obtain ⟨nd1, nd2⟩ := nodup_of_map nd
  have sm : Same H1 (upd H1 g (LamExt g o)) := same_new hg
  refine ⟨ws, fun a => -(cntOf D (wd a) : Int), fun a => wi (wd a), fun a b => Ks295.first (entOf D wd a) (entOf D wd b), sm.seq hl, ⟨fun a ha => ?_, fun a _ b _ => first_key _ _, fun a _ => first_irrefl _, fun a b c _ _ _ => first_trans, fun a b ha hb n => first_total fun z => n (nd2 a ha b hb z), nd1⟩, fun pins => ?_,
    fun out H' p p1 p2 p3 p4 p5 => k H' p out p4 p3 p1 p2 p5⟩
  · rw [wi_V]
    exact SqT.of (sm _ _ (hw a ha).1)
  · intro v pins' s' H' hv hp I' hS
    have fO : s'.heap.get? g = some o := (I'.hok g _ (hS _ _ upd_same)).1
    have fC : s'.heap.CodeRec (.ref c') lamQual := (I'.hok c' _ (hS _ _ (sm _ _ hc))).1
    have dH : H' d = some (.dT (dv D)) := hS _ _ (sm _ _ hd)
    have vH : H' v = some (.tup (wv (wd v))) := hS _ _ (sm _ _ (hw v hv).1)
    have look : lookE D (wd v) = some (cntOf D (wd v)) := by
      have h1 := (hw v hv).2
      rw [← lookE_has] at h1
      unfold cntOf
      cases q : lookE D (wd v) with
      | none => rw [q] at h1; cases h1
      | some c => rfl
    have e0 := I'.env0.in1.in1
    have r1 : Room 2 (A.deeper (envOfC "in_order" (defScope sOrder) s.heap.objs.size f (.ref c0))).in1.in1 := hr.in1.in1
    subst ho
    have cl : ∀ x c, ([("counts", s.heap.objs.size + 1)] : List (Str × Addr)).lookup x = some c → x = "counts" ∧ c = s.heap.objs.size + 1 := fun x c h => by
      cases q : (x == ("counts" : Str)) with
      | true =>
        simp only [List.lookup, q] at h
        exact ⟨eq_of_beq q, (Option.some.inj h).symm⟩
      | false =>
        simp only [List.lookup, q] at h
        cases h
    obtain ⟨m, hns, lk⟩ := I'.loc
    obtain ⟨u, ru, z⟩ := lk 1 "counts" (.ref d) rfl rfl (Or.inr (Or.inl rfl))
    cases ru
    have hcell : s'.heap.IsCell (s.heap.objs.size + 1) (some (.ref d)) := by
      rcases z with ⟨z1, _⟩ | ⟨_, c, z2, z3⟩
      · have z1' : (defScope sOrder).names.lookup ("counts" : Str) = some NameKind.local := z1
        exact absurd z1' (by decide +kernel)
      · have e : some (s.heap.objs.size + 1) = some c := z2
        rw [Option.some.inj e]; exact z3
    have hfree : H' (s.heap.objs.size + 1) = none := I'.freeC "counts" (s.heap.objs.size + 1) rfl
    refine lam_run (k := 1) (N := ["word", "counts"]) (ps := ["word"]) (σ := [some (.ref v), some (.ref d)]) e0 r1 ⟨rfl, rfl, rfl, by decide +kernel, by decide +kernel, fun x hx => ?_, fun x y c h1 h2 => (cl x c h1).1.trans (cl y c h2).1.symm⟩ fO fC rfl (fun x c h => ?_) rfl (fun i x y h1 h2 h3 => ?_)
      (fun hr' => pe_tup (pa_cons (pe_un un_neg (pe_dget (hu_of hr') (pv 1) (pv 0) (fun _ _ => rfl))) (pa_cons (pv 0) pa_nil))) ?_
    · have all : ∀ y ∈ lamScope.names, y.2 = .free → y.1 = "counts" := by decide +kernel
      have e : x = "counts" := all (x, .free) (PySem.mem_of_lookup hx) rfl
      exact ⟨s.heap.objs.size + 1, by rw [e]; rfl⟩
    · rw [(cl x c h).2]
      exact ⟨hfree, _, hcell⟩
    · match i, h1, h2 with
      | 0, h1, h2 =>
        have e1 : ("word" : Str) = x := Option.some.inj h1
        have e2 : V.ref v = y := Option.some.inj (Option.some.inj h2)
        subst e1 e2
        exact ⟨_, rfl, .inl ⟨by decide +kernel, rfl⟩⟩
      | 1, h1, h2 =>
        have e1 : ("counts" : Str) = x := Option.some.inj h1
        have e2 : V.ref d = y := Option.some.inj (Option.some.inj h2)
        subst e1 e2
        exact ⟨_, rfl, .inr ⟨by decide +kernel, _, rfl, hcell⟩⟩
      | i + 2, h1, h2 => simp at h1
    · have dg : DGet H' d (.ref v) (some (.int (cntOf D (wd v) : Nat))) := by
        have z := DGet.t dH (show H' v = some (.tup ((kw (wd v)).map kV)) by rw [kw_kV]; exact vH)
        rw [dv_val, look] at z
        exact z
      refine ⟨_, rfl, _, rfl, d, _, rfl, dg, _, rfl, _, rfl, (by rw [sizeLine_eq]; show 2 ≤ 16777216; decide), fun p hp => ⟨p, rfl, hp, upd_same, same_new hp⟩⟩
theorem ok_order {f c0 T : Addr} {fd : FuncData} (F : FunC K "in_order" "in_order" sOrder f fd c0 T) (W : TxW K mg) (kb : K.In base) (hB : base.BuiltinsAt mg T) : FnOk P w K mg base CX0 5 f fd ["words", "counts"] (spOrder K T) := by
  refine F.ok scOrder (fun vs H Q E h => ?_) (fun A outer s H vs Q E hr h => ?_)
  · obtain ⟨l, d, ws, wd, D, rfl, _⟩ := h
    rfl
  · obtain ⟨l, d, ws, wd, D, rfl, hl, hd, hw, nd, tab, k⟩ := h
    refine ⟨_, pss_one (ps_ret (pe_sortK rfl hr (by rfl) W.sorted (pv 0) (pe_lam (T := T) (c0 := c0) rfl rfl (PySem.W.codeHd_of_K kb F.hd) hB rfl))), ?_⟩
    refine ⟨_, rfl, tab, fun g c' ctv H1 s1 t1 hc hg hg0 => ⟨l, g, rfl, rfl, ?_⟩⟩
    have t1' : Tab T H1 := t1
    refine order_key (pm := (mg "__name__").getD .none) (ctv := ctv) (c' := c') hr rfl (SameT.seq s1 tab hl) (s1 _ _ hd (SameT.ne tab hd fun q z => nomatch z)) (fun a ha => ⟨s1 _ _ (hw a ha).1 (SameT.ne tab (hw a ha).1 fun q z => nomatch z), (hw a ha).2⟩) nd hc hg fun H' p out e1 e2 p1 p2 p3 => ?_
    have npg : p ≠ g := fun z => by rw [z, upd_same] at e2; cases e2
    rw [upd_ne npg] at e2
    have hp0 : H p = none := by
      cases q : H p with
      | none => rfl
      | some o =>
        by_cases z : p = T
        · subst z
          rcases t1' with q' | ⟨_, q', _⟩
          · rw [q'] at e2; cases e2
          · rw [q'] at e2; cases e2
        · rw [s1 _ _ q z] at e2; cases e2
    exact k H' p out ((s1.trans (same_new hg).t).trans e1.t) ((t1'.same (same_new hg)).same e1) hp0 p1 p2 p3
end
end Wk
namespace Sim
open PySem PyProof.Rows PySem.SeqAt
open AutoSeq1 (wpAny_loadPart')
open MeetsSeq MeetsSeq2 MeetsSeq3 SeqRoads2
def LtAt (A : Around) (s : Shared) (y x : Value) (b : Bool) : Prop :=
  ∀ (prog : Program) (w : World) (E Q : Value → Shared → Prop), Q (.bool b) s → wpAny (model prog w) A (richCompare .Lt y x) Q E s
def lexB (c : Bool) : List (Bool × Bool) → Bool
  | [] => c
  | p :: r => if p.1 = true then lexB c r else p.2
inductive PairsAt (A : Around) (s : Shared) : List (Value × Value) → List (Bool × Bool) → Prop
  | nil : PairsAt A s [] []
  | cons {u v : Value} {e l : Bool} {r : List (Value × Value)} {ps : List (Bool × Bool)} : EqAt A s u v e → (e = false → LtAt A s u v l) → PairsAt A s r ps → PairsAt A s ((u, v) :: r) ((e, l) :: ps)
theorem LtAt.ints {A : Around} {s : Shared} (i j : Int) (t t' : Tok) : LtAt A s (.int i t) (.int j t') (decide (i < j)) := fun prog w E Q h => P.lt_int h
theorem pairs_lt_meets (l b : Addr) (xs ys : Array Value) (n k : Nat) (dd dd2 : Option Addr) (sl sl2 : Array (Option Value)) (ps : List (Bool × Bool)) :
    Meets (Builtin.«tuple.__lt__» ⟨[.ref l, .ref b], []⟩)
      (fun A R s => s.heap.get? l = some { cls := .type "tuple", dict := dd, data := .seq xs n, slots := sl } ∧ s.heap.get? b = some { cls := .type "tuple", dict := dd2, data := .seq ys k, slots := sl2 } ∧
        PairsAt A.in1 s (xs.toList.zip ys.toList) ps ∧ R (.ok (.ret (.bool (lexB (decide (xs.size < ys.size)) ps)))) s) :=
  .of_wp fun prog w A R s h => by
    obtain ⟨hp, g, d, tk, os⟩ := s
    obtain ⟨hl, hb, hps, h⟩ := h
    have f2 := AutoSeq1.sub_tuple_tuple
    wp_walk using wpAny_loadPart' hl, wpAny_loadPart' hb, wpAny_forIn_list _ (fun (rest : List (Value × Value)) c s' => c.1 = none ∧ s' = (⟨hp, g, d, tk, os⟩ : Shared) ∧
      ∃ qs, PairsAt A.in1 (⟨hp, g, d, tk, os⟩ : Shared) rest qs ∧ R (.ok (.ret (.bool (lexB (decide (xs.size < ys.size)) qs)))) ⟨hp, g, d, tk, os⟩) _
    case turn =>
      rintro ⟨y, x⟩ rest c s' ⟨hc, rfl, qs, hq, hR⟩
      cases hq with
      | cons he hlt hr =>
        rename_i e lt ps'
        refine wpAny_bind (he prog w _ _ ?_)
        cases e with
        | true =>
          wp_walk
          exact ⟨rfl, rfl, _, hr, hR⟩
        | false =>
          have hl2 := hlt rfl prog w
          wp_walk using hl2
          exact ⟨_, rfl, hR⟩
    case fin =>
      rintro ⟨b1, b2⟩ s' ⟨hc, rfl, qs, hq, hR⟩
      simp only at hc
      subst hc
      cases hq
      wp_walk
      exact ⟨_, rfl, by simpa [Builtin.Tuple.tupleCompareSizes, lexB] using hR⟩
    case h =>
      exact ⟨rfl, rfl, ps, hps, h⟩
section
variable {A : Around} {s : Shared}
theorem LtAt.tuples {l b : Addr} {xs ys : Array Value} {ps : List (Bool × Bool)} (hl : s.heap.IsTuple l xs) (hb : s.heap.IsTuple b ys) (hu : A.units < cLine) (hp : PairsAt A.in1 s (xs.toList.zip ys.toList) ps) :
    LtAt A s (.ref l) (.ref b) (lexB (decide (xs.size < ys.size)) ps) := fun prog w E Q h => by
  obtain ⟨⟨c1, d1, t1, z1⟩, o1, k1, n, e1⟩ := id hl
  obtain ⟨⟨c2, d2, t2, z2⟩, o2, k2, m, e2⟩ := id hb
  simp only at k1 e1 k2 e2
  subst k1 e1 k2 e2
  exact richCompare_meets_room (op := .Lt) ⟨_, o1, rfl⟩ ⟨_, o2, rfl⟩ F.slot_tuple_lt F.entry_tuple_lt (F.args_tuple_lt_2 _ _) (pairs_lt_meets l b xs ys n m d1 d2 z1 z2 ps)
    ⟨o1, o2, hp, show Value.bool (lexB (decide (xs.size < ys.size)) ps) ≠ Value.notImplemented ∧ Q (.bool (lexB (decide (xs.size < ys.size)) ps)) s from ⟨(fun x => nomatch x), h⟩⟩ hu
end
end Sim
namespace Wk
open Ks295 (Entry before)
open Ks296 (Way beforeRow likelier better bests step total)
structure Tri where
  wt : Nat
  n : Nat
  ws : List (List Nat)
theorem beforeRow_irrefl : ∀ a : List (List Nat), beforeRow a a = false
  | [] => rfl
  | x :: l => by
    show (before x x || (x == x && beforeRow l l)) = false
    rw [beforeRow_irrefl l, before_irrefl]; simp
theorem beforeRow_trans : ∀ {a b c : List (List Nat)}, beforeRow a b = true → beforeRow b c = true → beforeRow a c = true
  | [], [], _, h, _ => by simp [beforeRow] at h
  | [], _ :: _, [], _, h => by simp [beforeRow] at h
  | [], _ :: _, _ :: _, _, _ => rfl
  | _ :: _, [], _, h, _ => by simp [beforeRow] at h
  | _ :: _, _ :: _, [], _, h => by simp [beforeRow] at h
  | x :: a, y :: b, z :: c, h, k => by
    simp only [beforeRow, Bool.or_eq_true, Bool.and_eq_true, beq_iff_eq] at h k ⊢
    rcases h with h | ⟨rfl, h⟩
    · rcases k with k | ⟨rfl, k⟩
      · exact .inl (before_trans h k)
      · exact .inl h
    · rcases k with k | ⟨rfl, k⟩
      · exact .inl k
      · exact .inr ⟨rfl, beforeRow_trans h k⟩
theorem beforeRow_total : ∀ {a b : List (List Nat)}, a ≠ b → beforeRow a b = true ∨ beforeRow b a = true
  | [], [], h => absurd rfl h
  | [], _ :: _, _ => .inl rfl
  | _ :: _, [], _ => .inr rfl
  | x :: a, y :: b, h => by
    simp only [beforeRow, Bool.or_eq_true, Bool.and_eq_true, beq_iff_eq]
    by_cases q : x = y
    · subst q
      rcases beforeRow_total (a := a) (b := b) (fun e => h (by rw [e])) with z | z
      · exact .inl (.inr ⟨rfl, z⟩)
      · exact .inr (.inr ⟨rfl, z⟩)
    · rcases before_total q with z | z
      · exact .inl (.inl z)
      · exact .inr (.inl z)
def triLt (a b : Tri) : Bool := decide (b.wt < a.wt) || (a.wt == b.wt && (decide (a.n < b.n) || (a.n == b.n && beforeRow a.ws b.ws)))
theorem triLt_iff {a b : Tri} : triLt a b = true ↔ b.wt < a.wt ∨ (a.wt = b.wt ∧ (a.n < b.n ∨ (a.n = b.n ∧ beforeRow a.ws b.ws = true))) := by
  unfold triLt
  simp only [Bool.or_eq_true, decide_eq_true_eq, Bool.and_eq_true, beq_iff_eq]
theorem triLt_irrefl (a : Tri) : triLt a a = false := by
  unfold triLt; rw [beforeRow_irrefl]; simp
theorem triLt_trans {a b c : Tri} (h : triLt a b = true) (k : triLt b c = true) : triLt a c = true := by
  rw [triLt_iff] at *
  rcases h with h | ⟨e1, h⟩
  · rcases k with k | ⟨e2, k⟩
    · exact .inl (by omega)
    · exact .inl (by omega)
  · rcases k with k | ⟨e2, k⟩
    · exact .inl (by omega)
    · refine .inr ⟨by omega, ?_⟩
      rcases h with h | ⟨e3, h⟩
      · rcases k with k | ⟨e4, k⟩
        · exact .inl (by omega)
        · exact .inl (by omega)
      · rcases k with k | ⟨e4, k⟩
        · exact .inl (by omega)
        · exact .inr ⟨by omega, beforeRow_trans h k⟩
theorem triLt_total {a b : Tri} (h : a ≠ b) : triLt a b = true ∨ triLt b a = true := by
  rw [triLt_iff, triLt_iff]
  rcases Nat.lt_trichotomy a.wt b.wt with q | q | q
  · exact .inr (.inl q)
  · rcases Nat.lt_trichotomy a.n b.n with p | p | p
    · exact .inl (.inr ⟨q, .inl p⟩)
    · have n : a.ws ≠ b.ws := fun e => h (by
        obtain ⟨w1, n1, s1⟩ := a
        obtain ⟨w2, n2, s2⟩ := b
        simp only at q p e
        rw [q, p, e])
      rcases beforeRow_total n with z | z
      · exact .inl (.inr ⟨q, .inr ⟨p, z⟩⟩)
      · exact .inr (.inr ⟨q.symm, .inr ⟨p.symm, z⟩⟩)
    · exact .inr (.inr ⟨q.symm, .inl p⟩)
  · exact .inl (.inl q)
def Least (S : List Tri) (m : Tri) : Prop := m ∈ S ∧ ∀ y ∈ S, triLt y m = false
theorem Least.unique {S S' : List Tri} {m m' : Tri} (hs : ∀ x, x ∈ S ↔ x ∈ S') (h : Least S m) (h' : Least S' m') : m = m' := by
  by_cases q : m = m'
  · exact q
  · rcases triLt_total q with z | z
    · rw [h'.2 m ((hs m).mp h.1)] at z; cases z
    · rw [h.2 m' ((hs m').mpr h'.1)] at z; cases z
def bestOf (t : Nat) (l : List Entry) (ks : List Nat) : Option Way := (bests t l ks).headD none
def candW (t : Nat) (l : List Entry) (ks : List Nat) (e : Entry) : Option Way :=
  if e.word.length ≤ ks.length ∧ ks.take e.word.length = Ks295.keys e.word then (bestOf t l (ks.drop e.word.length)).map fun w => ⟨e.count * w.product, w.many + 1, e.word :: w.words⟩ else none
theorem bests_getD (t : Nat) (l : List Entry) : ∀ (ks : List Nat) (k : Nat), k ≤ ks.length → (bests t l ks).getD k none = bestOf t l (ks.drop k)
  | [], 0, _ => rfl
  | [], k + 1, h => absurd h (by simp)
  | x :: ks, 0, _ => rfl
  | x :: ks, k + 1, h => by
    show (step t l (x :: ks) (bests t l ks) :: bests t l ks).getD (k + 1) none = _
    rw [List.getD_cons_succ, bests_getD t l ks k (by simpa using h)]
    rfl
theorem better_none (t : Nat) (b : Option Way) : better t b none = b := by cases b <;> rfl
theorem bestOf_cons (t : Nat) (l : List Entry) (hg : ∀ e ∈ l, 1 ≤ e.word.length) (k : Nat) (ks : List Nat) : bestOf t l (k :: ks) = (l.map (candW t l (k :: ks))).foldl (better t) none := by
  show step t l (k :: ks) (bests t l ks) = _
  unfold step
  rw [List.foldl_map]
  have key : ∀ (m : List Entry), (∀ e ∈ m, 1 ≤ e.word.length) → ∀ b, m.foldl (fun b e => if e.word.length ≤ (k :: ks).length ∧ (k :: ks).take e.word.length = Ks295.keys e.word then better t b (match (bests t l ks).getD (e.word.length - 1) none with
      | some w => some ⟨e.count * w.product, w.many + 1, e.word :: w.words⟩
      | none => none) else b) b = m.foldl (fun x y => better t x (candW t l (k :: ks) y)) b := by
    intro m
    induction m with
    | nil => intro _ b; rfl
    | cons e m ih =>
      intro hm b
      rw [List.foldl_cons, List.foldl_cons, ih fun x hx => hm x (List.mem_cons_of_mem _ hx)]
      have he := hm e List.mem_cons_self
      congr 1
      unfold candW
      by_cases c : e.word.length ≤ (k :: ks).length ∧ (k :: ks).take e.word.length = Ks295.keys e.word
      · rw [if_pos c, if_pos c]
        have h1 : e.word.length - 1 ≤ ks.length := by have := c.1; simp at this; omega
        rw [bests_getD t l ks _ h1]
        have h2 : (k :: ks).drop e.word.length = ks.drop (e.word.length - 1) := by
          cases q : e.word.length with
          | zero => omega
          | succ n => rfl
        rw [h2]
        cases bestOf t l (ks.drop (e.word.length - 1)) <;> rfl
      · rw [if_neg c, if_neg c, better_none]
  exact key l hg none
def triOf (t n : Nat) (w : Way) : Tri := ⟨w.product * t ^ (n - w.many), w.many, w.words⟩
theorem likelier_tri {t n : Nat} (ht : 0 < t) {a b : Way} (ha : a.many ≤ n) (hb : b.many ≤ n) : likelier t a b = triLt (triOf t n a) (triOf t n b) := by
  have pa : a.product * t ^ (n - a.many) * (t ^ a.many * t ^ b.many) = a.product * t ^ b.many * t ^ n := by
    have : t ^ (n - a.many) * t ^ a.many = t ^ n := by rw [← Nat.pow_add]; congr 1; omega
    rw [← this]
    simp only [Nat.mul_assoc, Nat.mul_comm, Nat.mul_left_comm]
  have pb : b.product * t ^ (n - b.many) * (t ^ a.many * t ^ b.many) = b.product * t ^ a.many * t ^ n := by
    have : t ^ (n - b.many) * t ^ b.many = t ^ n := by rw [← Nat.pow_add]; congr 1; omega
    rw [← this]
    simp only [Nat.mul_assoc, Nat.mul_comm, Nat.mul_left_comm]
  have p1 : 0 < t ^ a.many * t ^ b.many := Nat.mul_pos (Nat.pow_pos ht) (Nat.pow_pos ht)
  have p2 : 0 < t ^ n := Nat.pow_pos ht
  have lt1 : b.product * t ^ a.many < a.product * t ^ b.many ↔ b.product * t ^ (n - b.many) < a.product * t ^ (n - a.many) := by
    rw [← Nat.mul_lt_mul_right p2, ← pa, ← pb, Nat.mul_lt_mul_right p1]
  have eq1 : a.product * t ^ b.many = b.product * t ^ a.many ↔ a.product * t ^ (n - a.many) = b.product * t ^ (n - b.many) := by
    constructor
    · intro h
      refine Nat.eq_of_mul_eq_mul_right p1 ?_
      rw [pa, pb, h]
    · intro h
      refine Nat.eq_of_mul_eq_mul_right p2 ?_
      rw [← pa, ← pb, h]
  unfold likelier triLt triOf
  simp only
  congr 1
  · exact decide_eq_decide.mpr lt1
  · congr 1
    by_cases q : a.product * t ^ b.many = b.product * t ^ a.many
    · rw [beq_iff_eq.mpr q, beq_iff_eq.mpr (eq1.mp q)]
    · rw [beq_eq_false_iff_ne.mpr q, beq_eq_false_iff_ne.mpr fun z => q (eq1.mpr z)]
theorem fold_better {t n : Nat} (ht : 0 < t) : ∀ (os : List (Option Way)) (acc : Option Way), (∀ w, acc = some w → w.many ≤ n) → (∀ w, some w ∈ os → w.many ≤ n) →
    (os.foldl (better t) acc = none ↔ acc = none ∧ ∀ o ∈ os, o = none) ∧ ∀ w, os.foldl (better t) acc = some w → (some w ∈ acc :: os) ∧ ∀ y, some y ∈ acc :: os → triLt (triOf t n y) (triOf t n w) = false
  | [], acc, ha, _ => by
    refine ⟨⟨fun h => ⟨h, fun o ho => by cases ho⟩, fun h => h.1⟩, fun w h => ⟨by rw [← h]; exact List.mem_cons_self, fun y hy => ?_⟩⟩
    rcases List.mem_cons.mp hy with q | q
    · have : acc = some w := h
      rw [this] at q
      cases q
      exact triLt_irrefl _
    · cases q
  | o :: os, acc, ha, ho => by
    rw [List.foldl_cons]
    have hos : ∀ w, some w ∈ os → w.many ≤ n := fun w h => ho w (List.mem_cons_of_mem _ h)
    cases o with
    | none =>
      rw [better_none]
      obtain ⟨i1, i2⟩ := fold_better ht os acc ha hos
      refine ⟨⟨fun h => ⟨(i1.mp h).1, fun o ho => ?_⟩, fun h => i1.mpr ⟨h.1, fun o ho => h.2 o (List.mem_cons_of_mem _ ho)⟩⟩, fun w h => ?_⟩
      · rcases List.mem_cons.mp ho with q | q
        · exact q
        · exact (i1.mp h).2 o q
      · obtain ⟨j1, j2⟩ := i2 w h
        refine ⟨?_, fun y hy => j2 y ?_⟩
        · rcases List.mem_cons.mp j1 with q | q
          · rw [q]; exact List.mem_cons_self
          · exact List.mem_cons_of_mem _ (List.mem_cons_of_mem _ q)
        · rcases List.mem_cons.mp hy with q | q
          · rw [q]; exact List.mem_cons_self
          · rcases List.mem_cons.mp q with z | z
            · cases z
            · exact List.mem_cons_of_mem _ z
    | some x =>
      have hx : x.many ≤ n := ho x List.mem_cons_self
      cases acc with
      | none =>
        have e : better t none (some x) = some x := rfl
        rw [e]
        obtain ⟨i1, i2⟩ := fold_better ht os (some x) (fun w h => by cases h; exact hx) hos
        refine ⟨⟨(fun h => by have := (i1.mp h).1; cases this), (fun h => by have := h.2 (some x) List.mem_cons_self; cases this)⟩, fun w h => ?_⟩
        obtain ⟨j1, j2⟩ := i2 w h
        refine ⟨List.mem_cons_of_mem _ j1, fun y hy => j2 y ?_⟩
        rcases List.mem_cons.mp hy with q | q
        · cases q
        · exact q
      | some a =>
        have hA : a.many ≤ n := ha a rfl
        have e : better t (some a) (some x) = if likelier t x a then some x else some a := rfl
        rw [e, likelier_tri ht hx hA]
        by_cases c : triLt (triOf t n x) (triOf t n a) = true
        · rw [if_pos c]
          obtain ⟨i1, i2⟩ := fold_better ht os (some x) (fun w h => by cases h; exact hx) hos
          refine ⟨⟨(fun h => by have := (i1.mp h).1; cases this), (fun h => by have := h.1; cases this)⟩, fun w h => ?_⟩
          obtain ⟨j1, j2⟩ := i2 w h
          refine ⟨List.mem_cons_of_mem _ j1, fun y hy => ?_⟩
          rcases List.mem_cons.mp hy with q | q
          · cases q
            cases z : triLt (triOf t n a) (triOf t n w) with
            | false => rfl
            | true =>
              have := triLt_trans c z
              rw [j2 x List.mem_cons_self] at this; cases this
          · exact j2 y q
        · rw [if_neg c]
          obtain ⟨i1, i2⟩ := fold_better ht os (some a) (fun w h => by cases h; exact hA) hos
          refine ⟨⟨(fun h => by have := (i1.mp h).1; cases this), (fun h => by have := h.1; cases this)⟩, fun w h => ?_⟩
          obtain ⟨j1, j2⟩ := i2 w h
          refine ⟨?_, fun y hy => ?_⟩
          · rcases List.mem_cons.mp j1 with q | q
            · rw [q]; exact List.mem_cons_self
            · exact List.mem_cons_of_mem _ (List.mem_cons_of_mem _ q)
          · rcases List.mem_cons.mp hy with q | q
            · exact j2 y (by rw [q]; exact List.mem_cons_self)
            · rcases List.mem_cons.mp q with z | z
              · cases z
                cases z : triLt (triOf t n x) (triOf t n w) with
                | false => rfl
                | true =>
                  by_cases y1 : triOf t n x = triOf t n a
                  · rw [y1, j2 a List.mem_cons_self] at z; cases z
                  · rcases triLt_total y1 with k | k
                    · exact absurd k c
                    · have := triLt_trans k z
                      rw [j2 a List.mem_cons_self] at this; cases this
              · exact j2 y (List.mem_cons_of_mem _ z)
structure WayOk (t : Nat) (l : List Entry) (n : Nat) (w : Way) : Prop where
  le : w.many ≤ n
  len : w.many = w.words.length
  mem : ∀ v ∈ w.words, v ∈ l.map Entry.word
  bound : w.product ≤ t ^ w.many
theorem bestOf_ok {t : Nat} {l : List Entry} (ht : ∀ e ∈ l, e.count ≤ t) (hpos : l ≠ [] → 0 < t) (hg : ∀ e ∈ l, 1 ≤ e.word.length) : ∀ (n : Nat) (ks : List Nat), ks.length ≤ n → ∀ w, bestOf t l ks = some w → WayOk t l ks.length w
  | n, [], _, w, h => by
    have e : some (⟨1, 0, []⟩ : Way) = some w := h
    cases e
    exact ⟨Nat.le_refl _, rfl, (fun v hv => by cases hv), by simp⟩
  | 0, k :: ks, hn, _, _ => absurd hn (by simp)
  | n + 1, k :: ks, hn, w, h => by
    by_cases hl : l = []
    · subst hl
      cases h
    have hm : ∀ x, some x ∈ l.map (candW t l (k :: ks)) → WayOk t l (k :: ks).length x := fun x hx => by
      obtain ⟨e, he, q⟩ := List.mem_map.mp hx
      unfold candW at q
      by_cases c : e.word.length ≤ (k :: ks).length ∧ (k :: ks).take e.word.length = Ks295.keys e.word
      · rw [if_pos c] at q
        obtain ⟨y, hy, rfl⟩ := Option.map_eq_some_iff.mp q
        have h1 := hg e he
        have hd : ((k :: ks).drop e.word.length).length = (k :: ks).length - e.word.length := List.length_drop ..
        have i := bestOf_ok ht hpos hg n ((k :: ks).drop e.word.length) (by rw [hd]; have := hn; omega) y hy
        have i1 := i.le
        rw [hd] at i1
        refine ⟨by show y.many + 1 ≤ _; have := c.1; omega, by show y.many + 1 = (e.word :: y.words).length; rw [i.len]; simp, fun v hv => ?_, ?_⟩
        · rcases List.mem_cons.mp hv with z | z
          · rw [z]; exact List.mem_map_of_mem he
          · exact i.mem v z
        · show e.count * y.product ≤ t ^ (y.many + 1)
          rw [Nat.pow_succ, Nat.mul_comm (t ^ y.many)]
          exact Nat.mul_le_mul (ht e he) i.bound
      · rw [if_neg c] at q; cases q
    rw [bestOf_cons t l hg] at h
    have := (fold_better (hpos hl) (n := (k :: ks).length) _ none (fun w h => by cases h) (fun w h => (hm w h).le)).2 w h
    rcases List.mem_cons.mp this.1 with q | q
    · cases q
    · exact hm w q
def wOf (t : Nat) (e : Entry) : Nat := e.count * t ^ (e.word.length - 1)
def ways (t : Nat) (l D : List Entry) (ks : List Nat) : List Tri := D.filterMap fun e =>
  if e.word.length ≤ ks.length ∧ ks.take e.word.length = Ks295.keys e.word then (bestOf t l (ks.drop e.word.length)).map fun w => ⟨(triOf t (ks.length - e.word.length) w).wt * wOf t e, w.many + 1, e.word :: w.words⟩ else none
theorem ways_step {t : Nat} {l D : List Entry} (hp : l.Perm D) (ht : ∀ e ∈ l, e.count ≤ t) (hpos : l ≠ [] → 0 < t) (hg : ∀ e ∈ l, 1 ≤ e.word.length) (k : Nat) (ks : List Nat) :
    (ways t l D (k :: ks) = [] ↔ bestOf t l (k :: ks) = none) ∧ ∀ m, Least (ways t l D (k :: ks)) m → ∃ w, bestOf t l (k :: ks) = some w ∧ m = triOf t (k :: ks).length w := by
  by_cases hl : l = []
  · subst hl
    have hD : D = [] := (List.Perm.nil_eq hp).symm
    subst hD
    exact ⟨⟨fun _ => rfl, fun _ => rfl⟩, fun m h => by have := h.1; cases this⟩
  have tp := hpos hl
  have ok := bestOf_ok ht hpos hg
  have hc : ∀ e ∈ l, (candW t l (k :: ks) e).map (triOf t (k :: ks).length) = if e.word.length ≤ (k :: ks).length ∧ (k :: ks).take e.word.length = Ks295.keys e.word then (bestOf t l ((k :: ks).drop e.word.length)).map fun w => (⟨(triOf t ((k :: ks).length - e.word.length) w).wt * wOf t e, w.many + 1, e.word :: w.words⟩ : Tri) else none := fun e he => by
    unfold candW
    by_cases c : e.word.length ≤ (k :: ks).length ∧ (k :: ks).take e.word.length = Ks295.keys e.word
    · rw [if_pos c, if_pos c]
      cases q : bestOf t l ((k :: ks).drop e.word.length) with
      | none => rfl
      | some w =>
        have i := (ok _ _ (Nat.le_refl _) w q).le
        rw [List.length_drop] at i
        have h1 := hg e he
        show some (triOf t (k :: ks).length ⟨e.count * w.product, w.many + 1, e.word :: w.words⟩) = some _
        congr 1
        unfold triOf wOf
        simp only
        congr 1
        have : t ^ ((k :: ks).length - (w.many + 1)) = t ^ ((k :: ks).length - e.word.length - w.many) * t ^ (e.word.length - 1) := by
          rw [← Nat.pow_add]; congr 1; have := c.1; omega
        rw [this]
        simp only [Nat.mul_assoc, Nat.mul_comm, Nat.mul_left_comm]
    · rw [if_neg c, if_neg c]; rfl
  have mem : ∀ x : Tri, x ∈ ways t l D (k :: ks) ↔ ∃ w, some w ∈ l.map (candW t l (k :: ks)) ∧ x = triOf t (k :: ks).length w := fun x => by
    unfold ways
    rw [List.mem_filterMap]
    constructor
    · rintro ⟨e, he, q⟩
      have he' : e ∈ l := hp.mem_iff.mpr he
      rw [← hc e he'] at q
      obtain ⟨w, hw, rfl⟩ := Option.map_eq_some_iff.mp q
      exact ⟨w, List.mem_map.mpr ⟨e, he', hw⟩, rfl⟩
    · rintro ⟨w, hw, rfl⟩
      obtain ⟨e, he, q⟩ := List.mem_map.mp hw
      refine ⟨e, hp.mem_iff.mp he, ?_⟩
      rw [← hc e he, q]; rfl
  have le : ∀ w, some w ∈ l.map (candW t l (k :: ks)) → w.many ≤ (k :: ks).length := fun w hw => by
    obtain ⟨e, he, q⟩ := List.mem_map.mp hw
    unfold candW at q
    by_cases c : e.word.length ≤ (k :: ks).length ∧ (k :: ks).take e.word.length = Ks295.keys e.word
    · rw [if_pos c] at q
      obtain ⟨y, hy, rfl⟩ := Option.map_eq_some_iff.mp q
      have i := (ok _ _ (Nat.le_refl _) y hy).le
      rw [List.length_drop] at i
      have h1 := hg e he
      have := c.1
      show y.many + 1 ≤ _
      omega
    · rw [if_neg c] at q; cases q
  have fb := fold_better tp (n := (k :: ks).length) (l.map (candW t l (k :: ks))) none (fun w h => by cases h) le
  rw [bestOf_cons t l hg]
  refine ⟨?_, fun m h => ?_⟩
  · rw [fb.1]
    constructor
    · intro e
      refine ⟨rfl, fun o ho => ?_⟩
      cases o with
      | none => rfl
      | some w =>
        have := (mem _).mpr ⟨w, ho, rfl⟩
        rw [e] at this; cases this
    · rintro ⟨_, h⟩
      refine List.eq_nil_iff_forall_not_mem.mpr fun x hx => ?_
      obtain ⟨w, hw, _⟩ := (mem x).mp hx
      have := h _ hw
      cases this
  · cases q : (l.map (candW t l (k :: ks))).foldl (better t) none with
    | none =>
      obtain ⟨w, hw, _⟩ := (mem m).mp h.1
      have := (fb.1.mp q).2 _ hw
      cases this
    | some w =>
      obtain ⟨j1, j2⟩ := fb.2 w q
      have j1' : some w ∈ l.map (candW t l (k :: ks)) := by
        rcases List.mem_cons.mp j1 with z | z
        · cases z
        · exact z
      refine ⟨w, rfl, ?_⟩
      refine Least.unique (fun x => Iff.rfl) h ⟨(mem _).mpr ⟨w, j1', rfl⟩, fun y hy => ?_⟩
      obtain ⟨u, hu, rfl⟩ := (mem y).mp hy
      exact j2 u (List.mem_cons_of_mem _ hu)
end Wk
namespace Wk
open Ks295 (Entry before)
open Ks296 (Way total)
theorem foldl_add (l : List Nat) : ∀ n, l.foldl (· + ·) n = n + l.sum := by
  induction l with
  | nil => intro n; simp
  | cons x l ih => intro n; rw [List.foldl_cons, ih, List.sum_cons]; omega
theorem total_eq {D l : List Entry} (r : Rel D l) : total l = (D.map Entry.count).sum := by
  unfold Ks296.total
  rw [foldl_add, Nat.zero_add]
  exact (r.pe.map _).sum_nat
theorem le_sum {l : List Nat} {x : Nat} (h : x ∈ l) : x ≤ l.sum := by
  induction l with
  | nil => cases h
  | cons y l ih =>
    rw [List.sum_cons]
    rcases List.mem_cons.mp h with q | q
    · omega
    · have := ih q; omega
theorem sum_le {l : List Nat} {b : Nat} (h : ∀ x ∈ l, x ≤ b) : l.sum ≤ l.length * b := by
  induction l with
  | nil => simp
  | cons y l ih =>
    rw [List.sum_cons, List.length_cons, Nat.succ_mul]
    have := ih fun x hx => h x (List.mem_cons_of_mem _ hx)
    have := h y List.mem_cons_self
    omega
theorem word_len {v : List Nat} (h : Ks295.isWord v = true) : 1 ≤ v.length ∧ v.length ≤ 12 := by
  unfold Ks295.isWord at h
  simp only [Bool.and_eq_true, decide_eq_true_eq] at h
  exact ⟨h.1.1, h.1.2⟩
theorem Rel.parts {D l : List Entry} (r : Rel D l) (g : Good D) (h64 : D.length ≤ 64) : (∀ e ∈ l, e.count ≤ total l) ∧ (l ≠ [] → 0 < total l) ∧ (∀ e ∈ l, 1 ≤ e.word.length) ∧ total l ≤ 64000000 := by
  have e := total_eq r
  have hm : ∀ x ∈ l, x.count ≤ total l := fun x hx => by
    rw [e]; exact le_sum (List.mem_map_of_mem (r.pe.mem_iff.mp hx))
  refine ⟨hm, fun n => ?_, fun x hx => (word_len (g x (r.pe.mem_iff.mp hx)).1).1, ?_⟩
  · cases l with
    | nil => exact absurd rfl n
    | cons x l =>
      have := hm x List.mem_cons_self
      have := (g x (r.pe.mem_iff.mp List.mem_cons_self)).2.1
      omega
  · rw [e]
    have := sum_le (l := D.map Entry.count) (b := 1000000) fun x hx => by
      obtain ⟨y, hy, rfl⟩ := List.mem_map.mp hx
      exact (g y hy).2.2
    rw [List.length_map] at this
    omega
def cntD (D : List Entry) (v : List Nat) : Nat := (lookE D v).getD 0
def incE (D : List Entry) (v : List Nat) : List Entry := setE D v (cntD D v + 1)
theorem lookE_cons (e : Entry) (D : List Entry) (v : List Nat) : lookE (e :: D) v = if e.word = v then some e.count else lookE D v := by
  unfold lookE
  rw [List.find?_cons]
  by_cases q : e.word = v
  · rw [beq_iff_eq.mpr q, if_pos q]; rfl
  · rw [beq_eq_false_iff_ne.mpr q, if_neg q]
theorem lookE_set : ∀ (D : List Entry) (w : List Nat) (n : Nat) (v : List Nat), lookE (setE D w n) v = if v = w then (lookE D v).map fun _ => n else lookE D v
  | [], w, n, v => by
    show lookE [] v = _
    by_cases q : v = w
    · rw [if_pos q]; rfl
    · rw [if_neg q]
  | e :: D, w, n, v => by
    show lookE ((if e.word = w then ⟨w, n⟩ else e) :: setE D w n) v = _
    rw [lookE_cons, lookE_cons, lookE_set D w n v]
    by_cases p : e.word = w
    · rw [if_pos p]
      show (if w = v then some n else _) = _
      by_cases q : v = w
      · rw [if_pos q.symm, if_pos q, if_pos (p.trans q.symm)]; rfl
      · rw [if_neg fun z => q z.symm, if_neg q, if_neg q, if_neg fun z => q (z.symm.trans p)]
    · rw [if_neg p]
      by_cases q : v = w
      · rw [if_pos q, if_pos q]
        have : ¬ e.word = v := fun z => p (z.trans q)
        rw [if_neg this, if_neg this]
      · rw [if_neg q, if_neg q]
theorem look_has {D : List Entry} {v : List Nat} (h : Ks295.has D v = true) : lookE D v = some (cntD D v) := by
  rw [← lookE_has] at h
  unfold cntD
  cases q : lookE D v with
  | none => rw [q] at h; cases h
  | some c => rfl
theorem has_setE (D : List Entry) (w : List Nat) (n : Nat) (v : List Nat) : Ks295.has (setE D w n) v = Ks295.has D v := by
  rw [← lookE_has, ← lookE_has, lookE_set]
  by_cases q : v = w
  · rw [if_pos q, Option.isSome_map]
  · rw [if_neg q]
theorem has_inc (D : List Entry) (w v : List Nat) : Ks295.has (incE D w) v = Ks295.has D v := has_setE D w _ v
theorem cnt_inc {D : List Entry} {w v : List Nat} (h : Ks295.has D w = true) : cntD (incE D w) v = cntD D v + if v = w then 1 else 0 := by
  unfold cntD incE
  rw [lookE_set]
  by_cases q : v = w
  · subst q
    rw [if_pos rfl, if_pos rfl, look_has h]; rfl
  · rw [if_neg q, if_neg q]; rfl
theorem has_fold (ws : List (List Nat)) : ∀ (D : List Entry) (v : List Nat), Ks295.has (ws.foldl incE D) v = Ks295.has D v := by
  induction ws with
  | nil => intro D v; rfl
  | cons w ws ih => intro D v; rw [List.foldl_cons, ih, has_inc]
theorem cnt_fold (ws : List (List Nat)) : ∀ (D : List Entry) (v : List Nat), (∀ w ∈ ws, Ks295.has D w = true) → cntD (ws.foldl incE D) v = cntD D v + ws.count v := by
  induction ws with
  | nil => intro D v _; rfl
  | cons w ws ih =>
    intro D v h
    rw [List.foldl_cons, ih (incE D w) v (fun x hx => by rw [has_inc]; exact h x (List.mem_cons_of_mem _ hx)), cnt_inc (h w List.mem_cons_self), List.count_cons]
    by_cases q : v = w
    · subst q; simp; omega
    · rw [if_neg q, if_neg (by rw [beq_iff_eq]; exact fun z => q z.symm)]; omega
theorem fold_len (ws : List (List Nat)) : ∀ (D : List Entry), (ws.foldl incE D).length = D.length := by
  induction ws with
  | nil => intro D; rfl
  | cons w ws ih => intro D; rw [List.foldl_cons, ih]; exact List.length_map ..
theorem Rel.fold (ws : List (List Nat)) : ∀ {D l : List Entry}, Rel D l → (∀ w ∈ ws, Ks295.has D w = true) → Rel (ws.foldl incE D) (ws.foldl Ks297.used l) := by
  induction ws with
  | nil => intro D l r _; exact r
  | cons w ws ih =>
    intro D l r h
    rw [List.foldl_cons, List.foldl_cons]
    exact ih (r.counted (fun n => n + 1) (look_has (h w List.mem_cons_self))) fun x hx => by rw [has_inc]; exact h x (List.mem_cons_of_mem _ hx)
theorem words_fold (ws : List (List Nat)) : ∀ (D : List Entry), (ws.foldl incE D).map Entry.word = D.map Entry.word := by
  induction ws with
  | nil => intro D; rfl
  | cons w ws ih => intro D; rw [List.foldl_cons, ih]; exact setE_words _ _ _
theorem room_iff {D l : List Entry} (r : Rel D l) (g : Good D) {ws : List (List Nat)} (h : ∀ w ∈ ws, Ks295.has D w = true) :
    ((ws.foldl Ks297.used l).any (fun e => decide (Ks295.MOST < e.count)) = true) ↔ ¬ ∀ w ∈ ws, cntD D w + ws.count w ≤ 1000000 := by
  have rf := Rel.fold ws r h
  rw [rf.any, List.any_eq_true]
  have cnt : ∀ e ∈ ws.foldl incE D, e.count = cntD D e.word + ws.count e.word := fun e he => by
    rw [← cnt_fold ws D e.word h]
    unfold cntD
    rw [lookE_mem rf.nd he]; rfl
  constructor
  · rintro ⟨e, he, q⟩ z
    have q' : 1000000 < e.count := of_decide_eq_true q
    rw [cnt e he] at q'
    by_cases m : e.word ∈ ws
    · have := z e.word m; omega
    · rw [List.count_eq_zero_of_not_mem m] at q'
      have hw : e.word ∈ D.map Entry.word := by rw [← words_fold ws D]; exact List.mem_map_of_mem he
      obtain ⟨x, hx, e1⟩ := List.mem_map.mp hw
      have := (g x hx).2.2
      have e2 : cntD D e.word = x.count := by unfold cntD; rw [← e1, lookE_mem r.nd hx]; rfl
      omega
  · intro z
    have : ∃ w ∈ ws, ¬ cntD D w + ws.count w ≤ 1000000 := by
      rcases Classical.em (∃ w ∈ ws, ¬ cntD D w + ws.count w ≤ 1000000) with y | y
      · exact y
      · exact absurd (fun w hw => Classical.byContradiction fun q => y ⟨w, hw, q⟩) z
    obtain ⟨w, hw, q⟩ := this
    have hh : w ∈ (ws.foldl incE D).map Entry.word := by rw [words_fold]; exact has_iff.mp (h w hw)
    obtain ⟨e, he, e1⟩ := List.mem_map.mp hh
    refine ⟨e, he, decide_eq_true ?_⟩
    show 1000000 < e.count
    rw [cnt e he, e1]; omega
theorem good_fold {D l : List Entry} (r : Rel D l) (g : Good D) {ws : List (List Nat)} (h : ∀ w ∈ ws, Ks295.has D w = true) (hr : ∀ w ∈ ws, cntD D w + ws.count w ≤ 1000000) : Good (ws.foldl incE D) := fun e he => by
  have rf := Rel.fold ws r h
  have hw : e.word ∈ D.map Entry.word := by rw [← words_fold ws D]; exact List.mem_map_of_mem he
  obtain ⟨x, hx, e1⟩ := List.mem_map.mp hw
  have gx := g x hx
  have e2 : cntD D e.word = x.count := by unfold cntD; rw [← e1, lookE_mem r.nd hx]; rfl
  have e3 : e.count = cntD D e.word + ws.count e.word := by
    rw [← cnt_fold ws D e.word h]
    unfold cntD
    rw [lookE_mem rf.nd he]; rfl
  refine ⟨by rw [← e1]; exact gx.1, by omega, ?_⟩
  by_cases m : e.word ∈ ws
  · have := hr e.word m; omega
  · rw [List.count_eq_zero_of_not_mem m] at e3; omega
def joinStep (acc w : List Nat) : List Nat := (if 0 < acc.length then acc ++ [32] else acc) ++ w
theorem join_more : ∀ (ws : List (List Nat)) (acc : List Nat), 0 < acc.length → ws.foldl joinStep acc = acc ++ ws.flatMap fun w => 32 :: w
  | [], acc, _ => by simp
  | w :: ws, acc, h => by
    rw [List.foldl_cons]
    have e : joinStep acc w = acc ++ 32 :: w := by unfold joinStep; rw [if_pos h]; simp
    rw [e, join_more ws _ (by simp; omega), List.flatMap_cons]
    simp
theorem joined_more : ∀ (ws : List (List Nat)) (w : List Nat), Ks296.joined (w :: ws) = w ++ ws.flatMap fun w => 32 :: w
  | [], w => by show w = w ++ [].flatMap _; simp
  | v :: ws, w => by
    show w ++ 32 :: Ks296.joined (v :: ws) = _
    rw [joined_more ws v, List.flatMap_cons]
    simp
theorem join_eq {ws : List (List Nat)} (h : ∀ w ∈ ws, 1 ≤ w.length) : ws.foldl joinStep [] = Ks296.joined ws := by
  cases ws with
  | nil => rfl
  | cons w ws =>
    rw [List.foldl_cons, joined_more]
    have e : joinStep [] w = w := by unfold joinStep; rw [if_neg (by simp)]; rfl
    rw [e, join_more ws w (h w List.mem_cons_self)]
theorem joined_len {ws : List (List Nat)} (h : ∀ w ∈ ws, w.length ≤ 12) : (Ks296.joined ws).length ≤ 13 * ws.length := by
  cases ws with
  | nil => simp [Ks296.joined]
  | cons w ws =>
    rw [joined_more, List.length_append]
    have h1 := h w List.mem_cons_self
    have : ∀ vs : List (List Nat), (∀ v ∈ vs, v.length ≤ 12) → (vs.flatMap fun w => 32 :: w).length ≤ 13 * vs.length := by
      intro vs
      induction vs with
      | nil => intro _; simp
      | cons v vs ih =>
        intro hv
        rw [List.flatMap_cons, List.length_append, List.length_cons, List.length_cons]
        have := ih fun x hx => hv x (List.mem_cons_of_mem _ hx)
        have := hv v List.mem_cons_self
        omega
    have := this ws fun x hx => h x (List.mem_cons_of_mem _ hx)
    simp only [List.length_cons]
    omega
def lineOf (e : Entry) : List Nat := e.word ++ 32 :: Ks295.decimal 8 e.count ++ [10]
theorem written_eq (l : List Entry) : Ks295.written l = l.flatMap lineOf := rfl
theorem written_take {l : List Entry} {i : Nat} {e : Entry} (h : l[i]? = some e) : (l.take (i + 1)).flatMap lineOf = (l.take i).flatMap lineOf ++ lineOf e := by
  rw [List.take_add_one, h, List.flatMap_append]
  simp
theorem decimal_len : ∀ k n, (Ks295.decimal k n).length ≤ k
  | 0, n => by simp [Ks295.decimal]
  | k + 1, n => by
    unfold Ks295.decimal
    by_cases h : n < 10
    · rw [if_pos h]; simp
    · rw [if_neg h, List.length_append]
      have := decimal_len k (n / 10)
      simp; omega
theorem lineOf_len {e : Entry} (h : e.word.length ≤ 12) : (lineOf e).length ≤ 22 := by
  unfold lineOf
  have := decimal_len 8 e.count
  simp only [List.length_append, List.length_cons, List.length_nil]
  omega
theorem lines_len {l : List Entry} (h : ∀ e ∈ l, e.word.length ≤ 12) : (l.flatMap lineOf).length ≤ 22 * l.length := by
  induction l with
  | nil => simp
  | cons e l ih =>
    rw [List.flatMap_cons, List.length_append, List.length_cons]
    have := ih fun x hx => h x (List.mem_cons_of_mem _ hx)
    have := lineOf_len (h e List.mem_cons_self)
    omega
theorem back_z {c : Nat} (h : 1 ≤ c) : (if (1 : Int) > (c : Int) - 1 then (1 : Int) else (c : Int) - 1) = ((if 1 < c then c - 1 else c : Nat) : Int) := by
  by_cases q : 1 < c
  · rw [if_pos q, if_neg (by omega)]; omega
  · rw [if_neg q, if_pos (by omega)]; omega
theorem place_at {l : List Entry} {w : List Nat} {e : Entry} (he : e ∈ l) (hw : e.word = w) : ∃ x, l[Ks297.placeOf l w]? = some x ∧ x.word = w ∧ ∀ m y, m < Ks297.placeOf l w → l[m]? = some y → y.word ≠ w := by
  unfold Ks297.placeOf
  have hlt : l.findIdx (fun e => e.word == w) < l.length := List.findIdx_lt_length_of_exists ⟨e, he, beq_iff_eq.mpr hw⟩
  refine ⟨l[l.findIdx fun e => e.word == w], List.getElem?_eq_getElem hlt, ?_, fun m y hm hy => ?_⟩
  · have := List.findIdx_getElem (w := hlt)
    exact beq_iff_eq.mp this
  · have hm' : m < l.length := by omega
    rw [List.getElem?_eq_getElem hm'] at hy
    have := List.not_of_lt_findIdx hm
    have e1 := Option.some.inj hy
    rw [e1] at this
    exact beq_eq_false_iff_ne.mp this
end Wk
namespace Sim
open PySem PyProof.Rows PySem.SeqAt
open Wk (Tri triLt)
def zs (v : List Nat) : List Int := v.map fun (b : Nat) => (b : Int)
theorem zs_inj : ∀ {a b : List Nat}, zs a = zs b → a = b
  | [], [], _ => rfl
  | [], _ :: _, h => by simp [zs] at h
  | _ :: _, [], h => by simp [zs] at h
  | x :: a, y :: b, h => by
    have h' : (x : Int) :: zs a = (y : Int) :: zs b := h
    injection h' with h1 h2
    rw [zs_inj h2, Int.ofNat.inj h1]
theorem ltL_zs : ∀ (a b : List Nat), ltL (zs a) (zs b) = Ks295.before a b
  | [], [] => rfl
  | [], _ :: _ => rfl
  | _ :: _, [] => rfl
  | x :: a, y :: b => by
    show (if (x : Int) = y then ltL (zs a) (zs b) else decide ((x : Int) < y)) = (decide (x < y) || (x == y && Ks295.before a b))
    by_cases q : x = y
    · subst q
      rw [if_pos rfl, ltL_zs a b]
      simp
    · rw [if_neg (show ¬ (x : Int) = (y : Int) by omega)]
      simp [q]
def WordH (h : Heap) (a : Addr) (v : List Nat) : Prop := ∃ xs, h.IsTuple a xs ∧ IntsAre xs.toList (zs v)
def RowH (h : Heap) (a : Addr) (vs : List (List Nat)) : Prop := ∃ as : List Addr, h.IsTuple a (as.map Value.ref).toArray ∧ as.length = vs.length ∧ ∀ (i : Nat) (b : Addr) (v : List Nat), as[i]? = some b → vs[i]? = some v → WordH h b v
def TriH (h : Heap) (a : Addr) (m : Tri) : Prop := ∃ p t1 t2, h.IsTuple a #[.int (-(m.wt : Int)) t1, .int (m.n : Int) t2, .ref p] ∧ RowH h p m.ws
theorem tup_keeps {h h' : Heap} {a : Addr} {xs : Array Value} (k : ∀ b o, h.get? b = some o → h'.get? b = some o) (q : h.IsTuple a xs) : h'.IsTuple a xs := by
  obtain ⟨o, e, r⟩ := q
  exact ⟨o, k _ _ e, r⟩
theorem WordH.keeps {h h' : Heap} {a : Addr} {v : List Nat} (k : ∀ b o, h.get? b = some o → h'.get? b = some o) (q : WordH h a v) : WordH h' a v := by
  obtain ⟨xs, h1, h2⟩ := q
  exact ⟨xs, tup_keeps k h1, h2⟩
theorem RowH.keeps {h h' : Heap} {a : Addr} {v : List (List Nat)} (k : ∀ b o, h.get? b = some o → h'.get? b = some o) (q : RowH h a v) : RowH h' a v := by
  obtain ⟨xs, h1, h2, h3⟩ := q
  exact ⟨xs, tup_keeps k h1, h2, fun i b v x y => (h3 i b v x y).keeps k⟩
theorem TriH.keeps {h h' : Heap} {a : Addr} {m : Tri} (k : ∀ b o, h.get? b = some o → h'.get? b = some o) (q : TriH h a m) : TriH h' a m := by
  obtain ⟨p, t1, t2, h1, h2⟩ := q
  exact ⟨p, t1, t2, tup_keeps k h1, h2.keeps k⟩
theorem tup_same {h : Heap} {a : Addr} {xs ys : Array Value} (q : h.IsTuple a xs) (r : h.IsTuple a ys) : xs = ys := by
  obtain ⟨o, h1, _, n, h2⟩ := q
  obtain ⟨o', h1', _, n', h2'⟩ := r
  rw [h1] at h1'; cases h1'
  rw [h2] at h2'; cases h2'
  rfl
theorem WordH.same {h : Heap} {a : Addr} {v u : List Nat} (q : WordH h a v) (r : WordH h a u) : v = u := by
  obtain ⟨xs, h1, h2⟩ := q
  obtain ⟨ys, h3, h4⟩ := r
  have e := tup_same h1 h3
  subst e
  exact zs_inj (h2.nums.symm.trans h4.nums)
theorem refs_inj {as bs : List Addr} (h : as.map Value.ref = bs.map Value.ref) : as = bs := (List.map_inj_right fun _ _ e => Value.ref.inj e).mp h
theorem RowH.same {h : Heap} {a : Addr} {v u : List (List Nat)} (q : RowH h a v) (r : RowH h a u) : v = u := by
  obtain ⟨as, h1, h2, h3⟩ := q
  obtain ⟨bs, g1, g2, g3⟩ := r
  have e : as = bs := by
    refine refs_inj ?_
    have := congrArg Array.toList (tup_same h1 g1)
    simpa using this
  subst e
  apply List.ext_getElem?
  intro i
  by_cases hi : i < as.length
  · have i1 : i < v.length := by omega
    have i2 : i < u.length := by omega
    rw [List.getElem?_eq_getElem i1, List.getElem?_eq_getElem i2]
    exact congrArg some ((h3 i as[i] v[i] (List.getElem?_eq_getElem hi) (List.getElem?_eq_getElem i1)).same (g3 i as[i] u[i] (List.getElem?_eq_getElem hi) (List.getElem?_eq_getElem i2)))
  · rw [List.getElem?_eq_none_iff.mpr (by omega), List.getElem?_eq_none_iff.mpr (by omega)]
theorem all_eqG : ∀ (vs us : List (List Nat)), ((List.range (min vs.length us.length)).all (fun j => decide (vs.getD j [] = us.getD j [])) && vs.length == us.length) = decide (vs = us)
  | [], [] => rfl
  | [], b :: js => by simp
  | a :: is, [] => by simp
  | a :: is, b :: js => by
    have ih := all_eqG is js
    have e : min (a :: is).length (b :: js).length = min is.length js.length + 1 := by simp
    rw [e, List.range_succ_eq_map, List.all_cons, List.all_map]
    have e2 : ((fun j => decide ((a :: is).getD j [] = (b :: js).getD j [])) ∘ Nat.succ) = fun j => decide (is.getD j [] = js.getD j []) := by
      funext j; simp
    have e3 : ((a :: is).length == (b :: js).length) = (is.length == js.length) := by simp
    rw [e2, e3, Bool.and_assoc, ih]
    by_cases q : a = b
    · subst q; simp
    · simp [q]
section
variable {A : Around} {s : Shared}
theorem word_eq {a b : Addr} {v u : List Nat} (ha : WordH s.heap a v) (hb : WordH s.heap b u) (hu : A.units < cLine) : EqAt A s (.ref a) (.ref b) (decide (v = u)) := by
  obtain ⟨xs, h1, h2⟩ := ha
  obtain ⟨ys, h3, h4⟩ := hb
  have e := tup_eq (A := A) h1 h3 h2 h4 hu
  have e2 : decide (zs v = zs u) = decide (v = u) := decide_eq_decide.mpr ⟨fun q => zs_inj q, fun q => by rw [q]⟩
  rw [e2] at e
  exact e
theorem word_lt {a b : Addr} {v u : List Nat} (ha : WordH s.heap a v) (hb : WordH s.heap b u) (hu : A.units < cLine) : LtAt A s (.ref a) (.ref b) (Ks295.before v u) := fun prog w E Q h => by
  obtain ⟨xs, h1, h2⟩ := ha
  obtain ⟨ys, h3, h4⟩ := hb
  refine tup_lt h1 h3 h2 h4 hu ?_
  rw [ltL_zs]; exact h
theorem row_eq {a b : Addr} {v u : List (List Nat)} (ha : RowH s.heap a v) (hb : RowH s.heap b u) (hu : A.units + 1 < cLine) : EqAt A s (.ref a) (.ref b) (decide (v = u)) := by
  by_cases q : a = b
  · subst q
    rw [decide_eq_true (ha.same hb)]
    exact EqAt.same _
  · obtain ⟨as, h1, h2, h3⟩ := ha
    obtain ⟨bs, g1, g2, g3⟩ := hb
    have s1 : (as.map Value.ref).toArray.size = v.length := by simp [h2]
    have s2 : (bs.map Value.ref).toArray.size = u.length := by simp [g2]
    rw [← all_eqG v u, ← s1, ← s2]
    refine EqAt.of_refs q (RcAt.tuples h1 g1 (by omega) fun j j1 j2 => ?_)
    have k1 : j < as.length := by simpa using j1
    have k2 : j < bs.length := by simpa using j2
    have m1 : j < v.length := by omega
    have m2 : j < u.length := by omega
    have e1 : (as.map Value.ref).toArray[j] = .ref as[j] := by simp
    have e2 : (bs.map Value.ref).toArray[j] = .ref bs[j] := by simp
    rw [e1, e2, List.getD_eq_getElem?_getD, List.getD_eq_getElem?_getD, List.getElem?_eq_getElem m1, List.getElem?_eq_getElem m2]
    exact word_eq (h3 j _ _ (List.getElem?_eq_getElem k1) (List.getElem?_eq_getElem m1)) (g3 j _ _ (List.getElem?_eq_getElem k2) (List.getElem?_eq_getElem m2)) (by show A.units + 1 < cLine; omega)
def rowPairs : List (List Nat) → List (List Nat) → List (Bool × Bool)
  | v :: vs, u :: us => (decide (v = u), Ks295.before v u) :: rowPairs vs us
  | _, _ => []
theorem lex_row : ∀ (vs us : List (List Nat)), lexB (decide (vs.length < us.length)) (rowPairs vs us) = Ks296.beforeRow vs us
  | [], [] => rfl
  | [], _ :: _ => by simp [rowPairs, lexB, Ks296.beforeRow]
  | _ :: _, [] => by simp [rowPairs, lexB, Ks296.beforeRow]
  | v :: vs, u :: us => by
    have ih := lex_row vs us
    show (if decide (v = u) = true then lexB _ (rowPairs vs us) else Ks295.before v u) = (Ks295.before v u || (v == u && Ks296.beforeRow vs us))
    have e : decide ((v :: vs).length < (u :: us).length) = decide (vs.length < us.length) := by simp
    rw [e, ih]
    by_cases q : v = u
    · subst q
      rw [Wk.before_irrefl]; simp
    · simp [q]
theorem row_pairs : ∀ {as bs : List Addr} {vs us : List (List Nat)}, as.length = vs.length → bs.length = us.length → (∀ (i : Nat) (b : Addr) (v : List Nat), as[i]? = some b → vs[i]? = some v → WordH s.heap b v) → (∀ (i : Nat) (b : Addr) (v : List Nat), bs[i]? = some b → us[i]? = some v → WordH s.heap b v) →
    A.units < cLine → PairsAt A s ((as.map Value.ref).zip (bs.map Value.ref)) (rowPairs vs us)
  | [], bs, [], us, _, _, _, _, _ => by
    have : rowPairs [] us = [] := by cases us <;> rfl
    rw [this]
    exact .nil
  | [], _, _ :: _, _, h, _, _, _, _ => by simp at h
  | _ :: _, _, [], _, h, _, _, _, _ => by simp at h
  | a :: as, [], v :: vs, [], _, _, _, _, _ => .nil
  | a :: as, [], v :: vs, _ :: _, _, h, _, _, _ => by simp at h
  | a :: as, _ :: _, v :: vs, [], _, h, _, _, _ => by simp at h
  | a :: as, b :: bs, v :: vs, u :: us, h1, h2, h3, h4, hu => by
    have q1 := h3 0 a v rfl rfl
    have q2 := h4 0 b u rfl rfl
    exact .cons (word_eq q1 q2 hu) (fun _ => word_lt q1 q2 hu) (row_pairs (by simpa using h1) (by simpa using h2) (fun i c x y z => h3 (i + 1) c x y z) (fun i c x y z => h4 (i + 1) c x y z) hu)
theorem row_lt {a b : Addr} {v u : List (List Nat)} (ha : RowH s.heap a v) (hb : RowH s.heap b u) (hu : A.units + 1 < cLine) : LtAt A s (.ref a) (.ref b) (Ks296.beforeRow v u) := by
  obtain ⟨as, h1, h2, h3⟩ := ha
  obtain ⟨bs, g1, g2, g3⟩ := hb
  have p : PairsAt A.in1 s ((as.map Value.ref).toArray.toList.zip (bs.map Value.ref).toArray.toList) (rowPairs v u) := by
    simpa using row_pairs (A := A.in1) h2 g2 h3 g3 (by show A.units + 1 < cLine; omega)
  have := LtAt.tuples (A := A) h1 g1 (by omega) p
  have e : decide ((as.map Value.ref).toArray.size < (bs.map Value.ref).toArray.size) = decide (v.length < u.length) := by simp [h2, g2]
  rw [e, lex_row] at this
  exact this
theorem tri_lt {a b : Addr} {m n : Tri} (ha : TriH s.heap a m) (hb : TriH s.heap b n) (hu : A.units + 2 < cLine) : LtAt A s (.ref a) (.ref b) (triLt m n) := by
  obtain ⟨p, t1, t2, h1, h2⟩ := ha
  obtain ⟨q, t3, t4, g1, g2⟩ := hb
  have u1 : A.in1.units + 1 < cLine := by show A.units + 1 + 1 < cLine; omega
  have ps : PairsAt A.in1 s ((#[Value.int (-(m.wt : Int)) t1, .int (m.n : Int) t2, .ref p]).toList.zip (#[Value.int (-(n.wt : Int)) t3, .int (n.n : Int) t4, .ref q]).toList)
      [(-(m.wt : Int) == -(n.wt : Int), decide (-(m.wt : Int) < -(n.wt : Int))), ((m.n : Int) == (n.n : Int), decide ((m.n : Int) < (n.n : Int))), (decide (m.ws = n.ws), Ks296.beforeRow m.ws n.ws)] :=
    .cons (EqAt.int_int _ _ _ _) (fun _ => LtAt.ints _ _ _ _) (.cons (EqAt.int_int _ _ _ _) (fun _ => LtAt.ints _ _ _ _) (.cons (row_eq h2 g2 u1) (fun _ => row_lt h2 g2 u1) .nil))
  have := LtAt.tuples (A := A) h1 g1 (by omega) ps
  have e : lexB (decide ((#[Value.int (-(m.wt : Int)) t1, .int (m.n : Int) t2, .ref p]).size < (#[Value.int (-(n.wt : Int)) t3, .int (n.n : Int) t4, .ref q]).size)) [(-(m.wt : Int) == -(n.wt : Int), decide (-(m.wt : Int) < -(n.wt : Int))), ((m.n : Int) == (n.n : Int), decide ((m.n : Int) < (n.n : Int))), (decide (m.ws = n.ws), Ks296.beforeRow m.ws n.ws)] = triLt m n := by
    simp only [lexB, triLt]
    by_cases c1 : m.wt = n.wt
    · rw [c1]
      by_cases c2 : m.n = n.n
      · rw [c2]
        by_cases c3 : m.ws = n.ws
        · rw [c3, Wk.beforeRow_irrefl]; simp
        · simp [c3]
      · have : ((m.n : Int) == (n.n : Int)) = false := beq_eq_false_iff_ne.mpr (by omega)
        rw [this]
        simp [c2]
    · have : (-(m.wt : Int) == -(n.wt : Int)) = false := beq_eq_false_iff_ne.mpr (by omega)
      rw [this]
      have e2 : decide (-(m.wt : Int) < -(n.wt : Int)) = decide (n.wt < m.wt) := decide_eq_decide.mpr (by omega)
      rw [e2]
      simp [c1]
  rw [e] at this
  exact this
end
end Sim
namespace Sim
open PySem PyProof.Rows PySem.SeqAt
section
variable {prog : Program} {w : World} {A : Around} {s : Shared} {R : Result → Shared → Prop} {I S l : Addr} {as : List Addr} {bt : Addr → Addr → Bool}
def BestOf (bt : Addr → Addr → Bool) (as : List Addr) (m : Addr) : Prop := m ∈ as ∧ ∀ y ∈ as, bt y m = false
def CmpAt (A : Around) (s : Shared) (as : List Addr) (bt : Addr → Addr → Bool) : Prop := ∀ s' : Shared, (∀ b o, s.heap.get? b = some o → s'.heap.get? b = some o) → ∀ a ∈ as, ∀ b ∈ as, LtAt A s' (.ref a) (.ref b) (bt a b)
theorem BestOf.step (irr : ∀ a, bt a a = false) (tr : ∀ a b c, bt a b = true → bt b c = true → bt a c = true) {j : Nat} {m y : Addr} (h : BestOf bt (as.take j) m) (hy : as[j]? = some y) : BestOf bt (as.take (j + 1)) (if bt y m = true then y else m) := by
  have e : as.take (j + 1) = as.take j ++ [y] := by rw [List.take_add_one, hy]; rfl
  rw [e]
  by_cases q : bt y m = true
  · rw [if_pos q]
    refine ⟨by simp, fun x hx => ?_⟩
    rcases List.mem_append.mp hx with z | z
    · cases k : bt x y with
      | false => rfl
      | true =>
        have := tr _ _ _ k q
        rw [h.2 x z] at this; cases this
    · rw [List.mem_singleton.mp z]; exact irr y
  · rw [if_neg q]
    refine ⟨List.mem_append_left _ h.1, fun x hx => ?_⟩
    rcases List.mem_append.mp hx with z | z
    · exact h.2 x z
    · rw [List.mem_singleton.mp z]; simpa using q
theorem ref_at {j : Nat} {v : Value} (h : (as.map Value.ref).toArray[j]? = some v) : ∃ a, as[j]? = some a ∧ v = .ref a := by
  have h' : (as.map Value.ref)[j]? = some v := by simpa using h
  rw [List.getElem?_map] at h'
  obtain ⟨a, h1, h2⟩ := Option.map_eq_some_iff.mp h'
  exact ⟨a, h1, h2.symm⟩
theorem min_in {xs : Args} {s' : Shared} (h : wpAny (model prog w) A.in1 (Builtin.«min.loop» xs) (fun fin s1 => match fin with | .done f => R (.ok f) s1 | .again c => c.quiet = true ∧ codeAny (model prog w) A c R s1) (fun e s1 => R (.error e) s1) s') : codeAny (model prog w) A (.builtin "min.loop" xs) R s' :=
  codeAny_builtin F.entry_min_loop (by rw [Around.under_plainId F.plain_min_loop xs]; exact h)
theorem min_turns (W : Walks prog w A.in1 I [I, l] [I] (as.map Value.ref).toArray.size (fun i v => (as.map Value.ref).toArray[i]? = some v) (fun i h => h.IsListIter I l i ∧ h.IsList l (as.map Value.ref).toArray))
    (irr : ∀ a, bt a a = false) (tr : ∀ a b c, bt a b = true → bt b c = true → bt a c = true) (hc : CmpAt A.in1 s as bt) (hI : s.heap.objs.size ≤ I) (hS : s.heap.objs.size ≤ S) (nS : S ∉ [I, l]) :
    ∀ (k j : Nat) (s' : Shared) (m : Addr) (c : Nat), as.length - (j + 1) = k → j + 1 ≤ as.length → (s'.heap.IsListIter I l (j + 1) ∧ s'.heap.IsList l (as.map Value.ref).toArray) → (∀ b o, s.heap.get? b = some o → s'.heap.get? b = some o) → BestOf bt (as.take (j + 1)) m →
      s'.heap.get? S = some { cls := .type "list", dict := none, data := .seq #[.ref m, .ref m] c, slots := #[] } →
      (∀ m' h' tk, BestOf bt as m' → (∀ b o, s.heap.get? b = some o → h'.get? b = some o) → R (.ok (.ret (.ref m'))) { s' with heap := h', toks := tk }) → codeAny (model prog w) A (.builtin "min.loop" ⟨[.ref I, .none, .ref S], []⟩) R s' := by
  have nm : (toString "min" ++ toString ".loop" : String) = "min.loop" := by decide
  have nSI : S ∉ [I] := fun z => nS (by simp at z; simp [z])
  have old : ∀ {b : Addr} {o : Obj}, s.heap.get? b = some o → b ∉ [I] ∧ b ≠ S := fun {b} {o} e => by
    have := Heap.lt_size e
    exact ⟨fun z => absurd (List.mem_singleton.mp z) (Nat.ne_of_lt (Nat.lt_of_lt_of_le this hI)), Nat.ne_of_lt (Nat.lt_of_lt_of_le this hS)⟩
  have sz : (as.map Value.ref).toArray.size = as.length := by simp
  have looped := @min_in prog w A R
  intro k
  induction k with
  | zero =>
    intro j s' m c hk hj st keep hb eS fin
    have ej : j + 1 = as.length := by omega
    refine looped (wpAny_bind (wpAny_seqItems eS rfl ?_))
    show wpAny _ A.in1 (tryCatch (pyNext (.ref I)) _ >>= _) _ _ s'
    refine wpAny_bind (wpAny_tryCatch (W.done s' _ _ (by rw [sz, ← ej]; exact st) fun h1 t1 k1 => ?_))
    have eS1 := k1 S _ nSI eS
    refine wpAny_bind (m := updateSeq S fun _ => #[]) (wpAny_updateSeq eS1 rfl (wpAny_bind (wpAny_letGo (wpAny_pure ?_))))
    refine fin m _ t1 (by rw [ej, List.take_length] at hb; exact hb) fun b o e => ?_
    rw [Heap.get?_update_other _ _ (Ne.symm (old e).2)]
    exact k1 b o (old e).1 (keep b o e)
  | succ k ih =>
    intro j s' m c hk hj st keep hb eS fin
    have lt : j + 1 < as.length := by omega
    refine looped (wpAny_bind (wpAny_seqItems eS rfl ?_))
    show wpAny _ A.in1 (tryCatch (pyNext (.ref I)) _ >>= _) _ _ s'
    refine wpAny_bind (wpAny_tryCatch (W.item (j + 1) s' _ _ (by rw [sz]; exact lt) st fun v h1 t1 hv st1 k1 => ?_))
    obtain ⟨y, hy, rfl⟩ := ref_at hv
    have eS1 := k1 S _ nSI eS
    have keep1 : ∀ b o, s.heap.get? b = some o → h1.get? b = some o := fun b o e => k1 b o (old e).1 (keep b o e)
    have my : y ∈ as := List.mem_of_getElem? hy
    have mm : m ∈ as := List.mem_of_mem_take hb.1
    show wpAny _ A.in1 (tryCatch (holding [Value.ref y, Value.ref y] (richCompare .Lt (.ref y) (.ref m) >>= _)) _ >>= _) _ _ _
    refine wpAny_bind (wpAny_tryCatch (wpAny_holding (wpAny_bind (hc { s' with heap := h1, toks := t1 } keep1 y my m mm prog w _ _ ?_))))
    refine wpAny_bind (wpAny_holding (wpAny_truthy_bool (wpAny_bind (wpAny_letGo (wpAny_pure ?_)))))
    have nb := hb.step irr tr hy
    cases q : bt y m with
    | true =>
      rw [q, if_pos rfl] at nb
      simp only [if_true]
      refine wpAny_bind (wpAny_updateSeq eS1 rfl (wpAny_bind (wpAny_letGo ?_)))
      rw [nm]
      refine wpAny_pure ⟨plainId_quiet F.plain_min_loop _, ih (j + 1) _ y _ (by omega) lt (W.frame _ _ _ st1 fun b hbf o e => ?_) (fun b o e => ?_) nb (Heap.get?_update_self _ eS1 rfl) fun m' h2 t2 b2 k2 => fin m' h2 t2 b2 k2⟩
      · rw [Heap.get?_update_other _ _ (fun z : S = b => nS (by rw [z]; exact hbf))]; exact e
      · rw [Heap.get?_update_other _ _ (Ne.symm (old e).2)]; exact keep1 b o e
    | false =>
      rw [q, if_neg (by simp)] at nb
      simp only [if_neg Bool.false_ne_true]
      refine wpAny_bind (wpAny_letGo ?_)
      rw [nm]
      exact wpAny_pure ⟨plainId_quiet F.plain_min_loop _, ih (j + 1) _ m c (by omega) lt st1 keep1 nb eS1 fun m' h2 t2 b2 k2 => fin m' h2 t2 b2 k2⟩
theorem min_things {E Q : Value → Shared → Prop} (hh : A.handled = none) (hl : s.heap.IsList l (as.map Value.ref).toArray) (hne : 0 < as.length) (irr : ∀ a, bt a a = false) (tr : ∀ a b c, bt a b = true → bt b c = true → bt a c = true) (hc : CmpAt A.in1 s as bt)
    (fin : ∀ m h' tk, BestOf bt as m → (∀ b o, s.heap.get? b = some o → h'.get? b = some o) → Q (.ref m) { s with heap := h', toks := tk }) : wpAny (model prog w) A (call (.builtin "min") [.ref l]) Q E s := by
  have nm : (toString "min" ++ toString ".loop" : String) = "min.loop" := by decide
  have ll : l < s.heap.objs.size := by obtain ⟨_, e, _⟩ := hl; exact Heap.lt_size e
  have sz : (as.map Value.ref).toArray.size = as.length := by simp
  have bare : Builtin.Builtins.bindParams "min" ["key", "default"] 0 ⟨[], []⟩ = pure [none, none] := rfl
  refine call_function_tree F.kind_min F.plain_min F.entry_min (F.args_min1 _) (wpAny_bind (wpAny_of_eq bare (wpAny_bind (wpAny_pure (wpAny_bind (wpAny_pyIter_list hl (wpAny_bind (wpAny_newObj_type ?_))))))))
  have W := Walks.list (prog := prog) (w := w) (A := A.in1) hh s.heap.objs.size l (Nat.ne_of_lt ll) (as.map Value.ref).toArray
  generalize e2 : (s.heap.push { cls := .type "list_iterator", data := .fields #[.ref l, .int 0 0] }) = h2
  have z2 : h2.objs.size = s.heap.objs.size + 1 := by rw [← e2, Heap.size_push]
  have i2 : h2.IsListIter s.heap.objs.size l 0 := by rw [← e2]; exact ⟨_, Heap.get?_push_size _ rfl, rfl, rfl⟩
  have l2 : h2.IsList l (as.map Value.ref).toArray := by rw [← e2]; exact hl.push _
  have k2 : ∀ b o, s.heap.get? b = some o → h2.get? b = some o := fun b o e => by rw [← e2]; exact Heap.get?_push_of_some _ e
  rw [nm]
  refine wpAny_pure ⟨plainId_quiet F.plain_min_loop _, ?_⟩
  have nS : h2.objs.size ∉ [s.heap.objs.size, l] := fun z => by
    rw [z2] at z
    rcases List.mem_cons.mp z with q | q
    · exact absurd q (Nat.succ_ne_self _)
    · exact absurd ll (by rw [← List.mem_singleton.mp q]; exact Nat.not_succ_lt_self)
  refine min_in (wpAny_bind (wpAny_seqItems (Heap.get?_push_size _ rfl) rfl ?_))
  have i3 : (h2.push { cls := .type "list", data := .seq #[] 0 }).IsListIter s.heap.objs.size l 0 ∧ (h2.push { cls := .type "list", data := .seq #[] 0 }).IsList l (as.map Value.ref).toArray :=
    W.frame 0 h2 _ ⟨i2, l2⟩ fun b _ o e => Heap.get?_push_of_some _ e
  refine wpAny_bind (m := tryCatch (pyNext (.ref s.heap.objs.size)) _) (wpAny_tryCatch (W.item 0 _ _ _ (by rw [sz]; exact hne) i3 fun v h4 t4 hv st4 k4 => ?_))
  obtain ⟨y, hy, rfl⟩ := ref_at hv
  have eS := k4 h2.objs.size _ (fun z => absurd (List.mem_singleton.mp z) (by rw [z2]; exact Nat.succ_ne_self _)) (Heap.get?_push_size _ rfl)
  have keep : ∀ b o, s.heap.get? b = some o → h4.get? b = some o := fun b o e => by
    have := Heap.lt_size e
    exact k4 b o (fun z => absurd (List.mem_singleton.mp z) (Nat.ne_of_lt this)) (Heap.get?_push_of_some _ (k2 b o e))
  show wpAny _ A.in1 (updateSeq h2.objs.size (fun _ => #[.ref y, .ref y]) >>= _) _ _ _
  refine wpAny_bind (wpAny_updateSeq eS rfl ?_)
  rw [nm]
  have b1 : BestOf bt (as.take (0 + 1)) y := by
    rw [List.take_add_one, hy]
    refine ⟨by simp, fun x hx => ?_⟩
    simp at hx
    rw [hx]; exact irr y
  refine wpAny_pure ⟨plainId_quiet F.plain_min_loop _, min_turns (s := s) W irr tr hc (Nat.le_refl _) (by rw [z2]; omega) nS _ 0 _ y _ rfl hne (W.frame _ _ _ st4 fun b hbf o e => ?_) (fun b o e => ?_) b1 (Heap.get?_update_self _ eS rfl) fun m h' tk hb kk => fin m h' tk hb kk⟩
  · rw [Heap.get?_update_other _ _ (fun z : h2.objs.size = b => nS (by rw [z]; exact hbf))]; exact e
  · have := Heap.lt_size e
    rw [Heap.get?_update_other _ _ (by rw [z2]; exact Nat.ne_of_gt (Nat.lt_succ_of_lt this))]; exact keep b o e
end
end Sim
namespace Sim
open PySem
section
variable {prog : Program} {w : World} {A : Around} {E : Value → Shared → Prop} {s : Shared}
theorem values_meets (d : Addr) (hd : (d == sysModules) = false) :
    MeetsIn prog w (Builtin.«dict.values» ⟨[.ref d], []⟩) (fun _ R s => s.TypeIs (.ref d) "dict" ∧ R (.ok (.ret (.ref s.heap.objs.size))) { s with heap := s.heap.push { cls := .type "dict_values", data := .fields #[.ref d] } }) :=
  .of_wp fun B R s ⟨ty, r⟩ => by
    have out : wpAny (model prog w) B.in1 (Builtin.Dict.showsAll d) (fun _ s' => s' = s) (fun e s' => R (.error e) s') s := by
      simp only [Builtin.Dict.showsAll, hd, Bool.false_eq_true, if_false]
      exact wpAny_pure rfl
    have self : wpAny (model prog w) B.in1 (Builtin.Dict.noArgs "values" ⟨[.ref d], []⟩) (fun a s' => a = d ∧ s' = s) (fun e s' => R (.error e) s') s := by
      unfold Builtin.Dict.noArgs
      exact wpAny_bind (wpAny_notOrdered_dict ty (wpAny_pure ⟨rfl, rfl⟩))
    refine wpAny_bind (wpAny_mono self (fun _ _ ⟨e, f⟩ => ?_) fun _ _ x => x)
    subst e f
    refine wpAny_bind (wpAny_mono out (fun _ _ e => ?_) fun _ _ x => x)
    subst e
    exact wpAny_bind (wpAny_newObj_type (wpAny_pure ⟨_, rfl, r⟩))
theorem values_next {it d : Addr} {i ep : Nat} {od : Obj} {es : Array DictEntry} {Q : Option Value → Shared → Prop} (hh : A.handled = none) (I : s.heap.IsValIter it d i es.size ep) (D : s.heap.get? d = some od) (dd : od.data = .dict es ep)
    (more : ∀ en h', es[i]? = some en → h'.IsValIter it d (i + 1) es.size ep → Heap.SameBut it s.heap h' → Q (some en.val) { s with heap := h' })
    (over : ∀ h', es.size ≤ i → Heap.ExtBut it s.heap h' → Q none { s with heap := h' }) : wpAny (model prog w) A (pyNext (.ref it)) Q E s := by
  have ⟨o, ho, oc, of⟩ := I
  have ty := I.typeIs
  have flat : Builtin.Dict_items.ownsTuple "dict_valueiterator" = false := rfl
  have live : (Value.ref d == Value.none) = false := rfl
  have here : ¬ (i : Int) < 0 := by omega
  unfold pyNext
  refine wpAny_bind (wpAny_attempt (wpAny_callSpecial?_slot ty F.slot_dict_valueiterator_next (wpAny_call_entry F.slot_dict_valueiterator_next ty F.entry_dict_valueiterator_next
    (wpAny_bind (wpAny_pure (wpAny_bind (wpAny_bind (wpAny_bind (wpAny_typeNameOfWhole_valiter ty (wpAny_pure (wpAny_bind (wpAny_fieldsOf ho of ?_))))))))) (F.args_dict_valueiterator_next_1 _))))
  simp only [flat, Bool.false_eq_true, if_false, List.drop_zero, List.take_succ_cons, List.take_zero, live]
  refine wpAny_bind (wpAny_pure (wpAny_bind (wpAny_dictEntries D dd ?_)))
  simp only [bne_self_eq_false, Bool.false_eq_true, if_false]
  refine wpAny_bind (wpAny_pure (wpAny_bind (wpAny_dictEpoch D dd ?_)))
  simp only [bne_self_eq_false, Bool.false_eq_true, if_false]
  refine wpAny_pure ?_
  simp only [here, if_false, Int.toNat_natCast]
  rcases Nat.lt_or_ge i es.size with lt | ge
  · rw [Array.getElem?_eq_getElem lt]
    refine wpAny_bind (wpAny_bind (wpAny_typeNameOfWhole_valiter ty (wpAny_pure (wpAny_bind (wpAny_isOneOf_valiter ty (wpAny_bind (wpAny_setField ho of (by simp [flat]) ?_)))))))
    simp only [flat, Bool.false_eq_true, if_false, Nat.zero_add]
    have up := Heap.get?_update_self (Obj.mapFields (·.setIfInBounds 1 (rawInt ((i : Int) + 1)))) ho (Obj.isFreed_of_fields (Obj.data_mapFields of _))
    have I' : (s.heap.update it (Obj.mapFields (·.setIfInBounds 1 (rawInt ((i : Int) + 1))))).IsValIter it d (i + 1) es.size ep :=
      ⟨_, up, by rw [Obj.cls_mapFields, oc], by rw [Obj.data_mapFields of]; simp [rawInt]⟩
    have fin := more es[i] _ (Array.getElem?_eq_getElem lt) I' (Heap.SameBut.update ..)
    change wpAny _ _ _ _ _ { s with heap := s.heap.update it (Obj.mapFields (·.setIfInBounds 1 (rawInt ((i : Int) + 1)))) }
    generalize s.heap.update it _ = h' at I' fin ⊢
    have ty' : Shared.TypeIs { s with heap := h' } (.ref it) "dict_valueiterator" := I'.typeIs
    exact wpAny_bind (wpAny_holding (wpAny_bind (wpAny_isOneOf_valiter ty' (wpAny_bind (wpAny_isOneOf_valiter ty' (wpAny_pure (wpAny_pure ⟨_, rfl, wpAny_pure fin⟩)))))))
  · rw [Array.getElem?_eq_none ge]
    refine wpAny_bind (wpAny_bind (wpAny_typeNameOfWhole_valiter ty (wpAny_pure (wpAny_bind (wpAny_setField ho of (by simp [flat]) ?_)))))
    have none0 : ∀ {Q' : Value → Shared → Prop} {E' : Value → Shared → Prop} {s' : Shared}, Q' .none s' → wpAny (model prog w) A.in1 (firstArgMember (.type "StopIteration") []) Q' E' s' := fun q => wpAny_of_eq rfl q
    simp only [newExc, newTuple]
    refine wpAny_bind (wpAny_bind (wpAny_newObj_type (wpAny_bind (none0 (wpAny_newObj_type (wpAny_raiseNew_none hh (wpAny_bind (wpAny_isInstance (T := "StopIteration") (b := true) ⟨_, Heap.get?_push_size _ rfl, rfl⟩ isSubtype_stop
      (wpAny_pure (over _ ge (((Heap.SameBut.update ..).extBut.push _).push _)))))) (by size_fits)))) (by size_fits)))
theorem values_iter {v d : Addr} {o : Obj} {es : Array DictEntry} {ep : Nat} {Q : Value → Shared → Prop} (hv : s.heap.IsValuesView v d) (ho : s.heap.get? d = some o) (hdat : o.data = .dict es ep)
    (hQ : Q (.ref s.heap.objs.size) { s with heap := s.heap.push { cls := .type "dict_valueiterator", data := .fields #[.ref d, .int 0 0, .int es.size 0, .int ep 0] } }) : wpAny (model prog w) A (pyIter (.ref v)) Q E s := by
  have ⟨_, view, _, part⟩ := hv
  have ty := hv.typeIs
  have flat : Builtin.Dict_items.ownsTuple "dict_valueiterator" = false := rfl
  have made : wpAny (model prog w) A.in1 (Builtin.«dict_values.__iter__» ⟨[.ref v], []⟩) (fun fin s' => fin = .done (.ret (.ref s.heap.objs.size)) ∧ s' = { s with heap := s.heap.push { cls := .type "dict_valueiterator", data := .fields #[.ref d, .int 0 0, .int es.size 0, .int ep 0] } }) E s := by
    simp only [Builtin.«dict_values.__iter__», Builtin.Dict_items.dictOf, Builtin.Dict_items.newIterator, flat, Bool.false_eq_true, if_false]
    refine wpAny_bind (wpAny_pure (wpAny_bind (wpAny_bind (wpAny_field view part (x := .ref d) rfl (wpAny_pure ?_)))))
    refine wpAny_bind (wpAny_bind (wpAny_dictEntries ho hdat (wpAny_bind (wpAny_dictEpoch ho hdat ?_))))
    exact wpAny_newObj_type (wpAny_pure ⟨rfl, rfl⟩)
  refine wpAny_pyIter_slot ty F.slot_dict_values_iter (wpAny_call_entry F.slot_dict_values_iter ty F.entry_dict_values_iter (wpAny_mono made (fun _ _ ⟨e, e'⟩ => ?_) fun _ _ x => x) (F.args_dict_values_iter_1 _))
  subst e e'
  exact ⟨_, rfl, _, _, ⟨_, Heap.get?_push_size _ rfl, rfl⟩, F.slot_dict_valueiterator_next.lookup, hQ⟩
theorem values_walk (hh : A.handled = none) (I d : Addr) (hne : d ≠ I) (o : Obj) (es : Array DictEntry) (ep : Nat) (hdd : o.data = .dict es ep) :
    Walks prog w A I [I, d] [I] es.size (fun i v => ∃ en : DictEntry, es[i]? = some en ∧ v = en.val) (fun i h => h.IsValIter I d i es.size ep ∧ h.get? d = some o) where
  sub := fun b m => List.mem_cons.mpr (.inl (List.mem_singleton.mp m))
  frame := fun _ _ _ ⟨a, b⟩ k => ⟨a.at fun o => k I List.mem_cons_self o, k d (List.mem_cons_of_mem _ List.mem_cons_self) o b⟩
  item := fun i _ _ _ lt ⟨a, b⟩ q => values_next hh a b hdd (fun en h' e a' same => q _ h' _ ⟨en, e, rfl⟩ ⟨a', (same.2 d hne).trans b⟩ fun c _ out => same.extBut c _ fun z => out (List.mem_singleton.mpr z)) fun _ ge => absurd lt (Nat.not_lt.mpr ge)
  done := fun _ _ _ ⟨a, b⟩ q => values_next hh a b hdd (fun _ _ e => absurd (Array.getElem?_eq_some_iff.mp e).1 (Nat.lt_irrefl _)) fun h' _ ext => q h' _ fun c _ out => ext c _ fun z => out (List.mem_singleton.mpr z)
  self := fun _ _ _ _ ⟨a, _⟩ q => wpAny_pyIter_valiter a q
theorem values_sum {v d : Addr} {o : Obj} {es : Array DictEntry} {ep : Nat} {val : Nat → Int} {Q : Value → Shared → Prop} (hh : A.handled = none) (hv : s.heap.IsValuesView v d) (ho : s.heap.get? d = some o) (hdat : o.data = .dict es ep)
    (hval : ∀ (i : Nat) (en : DictEntry), es[i]? = some en → ∃ t, en.val = .int (val i) t) (hfit : ∀ j, j < es.size → InLong (val j) ∧ InLong (preSum val (j + 1)))
    (h : ∀ h' tk t', (∀ b o, s.heap.get? b = some o → h'.get? b = some o) → Q (.int (preSum val es.size) t') { s with heap := h', toks := tk }) : wpAny (model prog w) A (call (.builtin "sum") [.ref v]) Q E s := by
  have dl : d < s.heap.objs.size := Heap.lt_size ho
  refine call_sum_walk (values_iter hv ho hdat ?_)
  refine ⟨s.heap.objs.size, _, _, _, _, _, val, rfl, values_walk (A := A.in1) hh s.heap.objs.size d (Nat.ne_of_lt dl) o es ep hdat, ⟨⟨_, Heap.get?_push_size _ rfl, rfl, rfl⟩, Heap.get?_push_of_some _ ho⟩, fun b hb => ?_, fun i v hv => ?_, hfit, fun h' tk t' hk => ?_⟩
  · show b < (s.heap.push _).objs.size
    rw [Heap.size_push]
    rcases List.mem_cons.mp hb with e | hb
    · rw [e]; exact Nat.lt_succ_self _
    · rw [List.mem_singleton.mp hb]; exact Nat.lt_succ_of_lt dl
  · obtain ⟨en, he, rfl⟩ := hv
    exact hval i en he
  · exact h h' tk t' fun b o e => hk b o (fun z => absurd (Heap.lt_size e) (by rw [List.mem_singleton.mp z]; exact Nat.lt_irrefl _)) (Heap.get?_push_of_some _ e)
end
end Sim
namespace Sim
open PySem
open AutoSeq1 (wpAny_loadPart')
theorem extend_tuple (l b : Addr) (xs ys : Array Value) (n m : Nat) (dd : Option Addr) (sl : Array (Option Value)) (fits : xs.size + ys.size ≤ sizeLine) :
    Meets (Builtin.«list.extend» ⟨[.ref l, .ref b], []⟩) (fun _ R s => s.heap.get? l = some { cls := .type "list", dict := none, data := .seq xs n, slots := #[] } ∧ s.heap.get? b = some { cls := .type "tuple", dict := dd, data := .seq ys m, slots := sl } ∧
      R (.ok (.ret Value.none)) { s with heap := s.heap.update l (Obj.mapSeq fun x => x ++ ys) }) :=
  .of_wp fun prog w A R s h => by
    obtain ⟨hp, g, d, tk, os⟩ := s
    obtain ⟨hl, hb, h⟩ := h
    have f2 := AutoSeq1.sub_tuple_tuple
    have f3 := AutoSeq1.sub_list_list
    have long : ¬ (!xs.isEmpty && Builtin.List.listTooLong (xs.size + ys.size)) = true := by
      have : Builtin.List.listTooLong (xs.size + ys.size) = false := by unfold Builtin.List.listTooLong; exact decide_eq_false (by omega)
      rw [this, Bool.and_false]; exact Bool.false_ne_true
    have z : (xs ++ ys).size ≤ sizeLine + 1 := by rw [Array.size_append]; omega
    wp_walk using (wpAny_updateSeq hl rfl (hz := by omega) (_hz' := z)), wpAny_loadPart' hl, wpAny_loadPart' hb
    exact ⟨_, rfl, h⟩
end Sim
namespace Sim
open PySem
open AutoSeq1
abbrev iter0 (l : Addr) : Obj := { cls := .type "list_iterator", data := .fields #[.ref l, .int 0 0] }
abbrev enum1 (a : Addr) : Obj := { cls := .type "enumerate", data := .fields #[.none, .bool false, .ref a, rawInt 1, .none, .none] }
abbrev from1 (xs : List Value) (t : Tok) : Args := ⟨xs, [("start", .int 1 t)]⟩
theorem enum_new (l : Addr) (items : Array Value) (t : Tok) :
    Meets (Builtin.«enumerate.__new__» (from1 [.type "enumerate", .ref l] t)) (fun _ R s => s.heap.IsList l items ∧ R (.ok (.ret (.ref (s.heap.push (iter0 l)).objs.size))) { s with heap := (s.heap.push (iter0 l)).push (enum1 s.heap.objs.size) }) :=
  .of_wp fun prog w A R ⟨hp, g, dr, tk, os⟩ ⟨L, q⟩ => by
    have ⟨⟨k, dict, dat, slots⟩, at_l, (k_is : k = .type "list"), n, (dat_is : dat = .seq items n)⟩ := L
    subst k_is dat_is
    have kin := sub_enumerate
    wp_walk using wpAny_loadPart' at_l
    refine wpAny_stack_any fun _ => wpAny_pure ?_
    split
    rotate_left
    all_goals (try rename_i k' _ _ _ _ _; cases k' == Value.type "enumerate")
    all_goals (wp_walk using wpAny_loadPart' at_l, wpAny_pyIter_list L; exact ⟨_, rfl, q⟩)
section
variable {prog : Program} {w : World} {A : Around} {E : Value → Shared → Prop} {s : Shared}
theorem obj_init {self a : Value} {t : Tok} : Meets (Builtin.«object.__init__» (from1 [self, a] t)) (fun _ R s => s.TypeIs self "enumerate" ∧ R (.ok (.ret .none)) s) :=
  .of_wp fun _ _ _ _ _ ⟨kind, q⟩ => by
    have found := F.called_enumerate.init.lookup
    have made := F.called_enumerate.made
    have other : (some "enumerate.__new__" != some "object.__new__") = true := rfl
    repeat (any_goals (first | assumption | wp_step))
    exact ⟨_, rfl, q⟩
theorem call_enum1 {l : Addr} {items : Array Value} {t : Tok} {Q : Value → Shared → Prop} (hL : s.heap.IsList l items)
    (h : ∀ h', IsEnum h' (s.heap.objs.size + 1) s.heap.objs.size 1 .none → h'.IsListIter s.heap.objs.size l 0 → h'.objs.size = s.heap.objs.size + 2 → (∀ b o, s.heap.get? b = some o → h'.get? b = some o) → Q (.ref (s.heap.objs.size + 1)) { s with heap := h' }) :
    wpAny (model prog w) A (call (.type "enumerate") [.ref l] [("start", .int 1 t)]) Q E s := by
  have kind := F.called_enumerate
  have ⟨_, _, order⟩ := kind.mro
  have made := kind.made
  have kin := kind.sub
  have ok1 : checkTypeCall "enumerate" (from1 [.ref l] t) = pure () := by kernel_rfl
  have ok2 : checkBuiltinCall "enumerate.__new__" (from1 [.type "enumerate", .ref l] t) = pure () := by kernel_rfl
  have size2 : (s.heap.push (iter0 l)).objs.size = s.heap.objs.size + 1 := Heap.size_push ..
  have both : (fun obj (s1 : Shared) => s1.TypeIs obj "enumerate" ∧ Q obj s1) (.ref (s.heap.push (iter0 l)).objs.size) { s with heap := (s.heap.push (iter0 l)).push (enum1 s.heap.objs.size) } := by
    have new := Heap.get?_push_size (s.heap.push (iter0 l)) (o := enum1 s.heap.objs.size) rfl
    rw [size2] at new ⊢
    exact ⟨⟨_, new, rfl⟩, h _ new ⟨_, Heap.get?_push_of_some _ (Heap.get?_push_size _ rfl), rfl, rfl⟩ (by rw [Heap.size_push, size2]) fun b o x => Heap.get?_push_of_some _ (Heap.get?_push_of_some _ x)⟩
  refine wpAny_call (codeAny_of_tree (show wpAny _ _ (callAny (.type "enumerate") _) _ _ _ from wpAny_pure ⟨Code.quiet_builtin _ (by decide +kernel), codeAny_builtin F.entry_type_call ?_⟩))
  rw [Around.under_plain (weight_type_call_type "enumerate" [.ref l] [("start", .int 1 t)]) (units_type_call_type "enumerate" [.ref l] [("start", .int 1 t)])]
  have other := kind.notType
  have may := kind.canCreate
  repeat (any_goals (first | assumption | wp_step))
  have new := codeAny_call_builtin kind.plain F.entry_enumerate_new (wpAny_of_eq ok2 (enum_new l items t prog w A.in1 (wants (fun obj s1 => s1.TypeIs obj "enumerate" ∧ Q obj s1) E) s ⟨hL, both⟩))
  refine codeAny_mono new fun r s1 got => ?_
  rcases r with e | _ | _ | _ | obj
  · exact got
  iterate 3 exact got.elim
  obtain ⟨is, due⟩ := got
  have found := kind.init.lookup
  have bound := kind.init.bind obj
  have ok3 : argsOk "object.__init__" (from1 [obj, .ref l] t) := by unfold argsOk; kernel_rfl
  repeat (any_goals (first | assumption | wp_step))
  have init := codeAny_call_builtin kind.init.plain F.entry_object_init (kind.init.check _ _ _ _ _ _ _ _ is ok3 (obj_init prog w A.in1 (wants (fun r s2 => r = .none ∧ Q obj s2) E) s1 ⟨is, rfl, due⟩))
  refine codeAny_mono init fun r s2 got => ?_
  rcases r with e | _ | _ | _ | obj
  · exact got
  iterate 3 exact got.elim
  obtain ⟨rfl, q⟩ := got
  repeat (any_goals (first | assumption | wp_step))
end
end Sim
namespace L2
open PySem PySem.Spec PyProof.Rows
open Wk (Tri triLt Least)
def CMulB (i j : Int) : Prop := Builtin.Int.intBits i ≤ 2 ^ 20 ∧ Builtin.Int.intBits j ≤ 2 ^ 20
theorem op_mulB {X : Cx} : OpR X (binaryOp .Mult) (rI CMulB fun i j => .int (i * j)) := opI fun _ _ _ _ _ _ _ hc q => mul_int q (IntMulOk.of_bits hc.1 hc.2)
theorem bits_le {i : Int} {k : Nat} (h : i.natAbs < 2 ^ k) : Builtin.Int.intBits i ≤ k := by
  unfold Builtin.Int.intBits
  split
  · exact Nat.zero_le _
  · rename_i z
    have hp : i.natAbs ≠ 0 := by intro q; apply z; simp at q; simp [q]
    have := (Nat.log2_lt hp).mpr h
    omega
section
variable {X : Cx}
def rExtendT (K : PySem.W.Frag) : V → List V → Hp → VK → Prop := fun x vs H Q => ∃ l b xs zs, x = .ref l ∧ vs = [.ref b] ∧ H l = some (.lst xs) ∧ SqT K H b zs ∧ xs.length + zs.length ≤ sizeLine ∧ Q .non (upd H l (.lst (xs ++ zs)))
theorem mt_extendT : MtM X "list.extend" (rExtendT X.K) := by
  intro pins s σ H x vs v us Q I rx rv h
  obtain ⟨l, b, xs, zs, rfl, rfl, hH, hB, hz, q⟩ := h
  cases rx
  obtain ⟨u, rfl, ru⟩ := rv.one
  cases ru
  obtain ⟨z, its, n, r, hl, e⟩ := I.lstM hH
  obtain ⟨its2, r2, ⟨⟨c2, d2, t2, z2⟩, o2, k2, m, e2⟩, _⟩ := I.tuple hB
  simp only at k2 e2
  subst k2 e2
  have hl2 := r2.length
  refine call_meets F.slot_list_extend ⟨_, e, rfl⟩ F.entry_list_extend (F.args_list_extend_2 _ _) (Sim.extend_tuple l b its.toArray its2.toArray n m d2 z2 (by rw [List.size_toArray, List.size_toArray]; omega)) ⟨e, o2, ?_⟩
  refine ⟨.non, _, I.lset (its' := its ++ its2) hH e (by simp) (r.append r2) ?_, rfl, q⟩
  rw [List.length_append]
  omega
def ViewExt (p d : Addr) : HO := .ext fun h => h.IsValuesView p d
theorem viewExt_ok {p d : Addr} {P : Program} {w : World} {H : Hp} {h : Heap} (hv : h.IsValuesView p d) : ObjOk P w H h p (ViewExt p d) := by
  obtain ⟨o, e, c, dd⟩ := hv
  refine ⟨⟨o, e, c, dd⟩, ⟨o, e⟩, fun h1 h2 r k => ?_⟩
  obtain ⟨o, e, c, dd⟩ := r
  exact ⟨o, k o e, c, dd⟩
def tVals (td : TE) : TE := fun σ H Q => td σ H fun x H1 => ∃ d kvs, x = .ref d ∧ H1 d = some (.dT kvs) ∧ ∀ p, H1 p = none → Q (.ref p) (upd H1 p (ViewExt p d))
theorem pe_values {e : Expr} {td : TE} {apos cpos : Pos} (he : PE X e td) (hbase : attributeBase e "values" X.env (eval e X.env) = eval e X.env := by rfl) (hline : (apos.endLine == cpos.line) = true := by rfl) :
    PE X (.Call (.Attribute e "values" apos) [] [] cpos) (tVals td) := by
  intro pins s σ H Q I h
  refine wpAny_Call_method (T := "dict") (id := "dict.values") hbase rfl hline F.plainAttrs_dict F.slot_dict_values F.type_dict_values (thn (he pins s σ H _ I h) fun u s1 ⟨x, H1, I1, rx, d, kvs, ex, hd, q⟩ => ?_)
  subst ex
  obtain rfl : u = Value.ref d := rx
  obtain ⟨z, hs, xs, pr, o, es, ep, ho, hx, hdt, hen, nd⟩ := I1.hok d _ hd
  have ty : s1.TypeIs (.ref d) "dict" := ⟨o, ho, hx.1⟩
  refine ⟨ty, fun a ea => ?_, ?_⟩
  · cases ea
    exact ⟨o, ho, hx.2.1⟩
  · show wpAny _ _ (callWith cpos (.builtin "dict.values") [.ref d] [] []) _ X.xe s1
    refine method_meetsIn F.slot_dict_values F.entry_dict_values rfl (PySem.evalArgs_none ⟨rfl, ty, F.args_dict_values_1 _, _, Sim.values_meets d hs, ty, ?_⟩)
    refine ⟨.ref s1.heap.objs.size, _, I1.laid (t' := s1.toks) (o := ViewExt s1.heap.objs.size d) (fun b ob q => Heap.get?_push_of_some _ q) (Nat.le_refl _) (viewExt_ok ⟨_, Heap.get?_push_size _ rfl, rfl, rfl⟩), rfl, q _ (I1.hok.fresh (Nat.le_refl _))⟩
theorem preSum_nat (ns : List Nat) : ∀ j, j ≤ ns.length → preSum (fun i => ((ns.getD i 0 : Nat) : Int)) j = ((ns.take j).sum : Nat)
  | 0, _ => rfl
  | j + 1, h => by
    show preSum _ j + ((ns.getD j 0 : Nat) : Int) = _
    rw [preSum_nat ns j (by omega)]
    have e : ns[j]? = some ns[j] := List.getElem?_eq_getElem (by omega)
    have e2 : ns.take (j + 1) = ns.take j ++ [ns[j]] := by rw [List.take_add_one, e]; rfl
    rw [e2, List.getD_eq_getElem?_getD, e, List.sum_append]
    simp
theorem sum_take_le (ns : List Nat) (j : Nat) : (ns.take j).sum ≤ ns.sum := by
  have := List.sum_append (l₁ := ns.take j) (l₂ := ns.drop j)
  rw [List.take_append_drop] at this
  omega
def rSumV : List V → Hp → VK → Prop := fun vs H Q => ∃ (p d : Addr) (kvs : List (List Key × V)) (ns : List Nat), vs = [V.ref p] ∧ H p = some (ViewExt p d) ∧ H d = some (.dT kvs) ∧ kvs.map Prod.snd = ns.map (fun (n : Nat) => V.int (n : Int)) ∧ ns.sum < 2 ^ 62 ∧ Q (.int (ns.sum : Nat)) H
theorem cr_sumV (hc : X.calm = true) : CallR X (.builtin "sum") rSumV := by
  intro pins s σ H vs us Q I r h
  obtain ⟨p, d, kvs, ns, rfl, hp, hd, hk, hb, q⟩ := h
  rw [Vals.ref1 r]
  have hv : s.heap.IsValuesView p d := (I.hok p _ hp).1
  obtain ⟨z, hs, xs, pr, o, es, ep, ho, hx, hdt, hen, nd⟩ := I.hok d _ hd
  have l0 : kvs.length = ns.length := by have := congrArg List.length hk; simpa using this
  have l1 : es.size = ns.length := by
    have := congrArg List.length hen
    rw [Array.length_toList, List.length_map, ← Paired.length pr] at this
    omega
  refine Sim.values_sum (val := fun i => ((ns.getD i 0 : Nat) : Int)) (I.ok.hd hc) hv ho hdt (fun i en he => ?_) (fun j hj => ?_) fun h' tk t' hkp => ?_
  · have hi : i < es.size := (Array.getElem?_eq_some_iff.mp he).1
    have hik : i < kvs.length := by omega
    obtain ⟨b, hb', e1, e2, e3⟩ := paired_get pr (List.getElem?_eq_getElem hik)
    have q1 := entry_at hen i
    rw [hb', he] at q1
    have q2 := Option.some.inj q1
    have e4 : (kvs[i]).2 = V.int ((ns.getD i 0 : Nat) : Int) := by
      have := congrArg (fun l => l[i]?) hk
      simp only [List.getElem?_map, List.getElem?_eq_getElem hik, List.getElem?_eq_getElem (show i < ns.length by omega)] at this
      rw [List.getD_eq_getElem?_getD, List.getElem?_eq_getElem (show i < ns.length by omega)]
      exact Option.some.inj this
    rw [e4] at e3
    obtain ⟨t, e5⟩ := e3
    exact ⟨t, by rw [q2]; exact e5⟩
  · have g1 : ns.getD j 0 ≤ ns.sum := by
      rw [List.getD_eq_getElem?_getD, List.getElem?_eq_getElem (show j < ns.length by omega)]
      exact Wk.le_sum (List.getElem_mem _)
    have g2 := sum_take_le ns (j + 1)
    rw [preSum_nat ns (j + 1) (by omega)]
    show (_ ∧ _) ∧ (_ ∧ _)
    refine ⟨⟨?_, ?_⟩, ⟨?_, ?_⟩⟩ <;> omega
  · rw [l1, preSum_nat ns ns.length (Nat.le_refl _), List.take_length]
    exact ⟨.int _, H, I.kept hkp, ⟨_, rfl⟩, q⟩
end
end L2
namespace L2
open PySem PySem.Spec PyProof.Rows
open Wk (Tri triLt Least)
section
variable {prog : Program} {w : World}
theorem keys_walk {A : Around} (hh : A.handled = none) (I d : Addr) (hne : d ≠ I) (o : Obj) (es : Array DictEntry) (ep : Nat) (hdd : o.data = .dict es ep) :
    Walks prog w A I [I, d] [I] es.size (fun i v => ∃ en : DictEntry, es[i]? = some en ∧ v = en.key) (fun i h => h.IsKeyIter I d i es.size ep ∧ h.get? d = some o) where
  sub := fun b hb => by simp at hb; simp [hb]
  frame := fun _ _ _ st hk => ⟨st.1.at fun o e => hk I (by simp) o e, hk d (by simp) o st.2⟩
  item := fun i s Q E hi st hQ => by
    refine next_key_item st.1 st.2 hdd rfl (Array.getElem?_eq_getElem hi) fun h' hit' hs' => ?_
    exact hQ _ h' s.toks ⟨_, Array.getElem?_eq_getElem hi, rfl⟩ ⟨hit', (hs'.2 d hne).trans st.2⟩ fun b o hb e => hs'.extBut b o (fun h => hb (by simp [h])) e
  done := fun s Q E st hQ => next_key_end hh st.1 st.2 hdd rfl (Nat.le_refl _) fun h' he' => hQ h' s.toks fun b o hb e => he' b o (fun h => hb (by simp [h])) e
  self := fun i s Q E st h => wpAny_pyIter_keyiter st.1 h
theorem keys_src {d : Addr} {o : Obj} {es : Array DictEntry} {ep : Nat} (hs : (d == sysModules) = false) (hx : o.ExactDict) (hdd : o.data = .dict es ep) :
    PySem.W.KdlSrc prog w "dict" d d es.size (fun i v => ∃ en : DictEntry, es[i]? = some en ∧ v = en.key) (fun h => h.get? d = some o) where
  type := fun _ h => ⟨o, h, hx.1⟩
  there := fun _ h => ⟨Heap.lt_size h, Heap.lt_size h⟩
  keep := fun _ _ h hk => hk d (.inl rfl) o h
  notList := by decide
  notTuple := by decide
  hint := fun _ _ s _ h hq => PySem.W.kdl_hint_dict (⟨o, h, hx.1⟩ : s.TypeIs (.ref d) "dict") hq
  iter := fun _ s hh h => ⟨_, _, (fun _ _ hq => iter_keys hs h hx hdd hq), keys_walk hh _ d (Nat.ne_of_lt (Heap.lt_size h)) o es ep hdd, ⟨⟨_, Heap.get?_push_size _ rfl, rfl, rfl⟩, Heap.get?_push_of_some _ h⟩⟩
end
section
variable {X : Cx}
theorem call_listT (hc : X.calm = true) : CallR X (.type "list") (fun xs H Q => ∃ (d : Addr) (kvs : List (List Key × V)), xs = [V.ref d] ∧ H d = some (.dT kvs) ∧
    ∀ (l : Addr) (as : List Addr), H l = none → as.length = kvs.length → (∀ (i : Nat) (a : Addr) (k : List Key) (v : V), as[i]? = some a → kvs[i]? = some (k, v) → H a = some (.tup (k.map kV))) → Q (.ref l) (upd H l (.lst (as.map V.ref)))) := by
  intro pins s σ H xs us Q I r h
  obtain ⟨d, kvs, rfl, hd, q⟩ := h
  rw [Vals.ref1 r]
  obtain ⟨z, hs, xs, pr, o, es, ep, ho, hx, hdt, hen, nd⟩ := I.hok d _ hd
  have lx := Paired.length pr
  have l1 : es.size = xs.length := by
    have := congrArg List.length hen
    rw [Array.length_toList, List.length_map] at this
    exact this
  refine PySem.W.kdl_call (keys_src hs hx hdt) (I.ok.hd hc) ho (by omega) fun h' tk acc' c' hk hD hacc => ?_
  have eacc : acc' = ((xs.map fun b => b.2.1).map Value.ref).toArray := by
    apply Array.ext'
    apply List.ext_getElem?
    intro i
    by_cases hi : i < xs.length
    · have hia : i < acc'.size := by rw [hacc.1]; omega
      obtain ⟨en, he, hv⟩ := hacc.2 i acc'[i] (Array.getElem?_eq_getElem hia)
      have q1 := entry_at hen i
      rw [List.getElem?_eq_getElem hi, he] at q1
      have q2 := Option.some.inj q1
      rw [Array.getElem?_toList, Array.getElem?_eq_getElem hia, hv, q2]
      simp [List.getElem?_eq_getElem hi]
      rfl
    · have hl : ((xs.map fun b => b.2.1).map Value.ref).length ≤ i := by rw [List.length_map, List.length_map]; omega
      rw [Array.getElem?_toList, Array.getElem?_eq_none (by rw [hacc.1]; omega)]
      exact (List.getElem?_eq_none_iff.mpr hl).symm
  have hI : Inv X pins σ (upd H s.heap.objs.size (.lst ((xs.map fun b => b.2.1).map V.ref))) { s with heap := h', toks := tk } :=
    I.laid hk (Nat.le_refl _) (show ObjOk X.prog X.w _ h' _ (.lst ((xs.map fun b => b.2.1).map V.ref)) from ⟨by rw [List.length_map, List.length_map]; omega, _, c', refs_vals _, by rw [eacc] at hD; exact hD⟩)
  refine ⟨.ref s.heap.objs.size, _, hI, rfl, q _ _ (I.hok.fresh (Nat.le_refl _)) (by rw [List.length_map]; omega) fun i a k v h1 h2 => ?_⟩
  obtain ⟨b, hb, e1, e2, e3⟩ := paired_get pr h2
  rw [List.getElem?_map, hb] at h1
  have : b.2.1 = a := Option.some.inj h1
  rw [← this]; exact e2
def WordK (K : PySem.W.Frag) (H : Hp) (a : Addr) (v : List Nat) : Prop := SqT K H a (v.map fun (b : Nat) => V.int (b : Int))
def WordsK (K : PySem.W.Frag) (H : Hp) (as : List Addr) (vs : List (List Nat)) : Prop := as.length = vs.length ∧ ∀ (i : Nat) (a : Addr) (v : List Nat), as[i]? = some a → vs[i]? = some v → WordK K H a v
def RowK (K : PySem.W.Frag) (H : Hp) (a : Addr) (vs : List (List Nat)) : Prop := ∃ as : List Addr, SqT K H a (as.map V.ref) ∧ WordsK K H as vs
def TriK (K : PySem.W.Frag) (H : Hp) (a : Addr) (m : Tri) : Prop := ∃ p, SqT K H a [.int (-(m.wt : Int)), .int (m.n : Int), .ref p] ∧ RowK K H p m.ws
variable {pins : List (Addr × Obj)} {σ : St} {H : Hp} {s : Shared}
theorem Inv.wordH (I : Inv X pins σ H s) {a : Addr} {v : List Nat} (h : WordK X.K H a v) : Sim.WordH s.heap a v := by
  obtain ⟨its, r, t, _⟩ := I.tuple h
  have e : (v.map fun (b : Nat) => V.int (b : Int)) = (Sim.zs v).map V.int := by unfold Sim.zs; rw [List.map_map]; rfl
  rw [e] at r
  exact ⟨_, t, by simpa using vals_intsAre r⟩
theorem Inv.rowH (I : Inv X pins σ H s) {a : Addr} {vs : List (List Nat)} (h : RowK X.K H a vs) : Sim.RowH s.heap a vs := by
  obtain ⟨as, h1, h2, h3⟩ := h
  obtain ⟨its, r, t, _⟩ := I.tuple h1
  have e := vals_refs r
  subst e
  exact ⟨as, t, h2, fun i b v q1 q2 => I.wordH (h3 i b v q1 q2)⟩
theorem Inv.triH (I : Inv X pins σ H s) {a : Addr} {m : Tri} (h : TriK X.K H a m) : Sim.TriH s.heap a m := by
  obtain ⟨p, h1, h2⟩ := h
  obtain ⟨its, r, t, _⟩ := I.tuple h1
  cases r with
  | cons r1 r =>
  cases r with
  | cons r2 r =>
  cases r with
  | cons r3 r =>
  cases r
  obtain ⟨t1, rfl⟩ := r1
  obtain ⟨t2, rfl⟩ := r2
  cases r3
  exact ⟨p, t1, t2, t, I.rowH h2⟩
theorem _root_.Sim.TriH.same {h : Heap} {a : Addr} {m n : Tri} (q : Sim.TriH h a m) (r : Sim.TriH h a n) : m = n := by
  obtain ⟨p, t1, t2, h1, h2⟩ := q
  obtain ⟨p', t1', t2', g1, g2⟩ := r
  have e := congrArg Array.toList (Sim.tup_same h1 g1)
  simp only [List.cons.injEq, Value.int.injEq, Value.ref.injEq] at e
  obtain ⟨⟨e1, _⟩, ⟨e2, _⟩, e3, _⟩ := e
  subst e3
  have e4 := h2.same g2
  obtain ⟨w1, n1, s1⟩ := m
  obtain ⟨w2, n2, s2⟩ := n
  simp only at e1 e2 e4
  have : w1 = w2 := by omega
  have : n1 = n2 := by omega
  subst_vars
  rfl
def rMinT (K : PySem.W.Frag) : List V → Hp → VK → Prop := fun vs H Q => ∃ (l : Addr) (as : List Addr) (ms : List Tri), vs = [V.ref l] ∧ SqL K H l (as.map V.ref) ∧ 0 < as.length ∧ as.length = ms.length ∧ (∀ (i : Nat) (a : Addr) (m : Tri), as[i]? = some a → ms[i]? = some m → TriK K H a m) ∧
  ∀ (i : Nat) (a : Addr) (m : Tri), as[i]? = some a → ms[i]? = some m → Least ms m → Q (.ref a) H
theorem cr_minT (hc : X.calm = true) (hu : X.A.units + 64 < cLine) : CallR X (.builtin "min") (rMinT X.K) := by
  intro pins s σ H vs us Q I r h
  obtain ⟨l, as, ms, rfl, hl, hne, hlen, ht, q⟩ := h
  rw [Vals.ref1 r]
  obtain ⟨its, rv, pl, _⟩ := I.list hl
  have ei := vals_refs rv
  subst ei
  have tri : ∀ a ∈ as, ∃ i m, TriK X.K H a m ∧ as[i]? = some a ∧ ms[i]? = some m := fun a ha => by
    obtain ⟨i, hi⟩ := List.mem_iff_getElem?.mp ha
    have h1 : i < ms.length := by rw [← hlen]; exact (List.getElem?_eq_some_iff.mp hi).1
    exact ⟨i, ms[i], ht i a _ hi (List.getElem?_eq_getElem h1), hi, List.getElem?_eq_getElem h1⟩
  classical
  let tv : Addr → Tri := fun a => if h : ∃ m, Sim.TriH s.heap a m then h.choose else ⟨0, 0, []⟩
  have tve : ∀ a m, Sim.TriH s.heap a m → tv a = m := fun a m h => by
    have hx : ∃ m, Sim.TriH s.heap a m := ⟨m, h⟩
    show (if h : ∃ m, Sim.TriH s.heap a m then h.choose else (⟨0, 0, []⟩ : Tri)) = m
    rw [dif_pos hx]
    exact hx.choose_spec.same h
  refine Sim.min_things (bt := fun a b => triLt (tv a) (tv b)) (I.ok.hd hc) pl.isList hne (fun a => Wk.triLt_irrefl _) (fun a b c => Wk.triLt_trans) (fun s' keep a ha b hb => ?_) fun m h' tk hb keep => ?_
  · obtain ⟨_, ma, h1, _⟩ := tri a ha
    obtain ⟨_, mb, h2, _⟩ := tri b hb
    have g1 := I.triH h1
    have g2 := I.triH h2
    show Sim.LtAt X.A.in1 s' (.ref a) (.ref b) (triLt (tv a) (tv b))
    rw [tve a ma g1, tve b mb g2]
    exact Sim.tri_lt (g1.keeps keep) (g2.keeps keep) (by show X.A.units + 1 + 2 < cLine; omega)
  · obtain ⟨i0, mm, h1, hi0, hm⟩ := tri m hb.1
    refine ⟨.ref m, H, I.kept keep, rfl, q i0 m mm hi0 hm ⟨List.mem_of_getElem? hm, fun y hy => ?_⟩⟩
    obtain ⟨i, hi⟩ := List.mem_iff_getElem?.mp hy
    have hia : i < as.length := by rw [hlen]; exact (List.getElem?_eq_some_iff.mp hi).1
    have ty := ht i _ y (List.getElem?_eq_getElem hia) hi
    have := hb.2 as[i] (List.getElem_mem hia)
    rw [← tve _ _ (I.triH ty), ← tve _ _ (I.triH h1)]
    exact this
open Classical in
noncomputable def eqA (h : Heap) (v : List Nat) : Value → Bool := fun y => match y with
  | .ref a => decide (Sim.WordH h a v)
  | _ => false
theorem eqA_of {h : Heap} {a : Addr} {u v : List Nat} (q : Sim.WordH h a u) : eqA h v (.ref a) = decide (u = v) := by
  classical
  unfold eqA
  by_cases e : u = v
  · subst e
    rw [decide_eq_true rfl]
    exact decide_eq_true q
  · rw [decide_eq_false e]
    exact decide_eq_false fun z => e (q.same z)
def rIndexT (K : PySem.W.Frag) : V → List V → Hp → VK → Prop := fun x xs H Q => ∃ (a y : Addr) (as : List Addr) (vs : List (List Nat)) (v : List Nat) (j : Nat), x = V.ref a ∧ xs = [V.ref y] ∧ SqL K H a (as.map V.ref) ∧ WordsK K H as vs ∧ WordK K H y v ∧ vs[j]? = some v ∧
  (∀ (m : Nat) (u : List Nat), m < j → vs[m]? = some u → u ≠ v) ∧ Q (.int (j : Nat)) H
theorem mt_indexT (hu : X.A.units + 64 < cLine) : MtR X "list.index" (rIndexT X.K) := by
  intro pins s σ H x xs v us Q I rx rxs h
  obtain ⟨a, y, as, vs, w, j, rfl, rfl, hs, hw, hy, hj, hno, q⟩ := h
  cases rx
  rw [Vals.ref1 rxs]
  obtain ⟨its, rv, ⟨⟨cls, dd, data, sl⟩, n, ho, hc, hdn, hd⟩, hlen⟩ := I.list hs
  have ei := vals_refs rv
  subst ei
  simp only at hc hd
  subst hc hd
  have hjl : j < vs.length := (List.getElem?_eq_some_iff.mp hj).1
  have hja : j < as.length := by rw [hw.1]; exact hjl
  have hsl := sizeLine_eq
  have wa : ∀ m (hm : m < as.length) (hm2 : m < vs.length), Sim.WordH s.heap as[m] vs[m] := fun m hm hm2 => I.wordH (hw.2 m _ _ (List.getElem?_eq_getElem hm) (List.getElem?_eq_getElem hm2))
  refine call_meets PySem.F.slot_list_index ⟨_, ho, rfl⟩ PySem.F.entry_list_index (PySem.F.args_list_index_2 _ _)
    (SeqAt.list_indexAt a (as.map Value.ref).toArray n dd sl (.ref y) (eqA s.heap w) j (by simpa using hja) (by rw [List.length_map] at hlen; omega) ?_ ?_) ⟨ho, fun u' hu' => ?_, ?_⟩
  · have e1 : (as.map Value.ref).toArray[j]'(by simpa using hja) = .ref as[j] := by simp
    rw [e1, eqA_of (wa j hja hjl)]
    have e2 : vs[j] = w := Option.some.inj ((List.getElem?_eq_getElem hjl).symm.trans hj)
    exact decide_eq_true e2
  · intro m hm hmj
    have hma : m < as.length := by simpa using hm
    have hmv : m < vs.length := by omega
    have e1 : (as.map Value.ref).toArray[m] = .ref as[m] := by simp
    rw [e1, eqA_of (wa m hma hmv)]
    exact decide_eq_false (hno m _ hmj (List.getElem?_eq_getElem hmv))
  · have hm : u' ∈ as.map Value.ref := by simpa using hu'
    obtain ⟨b, hb, rfl⟩ := List.mem_map.mp hm
    obtain ⟨i, hi⟩ := List.mem_iff_getElem?.mp hb
    have hia : i < as.length := (List.getElem?_eq_some_iff.mp hi).1
    have hiv : i < vs.length := by rw [← hw.1]; exact hia
    have eb : as[i] = b := Option.some.inj ((List.getElem?_eq_getElem hia).symm.trans hi)
    have wb := wa i hia hiv
    rw [eb] at wb
    rw [eqA_of wb]
    exact Sim.word_eq wb (I.wordH hy) (by show X.A.units + 1 < cLine; omega)
  · exact ⟨.int (j : Nat), H, I.tok _, ⟨_, rfl⟩, q⟩
def rCountT (K : PySem.W.Frag) : V → List V → Hp → VK → Prop := fun x xs H Q => ∃ (a y : Addr) (as : List Addr) (vs : List (List Nat)) (v : List Nat), x = V.ref a ∧ xs = [V.ref y] ∧ SqT K H a (as.map V.ref) ∧ WordsK K H as vs ∧ WordK K H y v ∧ Q (.int (vs.count v : Nat)) H
theorem count_words {h : Heap} {v : List Nat} : ∀ {as : List Addr} {vs : List (List Nat)}, as.length = vs.length → (∀ (i : Nat) (a : Addr) (u : List Nat), as[i]? = some a → vs[i]? = some u → Sim.WordH h a u) → (as.map Value.ref).countP (eqA h v) = vs.count v
  | [], [], _, _ => rfl
  | [], _ :: _, h, _ => by simp at h
  | _ :: _, [], h, _ => by simp at h
  | a :: as, u :: vs, hl, hw => by
    rw [List.map_cons, List.countP_cons, List.count_cons, count_words (by simpa using hl) fun i b x q1 q2 => hw (i + 1) b x q1 q2, eqA_of (hw 0 a u rfl rfl)]
    by_cases e : u = v
    · subst e; simp
    · simp [e]
theorem mt_countT (hu : X.A.units + 64 < cLine) : MtR X "tuple.count" (rCountT X.K) := by
  intro pins s σ H x xs v us Q I rx rxs h
  obtain ⟨a, y, as, vs, w, rfl, rfl, hs, hw, hy, q⟩ := h
  cases rx
  rw [Vals.ref1 rxs]
  obtain ⟨its, rv, ⟨⟨cls, dd, data, sl⟩, ho, hc, n, hd⟩, hlen⟩ := I.tuple hs
  have ei := vals_refs rv
  subst ei
  simp only at hc hd
  subst hc hd
  have wa : ∀ (i : Nat) (b : Addr) (u : List Nat), as[i]? = some b → vs[i]? = some u → Sim.WordH s.heap b u := fun i b u q1 q2 => I.wordH (hw.2 i b u q1 q2)
  refine call_meets PySem.F.slot_tuple_count ⟨_, ho, rfl⟩ PySem.F.entry_tuple_count (PySem.F.args_tuple_count_2 _ _) (SeqAt.tuple_countAt a (as.map Value.ref).toArray n dd sl (.ref y) (eqA s.heap w)) ⟨ho, fun u' hu' => ?_, ?_⟩
  · have hm : u' ∈ as.map Value.ref := by simpa using hu'
    obtain ⟨b, hb, rfl⟩ := List.mem_map.mp hm
    obtain ⟨i, hi⟩ := List.mem_iff_getElem?.mp hb
    have hia : i < as.length := (List.getElem?_eq_some_iff.mp hi).1
    have hiv : i < vs.length := by rw [← hw.1]; exact hia
    have wb := wa i b _ hi (List.getElem?_eq_getElem hiv)
    rw [eqA_of wb]
    exact Sim.word_eq wb (I.wordH hy) (by show X.A.units + 1 < cLine; omega)
  · have e : (as.map Value.ref).toArray.toList.countP (eqA s.heap w) = vs.count w := by simpa using count_words hw.1 wa
    show EP X pins σ Q _ _
    rw [e]
    exact ⟨.int (vs.count w : Nat), H, I.tok _, ⟨_, rfl⟩, q⟩
end
end L2
namespace L2
open PySem PySem.Spec PyProof.Rows
section
variable {prog : Program} {w : World} {A : Around}
theorem draws1 (hh : A.handled = none) (it l : Addr) (hne : l ≠ it) (items : Array Value) :
    Draws prog w A it [it, l] (items.size + 1) (fun i v => ∃ j, i = j + 1 ∧ items[j]? = some v) (fun i h => ∃ j, i = j + 1 ∧ h.IsListIter it l j ∧ h.IsList l items) where
  live := fun _ _ st => let ⟨_, _, ⟨o, ho, _⟩, _⟩ := st; ⟨o, ho⟩
  frame := fun _ _ _ st hk => let ⟨j, e, st1, st2⟩ := st; ⟨j, e, st1.at fun o e => hk it (by simp) o e, st2.at fun o e => hk l (by simp) o e⟩
  item := fun i s Q E lt ⟨j, ej, st1, st2⟩ hQ => by
    subst ej
    have hj := Nat.lt_of_succ_lt_succ lt
    refine wpAny_nextOf_list_item st1 st2 (x := items[j]) (by simp [hj]) fun h' hit' hs' => ?_
    exact hQ _ h' s.toks ⟨j, rfl, by simp [hj]⟩ ⟨j + 1, rfl, hit', st2.extBut hs'.extBut hne⟩ hs'
  done := fun s Q E st hE => by
    obtain ⟨j, e, st1, st2⟩ := st
    have ej : j = items.size := by omega
    subst ej
    exact wpAny_nextOf_list_end hh st1 st2 (by simp) hE
theorem draws2 (hh : A.handled = none) (it l : Addr) (hne : l ≠ it) (items : Array Value) (i : Nat) (hge : items.size ≤ i) :
    Draws prog w A it [it, l] 0 (fun _ _ => True) (fun _ h => h.IsListIter it l i ∧ h.IsList l items) where
  live := fun _ _ ⟨⟨o, ho, _⟩, _⟩ => ⟨o, ho⟩
  frame := fun _ _ _ ⟨a, b⟩ k => ⟨a.at fun o => k it (by simp) o, b.at fun o => k l (by simp) o⟩
  item := fun i s Q E hi _ _ => absurd hi (Nat.not_lt_zero _)
  done := fun s Q E st hE => wpAny_nextOf_list_end hh st.1 st.2 (Array.getElem?_eq_none hge) hE
end
section
variable {M : Model} {A : Around} {E : Value → Shared → Prop} {s : Shared} {env : Env}
theorem callWith_kwT {pos : Pos} {T : String} {e : Expr} {rest : List Expr} {kws : List Keyword} {Q : Value → Shared → Prop}
    (h : wpAny M A (spliced (backTo pos (starEach (e :: rest) env))) (fun vs s1 => wpAny M A (evalAll ((backToKw pos (keywordEach kws env)).map (·.2)))
      (fun ks s2 => wpAny M A (call (.type T) vs (((backToKw pos (keywordEach kws env)).filterMap (·.1)).zip ks)) Q E s2) E s1) E s)
    (he : backTo pos (starEach (e :: rest) env) = (false, eval e env) :: backTo pos (starEach rest env)) (hplain : (backTo pos (starEach (e :: rest) env)).any (·.1) = false)
    (hall : (backToKw pos (keywordEach kws env)).all (·.1.isSome) = true) (hkw : (backToKw pos (keywordEach kws env)).any (·.1.isNone) = false) :
    wpAny M A (callWith pos (.type T) [] (backTo pos (starEach (e :: rest) env)) (backToKw pos (keywordEach kws env))) Q E s := by
  have h2 : wpAny M A (evalArgs (.type T) true (backTo pos (starEach (e :: rest) env)) (backToKw pos (keywordEach kws env))) (fun a s1 => wpAny M A (call (.type T) ([] ++ a.pos) a.kw) Q E s1) E s := by
    rw [he] at h ⊢
    exact evalArgs_kwB hall h
  unfold callWith
  refine wpAny_bind (wpAny_holding (wpAny_mono h2 (fun a s1 h1 => wpAny_bind (wpAny_standAt ?_)) fun _ _ x => x))
  simp only [Bool.or_false, hkw, hplain]
  refine wpAny_bind (wpAny_pure ?_)
  exact wpAny_bind (wpAny_mono h1 (fun r s2 hr => wpAny_bind (wpAny_holding (wpAny_point (wpAny_pure hr)))) fun _ _ x => x)
end
section
def Ite1 (K : PySem.W.Frag) (a : Addr) : It :=
  ⟨fun i H => ∃ (xs : List V) (x : V), SqL K H a xs ∧ xs[i]? = some x, fun i H v H' => ∃ T x, v = .ref T ∧ H T = none ∧ H' = upd H T (.tup [.int ((i + 1 : Nat) : Int), x]) ∧ ∀ xs, SqL K H a xs → xs[i]? = some x, fun i H => ∃ xs : List V, SqL K H a xs ∧ xs.length ≤ i⟩
theorem turn_enum1 {P : Program} {w : World} {K : PySem.W.Frag} {elts : List Expr} {kk : Nat} {tpos : Pos} (a e it : Addr) :
    Turn P w K (.Tuple elts kk tpos) (Ite1 K a) [e, it] e (fun i h => (∃ old, IsEnum h e it ((i + 1 : Nat) : Int) old) ∧ h.IsListIter it a i ∧ e ≠ it) where
  mem := by simp
  obj := fun i h st b hb => by
    obtain ⟨⟨old, he⟩, ⟨o, ho, hc, hd⟩, _⟩ := st
    have e' : b = e ∨ b = it := by simpa using hb
    rcases e' with z | z
    · rw [z]; exact ⟨_, he, fun v q => nomatch q⟩
    · rw [z]; exact ⟨o, ho, fun v q => by rw [hd] at q; cases q⟩
  keep := fun i h h' st k => let ⟨⟨old, he⟩, hi, hne⟩ := st; ⟨⟨old, k e (by simp) _ he⟩, hi.at fun o q => k it (by simp) o q, hne⟩
  item := by
    intro X hP hw hK hc i pins s σ H E I hf st hg
    subst hP hw hK
    obtain ⟨⟨old, he⟩, hit, hne⟩ := st
    obtain ⟨xs, x, hq, hx⟩ := hg
    obtain ⟨its, rv, p, hz⟩ := I.list hq
    obtain ⟨u, hu, ru⟩ := rv.get hx
    have hel : e < s.heap.objs.size := Heap.lt_size he
    have hil : it < s.heap.objs.size := by obtain ⟨_, q, _⟩ := hit; exact Heap.lt_size q
    have hea : e ≠ a := fun z => by
      obtain ⟨o2, n2, q2, c2, _⟩ := p
      rw [← z, he] at q2
      cases q2
      injection c2 with c3
      exact absurd c3 (by decide)
    have hef : e ∉ [it, a] := by simp only [List.mem_cons, List.not_mem_nil, or_false, not_or]; exact ⟨hne, hea⟩
    have hal : a ≠ it := fun z => by
      obtain ⟨o1, q1, c1, _⟩ := hit
      obtain ⟨o2, q2, c2, _⟩ := p.isList
      rw [z, q1] at q2
      cases q2
      rw [c1] at c2
      injection c2 with c3
      exact absurd c3 (by decide)
    refine wpAny_pyNext_enum_itemD (draws1 (A := X.A.in1) (I.ok.hd hc) it a hal its.toArray) (i := i + 1) he ⟨i, rfl, hit, p.isList⟩ (by have := (List.getElem?_eq_some_iff.mp hu).1; simp; omega) hne hef fun x0 h' tk hx0 ho hit' hT hsz hk => ?_
    obtain ⟨j0, ej, hit', _⟩ := hit'
    have ej : j0 = i + 1 := by omega
    subst ej
    obtain ⟨j1, ej1, hx1⟩ := hx0
    have ej1 : j1 = i := by omega
    rw [ej1] at hx1
    have eu : u = x0 := by
      have : its[i]? = some x0 := by simpa using hx1
      exact Option.some.inj (hu.symm.trans this)
    subst eu
    refine ⟨_, rfl, wpAny_letOwnedTupleGo_enum (s := { s with heap := h', toks := tk + 1 }) ho fun h'' he' sb => ?_⟩
    have hT2 : h''.get? s.heap.objs.size = some { cls := .type "tuple", data := .seq #[.int ((i + 1 : Nat) : Int) tk, u] } := (sb.2 _ (Nat.ne_of_gt hel)).trans hT
    have new : ObjOk X.prog X.w (upd H s.heap.objs.size (.tup [.int ((i + 1 : Nat) : Int), x])) h'' s.heap.objs.size (.tup [.int ((i + 1 : Nat) : Int), x]) :=
      ⟨by show 2 ≤ sizeLine; decide, [.int ((i + 1 : Nat) : Int) tk, u], .cons ⟨_, rfl⟩ (.cons ru .nil), ⟨_, hT2, rfl, _, rfl⟩⟩
    have I1 : Inv X pins σ (upd H s.heap.objs.size (.tup [.int ((i + 1 : Nat) : Int), x])) { s with heap := h'', toks := tk + 1 } :=
      I.turnedNew (ch := [e, it]) (fun b ob hb q => (sb.2 b (fun z => hb (by simp [z]))).trans (hk b ob (fun z => hb (by simp [z])) (fun z => hb (by simp [z])) q)) hf (Nat.le_refl _) new
    refine ⟨.ref s.heap.objs.size, _, I1, rfl, ⟨_, x, rfl, I.hok.fresh (Nat.le_refl _), rfl, fun ys hy => by rw [I.list_inj hy hq]; exact hx⟩, ⟨⟨u, ?_⟩, hit'.at fun o q => (sb.2 it (Ne.symm hne)).trans q, hne⟩, fun b hb => ?_⟩
    · have e1 : ((i + 1 + 1 : Nat) : Int) = ((i + 1 : Nat) : Int) + 1 := by omega
      rw [e1]; exact he'
    · have hb' : b < s.heap.objs.size := by
        have e' : b = e ∨ b = it := by simpa using hb
        rcases e' with z | z
        · rw [z]; exact hel
        · rw [z]; exact hil
      rw [upd_ne (Nat.ne_of_lt hb')]
      exact (hf b hb).1
  done := by
    intro X hP hw hK hc i pins s σ H E I hf st hg
    subst hP hw hK
    obtain ⟨⟨old, he⟩, hit, hne⟩ := st
    obtain ⟨xs, hq, hx⟩ := hg
    obtain ⟨its, rv, p, hz⟩ := I.list hq
    obtain ⟨f0, f1, f2, f3, f4, f5⟩ := hf it (by simp)
    have hl := rv.length
    have hal : a ≠ it := fun z => by
      obtain ⟨o1, q1, c1, _⟩ := hit
      obtain ⟨o2, q2, c2, _⟩ := p.isList
      rw [z, q1] at q2
      cases q2
      rw [c1] at c2
      injection c2 with c3
      exact absurd c3 (by decide)
    have hge : its.toArray.size ≤ i := by simp; omega
    exact wpAny_pyNext_enum_endD (draws2 (A := X.A.in1) (I.ok.hd hc) it a hal its.toArray i hge) he ⟨hit, p.isList⟩ fun h' eb => ⟨rfl, I.turned (t' := s.toks) (fun b o hb q => eb b o hb q) f0 f1 f3 f4 f5⟩
  self := fun A i s Q E st h => let ⟨⟨_, he⟩, _⟩ := st; wpAny_pyIter_enum he h
def iEnum1 (K : PySem.W.Frag) (te : TE) : TI := fun σ H R => te σ H fun x H1 => ∃ a xs, x = .ref a ∧ SqL K H1 a xs ∧ R (Ite1 K a) H1
theorem for_enum1 {K : PySem.W.Frag} {a : Addr} {xs : List V} {g : TG} {tb : TS} {D : Ends} {σ : St} {H : Hp} (Pv : Nat → St → Hp → Prop) (h0 : Pv 0 σ H) (hl : ∀ i σ H, i ≤ xs.length → Pv i σ H → SqL K H a xs)
    (hs : ∀ i x T σ H, xs[i]? = some x → H T = none → Pv i σ H → g (.ref T) σ (upd H T (.tup [.int ((i + 1 : Nat) : Int), x])) fun σ2 H2 => tb { D with nx := Pv (i + 1), ct := Pv (i + 1), bk := D.nx } σ2 H2) (hd : ∀ σ H, Pv xs.length σ H → D.nx σ H) :
    ∃ W : Nat → Nat → St → Hp → Prop, (∃ m, W 0 m σ H) ∧ ∀ i m σ H, W i m σ H →
      ((Ite1 K a).stop i H ∧ D.nx σ H) ∨ ((Ite1 K a).go i H ∧ ∃ N : St → Hp → Prop, (∀ σ' H', N σ' H' → ∃ m', m' < m ∧ W (i + 1) m' σ' H') ∧ ∀ x H', (Ite1 K a).yld i H x H' → g x σ H' fun σ2 H2 => tb { D with nx := N, ct := N, bk := D.nx } σ2 H2) := by
  refine ⟨fun i m σ H => m = xs.length - i ∧ i ≤ xs.length ∧ Pv i σ H, ⟨xs.length, by simp, Nat.zero_le _, h0⟩, ?_⟩
  rintro i m σ H ⟨rfl, hi, p⟩
  have q := hl i σ H hi p
  by_cases hlt : i < xs.length
  · refine .inr ⟨⟨xs, xs[i], q, List.getElem?_eq_getElem hlt⟩, Pv (i + 1), fun σ' H' p' => ⟨xs.length - (i + 1), by omega, rfl, hlt, p'⟩, fun x H' y => ?_⟩
    obtain ⟨T, x', rfl, hT, rfl, hx⟩ := y
    exact hs i x' T σ H (hx xs q) hT p
  · have e : i = xs.length := by omega
    subst e
    exact .inl ⟨⟨xs, q, Nat.le_refl _⟩, hd σ H p⟩
theorem pi_enum1 {X : Cx} {e : Expr} {te : TE} {p pos kpos ipos tpos : Pos} {elts : List Expr} {kk k1 : Nat} (hg : Gl X "enumerate") (hm : X.mg "enumerate" = none) (he : PE X e te)
    (hs : backTo pos (starEach [e] X.env) = (false, eval e X.env) :: backTo pos (starEach [] X.env) := by rfl) (hs' : starEach (e :: []) X.env = (false, eval e X.env) :: starEach [] X.env := by rfl) (hpl : (backTo pos (starEach [e] X.env)).any (·.1) = false := by rfl) :
    PI X (.Tuple elts kk tpos) (.Call (.Name "enumerate" p) [e] [⟨some "start", .Constant (.int 1) k1 ipos, kpos⟩] pos) (iEnum1 X.K te) := by
  intro pins s σ H R I h
  refine wpAny_Call_Name_kw (ld_blt I hg hm boot_enumerate ?_)
  refine callWith_kwT (thn ((pa_cons he pa_nil hs') pos pins s σ H (fun vs H1 => match vs with
    | [x] => ∃ a xs, x = .ref a ∧ SqL X.K H1 a xs ∧ R (Ite1 X.K a) H1
    | _ => False) I h) fun us s1 hq => ?_) hs hpl rfl rfl
  obtain ⟨vs, H1, I1, r1, q1⟩ := hq
  match vs, r1, q1 with
  | [x], .cons rx .nil, ⟨a, xs, e1, hq, q⟩ =>
    subst e1
    cases rx
    refine thn ((pk_cons (nm := some "start") (kpos := kpos) pe_int pk_nil) pos pins s1 σ H1 (fun zs H2 => zs = [V.int 1] ∧ H2 = H1) I1 ⟨rfl, rfl⟩) fun ws s2 hq2 => ?_
    obtain ⟨zs, H2, I2, r2, rfl, rfl⟩ := hq2
    cases r2 with
    | cons ri rr =>
    cases rr
    obtain ⟨t, rfl⟩ := ri
    obtain ⟨its, rv, p', hz⟩ := I2.list hq
    refine Sim.call_enum1 p'.isList fun h' he hit hsz hk => wpAny_pyIter_enum he ?_
    have I3 : Inv X pins σ H2 { s2 with heap := h' } := I2.kept (t' := s2.toks) hk
    refine ⟨s2.heap.objs.size + 1, [s2.heap.objs.size + 1, s2.heap.objs.size], _, _, H2, rfl, I3, turn_enum1 a (s2.heap.objs.size + 1) s2.heap.objs.size, ⟨⟨.none, he⟩, hit, Nat.succ_ne_self _⟩, fun b hb => ?_, q⟩
    have e' : b = s2.heap.objs.size + 1 ∨ b = s2.heap.objs.size := by simpa using hb
    have hle : s2.heap.objs.size ≤ b := by
      rcases e' with z | z
      · rw [z]; exact Nat.le_add_right _ _
      · rw [z]; exact Nat.le_refl _
    exact I2.fpOk hle (I2.hok.fresh hle)
end
end L2
namespace L2
open PySem PySem.Spec PyProof.Rows
def NoD (K : PySem.W.Frag) (H : Hp) (a : Addr) : Prop := (∃ o u, H a = some (.frz o u) ∧ o.dict = none) ∨ ∃ o, K.lookup a = some o ∧ o.dict = none
section
variable {X : Cx} {pins : List (Addr × Obj)} {σ : St} {H : Hp} {s : Shared}
theorem Inv.noD (I : Inv X pins σ H s) {a : Addr} (h : NoD X.K H a) : ∃ ob, s.heap.get? a = some ob ∧ ob.dict = none := by
  rcases h with ⟨o, u, e, n⟩ | ⟨o, e, n⟩
  · exact ⟨o, (I.hok a _ e).1, n⟩
  · exact ⟨o, I.kIn a o e, n⟩
theorem NoD.mono {K : PySem.W.Frag} {H H' : Hp} {a : Addr} (h : NoD K H a) (e : ∀ o u, H a = some (.frz o u) → H' a = some (.frz o u)) : NoD K H' a := by
  rcases h with ⟨o, u, q, n⟩ | h
  · exact .inl ⟨o, u, e o u q, n⟩
  · exact .inr h
def tTupF (t : TA) : TE := fun σ H Q => t σ H fun xs H1 => xs.length ≤ sizeLine ∧ ∀ (p : Addr) (o : Obj), H1 p = none → o.dict = none → Q (.ref p) (upd H1 p (.frz o (.tup xs)))
theorem pe_tupF {es : List Expr} {t : TA} {pos : Pos} {k1} (h : PA X es t) : PE X (.Tuple es k1 pos) (tTupF t) := by
  intro pins s σ H Q I hq
  refine wpAny_Tuple_spliced (thn (h pos pins s σ H _ I hq) fun us s1 ⟨xs, H1, I1, r, z, q⟩ => ⟨by rw [← r.length]; exact z, ?_⟩)
  have hf : H1 s1.heap.objs.size = none := I1.hok.fresh (Nat.le_refl _)
  refine ⟨.ref s1.heap.objs.size, upd H1 s1.heap.objs.size (.frz { cls := .type "tuple", data := .seq us.toArray } (.tup xs)), I1.laid (t' := s1.toks) (fun b u e => Heap.get?_push_of_some _ e) (Nat.le_refl _) ?_, rfl, q _ _ hf rfl⟩
  exact ⟨Heap.get?_push_size _ rfl, z, us, r, IsTup.new _ _⟩
def rCatTF (K : PySem.W.Frag) : R2 := fun x y H Q => ∃ a b xs ys, x = .ref a ∧ y = .ref b ∧ SqT K H a xs ∧ SqT K H b ys ∧ xs ≠ [] ∧ xs.length + ys.length ≤ sizeLine ∧
  (ys = [] → Q (.ref a) H) ∧ (ys ≠ [] → ∀ (p : Addr) (o : Obj), H p = none → o.dict = none → Q (.ref p) (upd H p (.frz o (.tup (xs ++ ys)))))
theorem op_catTF : OpR X (binaryOp .Add) (rCatTF X.K) := by
  intro pins s σ H x y v u Q I rx ry h
  obtain ⟨a, b, xs, ys, rfl, rfl, ha, hb, hx, hz, q1, q2⟩ := h
  cases rx
  cases ry
  obtain ⟨its, r1, p1, _⟩ := I.tuple ha
  obtain ⟨its2, r2, p2, _⟩ := I.tuple hb
  refine HT.cat_tup p1 p2 (fun z => hx (r1.nil_iff.mp z)) (fun z => ⟨.ref a, H, I, rfl, q1 (r2.nil_iff.mp z)⟩) (fun z => ?_) (by rw [← r1.length, ← r2.length]; exact hz)
  refine ⟨.ref s.heap.objs.size, _, I.laid (t' := s.toks) (o := .frz { cls := .type "tuple", data := .seq (its ++ its2).toArray } (.tup (xs ++ ys))) (fun b ob q => Heap.get?_push_of_some _ q) (Nat.le_refl _) ?_, rfl, q2 (fun w => z (r2.nil_iff.mpr w)) _ _ (I.hok.fresh (Nat.le_refl _)) rfl⟩
  exact ⟨Heap.get?_push_size _ rfl, by rw [List.length_append]; exact hz, _, r1.append r2, IsTup.new _ _⟩
def tBMT (K : PySem.W.Frag) (r : V → List V → Hp → VK → Prop) (to : TE) (t : TA) : TE := fun σ H Q => to σ H fun x H1 => (∃ a xs, x = .ref a ∧ SqT K H1 a xs ∧ NoD K H1 a) ∧ t σ H1 fun xs H2 => r x xs H2 Q
variable {o e : Expr} {es : List Expr} {to : TE} {t : TA} {name : Str} {apos cpos : Pos} {id : String} {r : V → List V → Hp → VK → Prop}
theorem pe_bmT (pa : PlainAttrs "tuple") (slot : Slot "tuple" name id) (hty : typeOf (.builtin id) = pure (.type "method_descriptor")) (hm : MtR X id r) (ho : PE X o to) (ha : PA X (e :: es) t)
    (hbase : attributeBase o name X.env (eval o X.env) = eval o X.env := by rfl)
    (hfew : ((backTo cpos (starEach (e :: es) X.env)).all (fun x => !x.1) && (backToKw cpos (keywordEach [] X.env)).all (fun x => x.1.isSome)
      && decide ((e :: es).length + ([] : List Keyword).length + (if ([] : List Keyword).isEmpty then 0 else 1) < 30)) = true := by rfl)
    (hline : (apos.endLine == cpos.line) = true := by rfl) (hs : starEach (e :: es) X.env = (false, eval e X.env) :: starEach es X.env := by rfl) (hplain : (backTo cpos (starEach es X.env)).any (·.1) = false := by rfl) :
    PE X (.Call (.Attribute o name apos) (e :: es) [] cpos) (tBMT X.K r to t) := by
  intro pins s σ H Q I h
  refine wpAny_Call_method_late hbase hfew hline rfl (thn (ho pins s σ H _ I h) fun v s1 ⟨x, H1, I1, r1, ⟨a, xs, ex, hq, nd⟩, q1⟩ => ?_)
  subst ex
  obtain rfl : v = Value.ref a := r1
  obtain ⟨its, rv, ⟨ob, ho', hc, _⟩, _⟩ := I1.tuple hq
  refine ⟨"tuple", id, pa, slot, hty, ⟨ob, ho', hc⟩, fun b eb => ?_, ?_⟩
  · cases eb
    exact I1.noD nd
  · have hA := ha cpos pins s1 σ H1 _ I1 q1
    rw [hs] at hA ⊢
    refine Calls.callWith_builtin (by show (false || (backTo cpos (starEach es X.env)).any (·.1)) = false; rw [hplain] <;> rfl) (Calls.evalArgs_plain ?_)
    exact thn hA fun us s2 ⟨vs, H2, I2, r2, q2⟩ => hm pins s2 σ H2 (.ref a) vs (.ref a) us Q I2 rfl r2 q2
end
end L2
namespace Wk
theorem digit_nat {n : Nat} (h : n < 10) : (Nat.digitChar n).toNat = 48 + n := by
  have : ∀ m, m < 10 → (Nat.digitChar m).toNat = 48 + m := by decide
  exact this n h
theorem decimal_eq : ∀ (k n : Nat), n < 10 ^ k → 1 ≤ k → (Nat.toDigits 10 n).map Char.toNat = Ks295.decimal k n
  | 0, n, _, h => absurd h (by omega)
  | k + 1, n, h, _ => by
    unfold Ks295.decimal
    by_cases q : n < 10
    · rw [if_pos q, Nat.toDigits_of_lt_base q]
      simp [digit_nat q]
    · rw [if_neg q, Nat.toDigits_of_base_le (by omega) (by omega), List.map_append]
      have hk : 1 ≤ k := by
        cases k with
        | zero => simp at h; omega
        | succ k => omega
      rw [decimal_eq k (n / 10) (by rw [Nat.pow_succ] at h; omega) hk]
      simp [digit_nat (Nat.mod_lt n (by omega : 10 > 0))]
end Wk
namespace Wk
open PySem PySem.Spec PyProof.Rows L2
section
variable {P : Program} {w : World} {K : PySem.W.Frag} {mg : Str → Option Value} {base : Heap}
def WordsAt (H : Hp) (as : List Addr) (vs : List (List Nat)) : Prop := as.length = vs.length ∧ ∀ (i : Nat) (a : Addr) (v : List Nat), as[i]? = some a → vs[i]? = some v → H a = some (.tup (wv v))
theorem WordsAt.mono {H H' : Hp} {as : List Addr} {vs : List (List Nat)} (h : WordsAt H as vs) (e : ∀ a v, H a = some (.tup (wv v)) → H' a = some (.tup (wv v))) : WordsAt H' as vs := ⟨h.1, fun i a v h1 h2 => e a v (h.2 i a v h1 h2)⟩
theorem WordsAt.nil {H : Hp} : WordsAt H [] [] := ⟨rfl, fun i a v h => by simp at h⟩
theorem WordsAt.snoc {H : Hp} {as : List Addr} {vs : List (List Nat)} {a : Addr} {v : List Nat} (h : WordsAt H as vs) (e : H a = some (.tup (wv v))) : WordsAt H (as ++ [a]) (vs ++ [v]) := by
  refine ⟨by simp [h.1], fun i b u h1 h2 => ?_⟩
  by_cases hi : i < as.length
  · rw [List.getElem?_append_left hi] at h1
    rw [List.getElem?_append_left (by rw [← h.1]; exact hi)] at h2
    exact h.2 i b u h1 h2
  · rw [List.getElem?_append_right (by omega)] at h1
    rw [List.getElem?_append_right (by rw [← h.1]; omega), ← h.1] at h2
    cases z : i - as.length with
    | zero =>
      rw [z] at h1 h2
      have e1 : a = b := Option.some.inj h1
      have e2 : v = u := Option.some.inj h2
      rw [← e1, ← e2]; exact e
    | succ n => rw [z] at h1; simp at h1
theorem WordsAt.cons {H : Hp} {as : List Addr} {vs : List (List Nat)} {a : Addr} {v : List Nat} (h : WordsAt H as vs) (e : H a = some (.tup (wv v))) : WordsAt H (a :: as) (v :: vs) := by
  refine ⟨by simp [h.1], fun i b u h1 h2 => ?_⟩
  cases i with
  | zero =>
    have e1 : a = b := Option.some.inj h1
    have e2 : v = u := Option.some.inj h2
    rw [← e1, ← e2]; exact e
  | succ i => exact h.2 i b u h1 h2
theorem WordsAt.k {H : Hp} {as : List Addr} {vs : List (List Nat)} (h : WordsAt H as vs) : WordsK K H as vs := ⟨h.1, fun i a v h1 h2 => SqT.of (h.2 i a v h1 h2)⟩
theorem WordsAt.at {H : Hp} {as : List Addr} {vs : List (List Nat)} (h : WordsAt H as vs) {i : Nat} {a : Addr} (e : as[i]? = some a) : ∃ v, vs[i]? = some v ∧ H a = some (.tup (wv v)) := by
  have hi := (List.getElem?_eq_some_iff.mp e).1
  rw [h.1] at hi
  exact ⟨vs[i], List.getElem?_eq_getElem hi, h.2 i a _ e (List.getElem?_eq_getElem hi)⟩
theorem refs_at {as : List Addr} {i : Nat} {x : V} (h : (as.map V.ref)[i]? = some x) : ∃ a, as[i]? = some a ∧ x = V.ref a := by
  rw [List.getElem?_map] at h
  obtain ⟨a, h1, h2⟩ := Option.map_eq_some_iff.mp h
  exact ⟨a, h1, h2.symm⟩
def spWText (K : PySem.W.Frag) : Sp := fun vs H Q _ => ∃ (a : Addr) (as : List Addr) (ws : List (List Nat)), vs = [.ref a] ∧ SqL K H a (as.map V.ref) ∧ WordsAt H as ws ∧ ws.length ≤ 100 ∧ (∀ v ∈ ws, 1 ≤ v.length ∧ v.length ≤ 12) ∧
  ∀ H' p, Same H H' → H p = none → H' p = some (.lst (wv (Ks296.joined ws))) → Q (.ref p) H'
theorem scWText : FnScope ["words", "signs", "word"] ["words"] (defScope sWText) := ⟨rfl, rfl, rfl, by decide +kernel, rfl, by decide +kernel, by decide +kernel⟩
theorem join_len : ∀ (ws : List (List Nat)) (acc : List Nat), (∀ v ∈ ws, v.length ≤ 12) → (ws.foldl joinStep acc).length ≤ acc.length + 13 * ws.length
  | [], acc, _ => by simp
  | v :: ws, acc, h => by
    rw [List.foldl_cons]
    have := join_len ws (joinStep acc v) fun x hx => h x (List.mem_cons_of_mem _ hx)
    have h1 := h v List.mem_cons_self
    have : (joinStep acc v).length ≤ acc.length + 13 := by
      unfold joinStep
      split <;> simp <;> omega
    simp only [List.length_cons]
    omega
theorem ok_wtext {f : Addr} {fd : FuncData} (F : Fun K "write_text" "write_text" sWText f fd) (T : TxW K mg) : FnOk P w K mg base CX0 1 f fd ["words"] (spWText K) := by
  refine F.ok scWText (fun vs H Q E h => ?_) (fun cdv A outer s H vs Q E hr h => ?_)
  · obtain ⟨a, as, ws, rfl, _⟩ := h
    rfl
  · obtain ⟨a, as, ws, rfl, hs, hw, h100, hlen, k⟩ := h
    have line : sizeLine = 16777216 := sizeLine_eq
    refine ⟨_, pss_cons (ps_set (i := 1) scWText.nd rfl (Or.inl rfl) (pe_lst pa_nil))
      (pss_cons (ps_for PassesOwn.never rfl (pi_list (pv 0)) (pg_name (i := 2) scWText.nd rfl (Or.inl rfl))
        (pss_cons (ps_if (pt_cmpR op_gt (pe_callB call_len_seq (by rfl) T.len PySem.boot_len (pa_cons (pv 1) pa_nil)) pe_int (nomark _)) (pss_one (ps_expr (pe_bm PySem.F.plainAttrs_list PySem.F.slot_list_append PySem.F.type_list_append mt_append (pv 1) (pa_cons (pe_gv T.blank) pa_nil)))) pss_nil)
        (pss_one (ps_expr (pe_bm PySem.F.plainAttrs_list PySem.F.slot_list_extend PySem.F.type_list_extend mt_extendT (pv 1) (pa_cons (pv 2) pa_nil))))))
      (pss_one (ps_ret (pv 1)))), ?_⟩
    refine ⟨Nat.zero_le _, fun p hp => ?_⟩
    have npa : ∀ {b : Addr} {o : HO}, H b = some o → b ≠ p := fun z => ne_of_none z hp
    refine ⟨_, rfl, a, rfl, ⟨_, (same_new hp).seq hs⟩, for_list (K := K) (a := a) (xs := as.map V.ref) (fun i σ H' => ∃ v : Option V, σ = [some (.ref a), some (.ref p), v] ∧ Same H H' ∧ H' p = some (.lst (wv ((ws.take i).foldl joinStep []))))
      ⟨none, rfl, same_new hp, upd_same⟩ (fun i σ H' _ ⟨_, _, e, _⟩ => e.seq hs) ?_ ?_⟩
    · rintro i y σ H' hi ⟨v, rfl, e, hpl⟩
      obtain ⟨b, hb, rfl⟩ := refs_at hi
      obtain ⟨u, hu, hbu⟩ := hw.at hb
      have hil : i < ws.length := (List.getElem?_eq_some_iff.mp hu).1
      have hul := hlen u (List.mem_of_getElem? hu)
      have hlt := join_len (ws.take i) [] fun x hx => (hlen x (List.mem_of_mem_take hx)).2
      have htl : (ws.take i).length ≤ 100 := by rw [List.length_take]; omega
      rw [foldl_take hu]
      generalize (ws.take i).foldl joinStep [] = acc at hpl hlt
      simp only [List.length_nil] at hlt
      refine ⟨_, rfl, p, _, rfl, .inl (SqL.of hpl), _, _, rfl, rfl, _, rfl, ite2 (fun h1 => ?_) fun h1 => ?_⟩
      · have h2 : 0 < acc.length := by have := of_decide_eq_true h1; rw [wv_len] at this; omega
        refine ⟨_, rfl, .inl ⟨rfl, _, SqL.of hpl⟩, p, _, _, rfl, rfl, hpl, (by rw [wv_len]; omega), ?_⟩
        have ek : wv acc ++ [V.int 32] = wv (acc ++ [32]) := by rw [wv_app]; rfl
        rw [ek]
        refine ⟨_, rfl, .inl ⟨rfl, _, SqL.of upd_same⟩, _, rfl, p, b, _, _, rfl, rfl, upd_same, SqT.of (by rw [upd_ne (npa hbu)]; exact e _ _ hbu), (by rw [wv_len, wv_len]; simp; omega), ?_⟩
        refine ⟨_, rfl, same_upd (same_upd e hp) hp, ?_⟩
        rw [upd_same, ← wv_app]
        unfold joinStep
        rw [if_pos h2]
      · have h2 : ¬ 0 < acc.length := fun z => h1 (decide_eq_true (by rw [wv_len]; omega))
        refine ⟨_, rfl, .inl ⟨rfl, _, SqL.of hpl⟩, _, rfl, p, b, _, _, rfl, rfl, hpl, SqT.of (e _ _ hbu), (by rw [wv_len, wv_len]; omega), ?_⟩
        refine ⟨_, rfl, same_upd e hp, ?_⟩
        rw [upd_same, ← wv_app]
        unfold joinStep
        rw [if_neg h2]
    · rintro σ H' ⟨v, rfl, e, hpl⟩
      rw [List.length_map, hw.1, List.take_length, join_eq fun x hx => (hlen x hx).1] at hpl
      exact ⟨_, rfl, k H' p e hp hpl⟩
def spWithLen (K : PySem.W.Frag) : Sp := fun vs H Q _ => ∃ (a : Addr) (ys : List V), vs = [.ref a] ∧ (SqL K H a ys ∨ SqT K H a ys) ∧ ys.length ≤ 100000 ∧ ∀ H' p, Same H H' → H p = none → H' p = some (.lst (.int (ys.length : Nat) :: ys)) → Q (.ref p) H'
theorem scWithLen : FnScope ["signs"] ["signs"] (defScope sWithLen) := ⟨rfl, rfl, rfl, by decide +kernel, rfl, by decide +kernel, by decide +kernel⟩
theorem ok_withLen {f : Addr} {fd : FuncData} (F : Fun K "with_length" "with_length" sWithLen f fd) (T : TxW K mg) : FnOk P w K mg base CX0 1 f fd ["signs"] (spWithLen K) := by
  refine F.ok scWithLen (fun vs H Q E h => ?_) (fun cdv A outer s H vs Q E hr h => ?_)
  · obtain ⟨a, ys, rfl, _⟩ := h
    rfl
  · obtain ⟨a, ys, rfl, hs, hz, k⟩ := h
    have line : sizeLine = 16777216 := sizeLine_eq
    refine ⟨_, pss_one (ps_ret (pe_op op_cat (pe_lst (pa_cons (pe_callB call_len_seq (by rfl) T.len PySem.boot_len (pa_cons (pv 0) pa_nil)) pa_nil)) (pe_callTy call_list_of (by rfl) T.list PyProof.Rows.boot_list (pa_cons (pv 0) pa_nil)))), ?_⟩
    refine ⟨_, rfl, a, ys, rfl, hs, (by show 1 ≤ sizeLine; rw [line]; decide), fun l hl => ?_⟩
    refine ⟨_, rfl, a, ys, rfl, hs.imp (fun z => (same_new hl).seq z) (fun z => (same_new hl).tupl z), fun l2 hl2 => ?_⟩
    have n2 : l2 ≠ l := fun z => by rw [z, upd_same] at hl2; cases hl2
    rw [upd_ne n2] at hl2
    refine ⟨l, l2, _, _, rfl, rfl, by rw [upd_ne (Ne.symm n2), upd_same], upd_same, (by simp; omega), fun p hp => ?_⟩
    have s2 : Same H (upd (upd H l (.lst [.int (ys.length : Nat)])) l2 (.lst ys)) := same_upd (same_new hl) hl2
    have hp0 : H p = none := s2.free hp
    exact k _ p (same_upd s2 hp0) hp0 (by rw [upd_same] <;> rfl)
end
end Wk
namespace L2
open PySem PySem.Spec PyProof.Rows
theorem lc_str {x : Str} {g : TG} {tt : TT} {te : TE} {vs : List Nat} {σ : St} {H1 : Hp} {D : Addr} {Qd : Hp → Prop} (Pv : Nat → Hp → Prop) (h0 : Pv 0 (upd H1 D (.lst [])))
    (hs : ∀ i c H, x.cps[i]? = some c → Pv i H → g (.str ⟨#[c]⟩) (wipe σ vs) H fun σ2 H2 => wipe σ2 vs = wipe σ vs ∧ tt σ2 H2 fun b H3 =>
      if b = true then te σ2 H3 fun y H4 => ∃ acc, H4 D = some (.lst acc) ∧ acc.length < sizeLine ∧ Pv (i + 1) (upd H4 D (.lst (acc ++ [y]))) else Pv (i + 1) H3) (hd : ∀ H, Pv x.cps.size H → Qd H) :
    ∃ W : Nat → Nat → Hp → Prop, (∃ m, W 0 m (upd H1 D (.lst []))) ∧ ∀ i m H, W i m H →
      ((Its x).stop i H ∧ Qd H) ∨ ((Its x).go i H ∧ ∃ Nx : Hp → Prop, (∀ H', Nx H' → ∃ m', m' < m ∧ W (i + 1) m' H') ∧ ∀ y H', (Its x).yld i H y H' → g y (wipe σ vs) H' fun σ2 H2 => wipe σ2 vs = wipe σ vs ∧ tt σ2 H2 fun b H3 =>
        if b = true then te σ2 H3 fun y H4 => ∃ acc, H4 D = some (.lst acc) ∧ acc.length < sizeLine ∧ Nx (upd H4 D (.lst (acc ++ [y]))) else Nx H3) := by
  refine ⟨fun i m H => m = x.cps.size - i ∧ i ≤ x.cps.size ∧ Pv i H, ⟨x.cps.size, by simp, Nat.zero_le _, h0⟩, ?_⟩
  rintro i m H ⟨rfl, hi, p⟩
  by_cases hlt : i < x.cps.size
  · refine .inr ⟨hlt, Pv (i + 1), fun H' p' => ⟨x.cps.size - (i + 1), by omega, rfl, hlt, p'⟩, fun y H' q => ?_⟩
    obtain ⟨e, c, h1, h2⟩ := q
    subst e h2
    exact hs i c _ h1 p
  · have e : i = x.cps.size := by omega
    subst e
    exact .inl ⟨Nat.le_refl _, hd H p⟩
end L2
namespace Wk
open PySem PySem.Spec PyProof.Rows L2
section
variable {P : Program} {w : World} {K : PySem.W.Frag} {mg : Str → Option Value} {base : Heap}
def wordAt (H : Hp) (a : Addr) : List Nat := match H a with
  | some (.tup xs) => xs.map fun x => match x with
    | .int i => i.toNat
    | _ => 0
  | _ => []
theorem wordAt_eq {H : Hp} {a : Addr} {v : List Nat} (h : H a = some (.tup (wv v))) : wordAt H a = v := by
  unfold wordAt
  rw [h]
  show (wv v).map _ = v
  unfold wv
  rw [List.map_map]
  exact (List.map_congr_left (g := id) fun x _ => by show (x : Int).toNat = x; simp).trans (List.map_id _)
theorem WordsAt.map {H : Hp} {as : List Addr} {vs : List (List Nat)} (h : WordsAt H as vs) : as.map (wordAt H) = vs := by
  apply List.ext_getElem?
  intro i
  rw [List.getElem?_map]
  cases q : as[i]? with
  | none =>
    have : as.length ≤ i := List.getElem?_eq_none_iff.mp q
    rw [h.1] at this
    rw [List.getElem?_eq_none_iff.mpr this]; rfl
  | some a =>
    have hi := (List.getElem?_eq_some_iff.mp q).1
    rw [h.1] at hi
    have e : vs[i]? = some vs[i] := List.getElem?_eq_getElem hi
    rw [e]
    exact congrArg some (wordAt_eq (h.2 i a _ q e))
def spWList (T : Addr) : Sp := fun vs H Q _ => ∃ (d : Addr) (D l : List Ks295.Entry), vs = [.ref d] ∧ H d = some (.dT (dv D)) ∧ Rel D l ∧ Good D ∧ D.length ≤ 64 ∧ Tab T H ∧ ∀ (H' : Hp) (p : Addr), SameT T H H' → Tab T H' → H p = none → H' p = some (.lst (wv (Ks295.written l))) → Q (.ref p) H'
theorem scWList : FnScope ["counts", "signs", "word", "digit"] ["counts"] (defScope sWList) := ⟨rfl, rfl, rfl, by decide +kernel, rfl, by decide +kernel, by decide +kernel⟩
theorem text_dec {c : Nat} (h : c ≤ 1000000) : (Str.ofString (toString (c : Int))).cps = (Ks295.decimal 8 c).toArray := by
  have e := text_ofNat c
  have e2 : (toString (Int.ofNat c)) = toString (c : Int) := rfl
  rw [e2] at e
  rw [e, decimal_eq 8 c (by omega) (by omega)]
theorem log_small {c : Nat} (h : c ≤ 1000000) : ((c : Int)).natAbs.log2 < 1920 := by
  show c.log2 < 1920
  by_cases z : c = 0
  · subst z; decide
  · have := (Nat.log2_lt (k := 20) z).mpr (by omega)
    omega
theorem ok_wlist {f fO T : Addr} {fd fdO : FuncData} (F : Fun K "write_list" "write_list" sWList f fd) (W : TxW K mg) (GO : FnOk P w K mg base CX0 5 fO fdO ["words", "counts"] (spOrder K T)) (kO : PySem.W.keepIn K (.ref fO) = true) (mO : mg "in_order" = some (.ref fO)) (bO : Binds K fdO ["words", "counts"] []) :
    FnOk P w K mg base CX0 6 f fd ["counts"] (spWList T) := by
  refine F.ok scWList (fun vs H Q E h => ?_) (fun cdv A outer s H vs Q E hr h => ?_)
  · obtain ⟨d, D, l, rfl, _⟩ := h
    rfl
  · obtain ⟨d, D, l, rfl, hd, rel, good, h64, tab, k⟩ := h
    have hu := hu_of hr
    have line : sizeLine = 16777216 := sizeLine_eq
    refine ⟨_, pss_cons (ps_set (i := 1) scWList.nd rfl (Or.inl rfl) (pe_lst pa_nil))
      (pss_cons (ps_for PassesOwn.never rfl (pi_list (pe_call GO hr rfl mO kO bO .nil pass0 (pa_cons (pe_callTy (call_listT rfl) (by rfl) W.list PyProof.Rows.boot_list (pa_cons (pv 0) pa_nil)) (pa_cons (pv 0) pa_nil)))) (pg_name (i := 2) scWList.nd rfl (Or.inl rfl))
        (pss_cons (ps_expr (pe_bm PySem.F.plainAttrs_list PySem.F.slot_list_extend PySem.F.type_list_extend mt_extendT (pv 1) (pa_cons (pv 2) pa_nil)))
        (pss_cons (ps_expr (pe_bm PySem.F.plainAttrs_list PySem.F.slot_list_append PySem.F.type_list_append mt_append (pv 1) (pa_cons (pe_gv W.blank) pa_nil)))
        (pss_cons (ps_expr (pe_bm PySem.F.plainAttrs_list PySem.F.slot_list_extend PySem.F.type_list_extend mt_extend (pv 1) (pa_cons
          (pe_lc (own := [("digit", 3)]) rfl scWList.nd (pi_str (pe_callTy call_str_int (by rfl) W.str PyProof.Rows.boot_str (pa_cons (pe_dget hu (pv 0) (pv 2) (fun _ _ => rfl)) pa_nil))) (show BlkOk ["counts", "signs", "word", "digit"] (defScope sWList) _ [("digit", 3)] from blkOk_by (by decide +kernel))
            (fun s H C cl fp => pg_name (i := 3) scWList.nd rfl (Or.inl rfl)) (fun s H C cl fp => pts_nil) (fun s H C cl fp => pe_callB call_ord (by rfl) W.ord PyProof.Rows.boot_ord (pa_cons (pv 3) pa_nil))) pa_nil)))
        (pss_one (ps_expr (pe_bm PySem.F.plainAttrs_list PySem.F.slot_list_append PySem.F.type_list_append mt_append (pv 1) (pa_cons (pe_gv W.lineEnd) pa_nil))))))))
      (pss_one (ps_ret (pv 1)))), ?_⟩
    refine ⟨Nat.zero_le _, fun p hp => ?_⟩
    have npd : d ≠ p := ne_of_none hd hp
    refine ⟨_, rfl, d, _, rfl, by rw [upd_ne npd]; exact hd, fun l0 as hl0 has hat => ⟨_, rfl, ?_⟩⟩
    have sm0 : Same H (upd H p (.lst [])) := same_new hp
    have sm1 : Same (upd H p (.lst [])) (upd (upd H p (.lst [])) l0 (.lst (as.map V.ref))) := same_new hl0
    have wat : WordsAt (upd (upd H p (.lst [])) l0 (.lst (as.map V.ref))) as (D.map Ks295.Entry.word) := by
      refine ⟨by rw [has, dv_len, List.length_map], fun i a v h1 h2 => ?_⟩
      rw [List.getElem?_map] at h2
      obtain ⟨e, he, rfl⟩ := Option.map_eq_some_iff.mp h2
      have hk : (dv D)[i]? = some (ek e) := by unfold dv; rw [List.getElem?_map, he]; rfl
      have := hat i a (kw e.word) _ h1 hk
      rw [kw_kV] at this
      exact sm1 _ _ this
    have hp1 : (upd (upd H p (.lst [])) l0 (.lst (as.map V.ref))) p = some (.lst []) := by
      rw [upd_ne (ne_of_none (upd_same (H := H) (a := p) (o := .lst [])) hl0), upd_same]
    have sm : Same H (upd (upd H p (.lst [])) l0 (.lst (as.map V.ref))) := sm0.trans sm1
    have hl1 : (upd (upd H p (.lst [])) l0 (.lst (as.map V.ref))) l0 = some (.lst (as.map V.ref)) := upd_same
    generalize upd (upd H p (.lst [])) l0 (.lst (as.map V.ref)) = H1 at wat hp1 sm hl1
    have tab1 : Tab T H1 := tab.same sm
    have emap := wat.map
    refine ⟨l0, d, as, wordAt H1, D, rfl, SqL.of hl1, sm _ _ hd, fun b hb => ?_, by rw [emap]; exact rel.nd, tab1, fun H3 q out f1 f2 f3 f4 f5 f6 => ?_⟩
    · obtain ⟨j, hj⟩ := List.mem_iff_getElem?.mp hb
      obtain ⟨v, hv, hb'⟩ := wat.at hj
      rw [wordAt_eq hb']
      exact ⟨hb', has_iff.mpr (List.mem_of_getElem? hv)⟩
    have entE : as.map (entOf D (wordAt H1)) = D := by
      have z1 : as.map (entOf D (wordAt H1)) = (as.map (wordAt H1)).map fun v => (⟨v, cntOf D v⟩ : Ks295.Entry) := by rw [List.map_map]; rfl
      rw [z1, emap, List.map_map]
      refine (List.map_congr_left (g := id) fun e he => ?_).trans (List.map_id _)
      show (⟨e.word, cntOf D e.word⟩ : Ks295.Entry) = e
      unfold cntOf
      rw [lookE_mem rel.nd he]
      rfl
    have me : out.map (entOf D (wordAt H1)) = l := by
      refine rel.all (List.pairwise_map.mpr f5) ?_
      have z3 := f4.map (entOf D (wordAt H1))
      rw [entE] at z3
      exact z3
    have mem : ∀ (i : Nat) (b : Addr), out[i]? = some b → ∃ e, l[i]? = some e ∧ H1 b = some (.tup (wv e.word)) ∧ e ∈ D := fun i b h1 => by
      have hb : b ∈ as := f4.mem_iff.mp (List.mem_of_getElem? h1)
      obtain ⟨j, hj⟩ := List.mem_iff_getElem?.mp hb
      obtain ⟨u, hu', hb'⟩ := wat.at hj
      refine ⟨entOf D (wordAt H1) b, by rw [← me, List.getElem?_map, h1]; rfl, ?_, ?_⟩
      · show H1 b = some (.tup (wv (wordAt H1 b)))
        rw [wordAt_eq hb']; exact hb'
      · have : entOf D (wordAt H1) b ∈ out.map (entOf D (wordAt H1)) := List.mem_map_of_mem (List.mem_of_getElem? h1)
        rw [me] at this
        exact rel.pe.mem_iff.mp this
    have keep3 : ∀ {b : Addr} {o : HO}, H1 b = some o → (∀ q, o ≠ .tbl q) → H3 b = some o := fun z n => f1 _ _ z (SameT.ne tab1 z n)
    have npq : q ≠ p := fun z => by rw [z, hp1] at f3; cases f3
    have len_l : l.length = out.length := by rw [← me, List.length_map]
    refine ⟨q, rfl, ⟨_, SqL.of f6⟩, for_list (K := K) (a := q) (xs := out.map V.ref) (fun i σ H' => ∃ v : Option V, σ = [some (.ref d), some (.ref p), v, none] ∧ (∀ b o, H3 b = some o → b ≠ p → H' b = some o) ∧ H' p = some (.lst (wv ((l.take i).flatMap lineOf))))
      ⟨none, rfl, fun b o e _ => e, keep3 hp1 (fun q z => nomatch z)⟩ (fun i σ H' _ ⟨_, _, e, _⟩ => SqL.of (e _ _ f6 npq)) ?_ ?_⟩
    · rintro i y σ H' hi ⟨v, rfl, e, hpl⟩
      obtain ⟨b, hb, rfl⟩ := refs_at hi
      obtain ⟨en, hen, hbw, hin⟩ := mem i b hb
      have hg := good en hin
      have hwl := word_len hg.1
      have hbn : b ≠ p := ne_of hbw hp1 fun z => nomatch z
      have hbH : H' b = some (.tup (wv en.word)) := e _ _ (keep3 hbw fun q z => nomatch z) hbn
      have hdH : H' d = some (.dT (dv D)) := e _ _ (keep3 (sm _ _ hd) fun q z => nomatch z) npd
      have hlen := lines_len (l := l.take i) fun x hx => (word_len (good x (rel.pe.mem_iff.mp (List.mem_of_mem_take hx))).1).2
      have hl64 : (l.take i).length ≤ 64 := by rw [List.length_take, rel.len]; omega
      rw [written_take hen]
      generalize (l.take i).flatMap lineOf = acc at hpl hlen
      refine ⟨_, rfl, .inl ⟨rfl, _, SqL.of hpl⟩, _, rfl, p, b, _, _, rfl, rfl, hpl, SqT.of hbH, (by rw [wv_len, wv_len]; omega), ?_⟩
      rw [← wv_app]
      have e2 : ∀ b o, H3 b = some o → b ≠ p → (upd H' p (.lst (wv (acc ++ en.word)))) b = some o := fun b o z n => by rw [upd_ne n]; exact e b o z n
      have hp2 : (upd H' p (.lst (wv (acc ++ en.word)))) p = some (.lst (wv (acc ++ en.word))) := upd_same
      have hb2 : (upd H' p (.lst (wv (acc ++ en.word)))) b = some (.tup (wv en.word)) := by rw [upd_ne hbn]; exact hbH
      have hd2 : (upd H' p (.lst (wv (acc ++ en.word)))) d = some (.dT (dv D)) := by rw [upd_ne npd]; exact hdH
      generalize upd H' p (.lst (wv (acc ++ en.word))) = H4 at e2 hp2 hb2 hd2
      refine ⟨_, rfl, .inl ⟨rfl, _, SqL.of hp2⟩, p, _, _, rfl, rfl, hp2, (by rw [wv_len, List.length_append]; omega), ?_⟩
      have ek2 : wv (acc ++ en.word) ++ [V.int 32] = wv (acc ++ en.word ++ [32]) := by rw [wv_app (acc ++ en.word)]; rfl
      rw [ek2]
      have e3 : ∀ b o, H3 b = some o → b ≠ p → (upd H4 p (.lst (wv (acc ++ en.word ++ [32])))) b = some o := fun b o z n => by rw [upd_ne n]; exact e2 b o z n
      have hp3 : (upd H4 p (.lst (wv (acc ++ en.word ++ [32])))) p = some (.lst (wv (acc ++ en.word ++ [32]))) := upd_same
      have hb3 : (upd H4 p (.lst (wv (acc ++ en.word ++ [32])))) b = some (.tup (wv en.word)) := by rw [upd_ne hbn]; exact hb2
      have hd3 : (upd H4 p (.lst (wv (acc ++ en.word ++ [32])))) d = some (.dT (dv D)) := by rw [upd_ne npd]; exact hd2
      generalize upd H4 p (.lst (wv (acc ++ en.word ++ [32]))) = H5 at e3 hp3 hb3 hd3
      have dg : DGet H5 d (.ref b) (some (.int (en.count : Int))) := by
        have z := DGet.t hd3 (show H5 b = some (.tup ((kw en.word).map kV)) by rw [kw_kV]; exact hb3)
        rw [dv_val, lookE_mem rel.nd hin] at z
        exact z
      have hcps := text_dec hg.2.2
      refine ⟨_, rfl, .inl ⟨rfl, _, SqL.of hp3⟩, _, rfl, _, rfl, d, _, rfl, dg, _, rfl, log_small hg.2.2, _, rfl, fun L hL => ?_⟩
      have npL : p ≠ L := ne_of_none hp3 hL
      refine lc_str (fun i H' => Same H5 H' ∧ H' L = some (.lst (wv ((Ks295.decimal 8 en.count).take i)))) ⟨same_new hL, upd_same⟩ ?_ ?_
      · rintro j c H6 hj ⟨g1, g2⟩
        have hj' : (Ks295.decimal 8 en.count)[j]? = some c := by
          have : (Str.ofString (toString (en.count : Int))).cps[j]? = some c := hj
          rw [hcps] at this
          simpa using this
        have dl := decimal_len 8 en.count
        refine ⟨rfl, yes_of ⟨_, rfl, _, rfl, rfl, ?_⟩⟩
        refine ⟨_, g2, (by rw [wv_len, List.length_take]; omega), same_upd g1 hL, ?_⟩
        rw [upd_same, take_one hj', wv_app]
        rfl
      · rintro H6 ⟨g1, g2⟩
        have hsz : (Str.ofString (toString (en.count : Int))).cps.size = (Ks295.decimal 8 en.count).length := by rw [hcps]; simp
        have g2' : H6 L = some (.lst (wv (Ks295.decimal 8 en.count))) := by
          have : H6 L = some (.lst (wv ((Ks295.decimal 8 en.count).take (Str.ofString (toString (en.count : Int))).cps.size))) := g2
          rw [hsz, List.take_length] at this
          exact this
        have dl := decimal_len 8 en.count
        refine ⟨p, L, _, _, rfl, rfl, g1 _ _ hp3, g2', (by rw [wv_len, wv_len]; simp only [List.length_append, List.length_cons, List.length_nil]; omega), ?_⟩
        rw [← wv_app]
        refine ⟨_, rfl, .inl ⟨rfl, _, SqL.of upd_same⟩, p, _, _, rfl, rfl, upd_same, (by rw [wv_len]; simp only [List.length_append, List.length_cons, List.length_nil]; omega), ?_⟩
        refine ⟨_, rfl, fun c o z n => ?_, ?_⟩
        · rw [upd_ne n, upd_ne n]; exact g1 _ _ (e3 c o z n)
        · rw [upd_same]
          have ee : wv (acc ++ en.word ++ [32] ++ Ks295.decimal 8 en.count) ++ [V.int 10] = wv (acc ++ lineOf en) := by
            have : acc ++ lineOf en = (acc ++ en.word ++ [32] ++ Ks295.decimal 8 en.count) ++ [10] := by unfold lineOf; simp
            rw [this, wv_app (acc ++ en.word ++ [32] ++ Ks295.decimal 8 en.count)]; rfl
          rw [ee]
    · rintro σ H' ⟨v, rfl, e, hpl⟩
      rw [List.length_map, ← len_l, List.take_length] at hpl
      have tab3 : Tab T H' := by
        have nT : T ≠ p := Ne.symm (SameT.ne f2 (keep3 hp1 fun q z => nomatch z) fun q z => nomatch z)
        rcases f2 with q | ⟨c, q, q'⟩
        · exact .inl (e _ _ q nT)
        · exact .inr ⟨c, e _ _ q nT, e _ _ q' (ne_of q' (keep3 hp1 fun q z => nomatch z) fun z => nomatch z)⟩
      refine ⟨_, rfl, k H' p (fun b o z n => ?_) tab3 hp hpl⟩
      exact e b o (f1 b o (sm b o z) n) (ne_of_none z hp)
end
end Wk
namespace Wk
open PySem PySem.Spec PyProof.Rows L2
section
variable {P : Program} {w : World} {K : PySem.W.Frag} {mg : Str → Option Value} {base : Heap}
theorem dp_ints {H : Hp} : ∀ v : List Nat, DpAll K H (wv v) (v.map fun (b : Nat) => PyData.int (b : Int))
  | [] => .nil
  | b :: v => .cons (.int _) (dp_ints v)
theorem pd_ints (v : List Nat) : (v.map fun (b : Nat) => PyData.int (b : Int)) = (wi v).map PyData.int := by unfold wi; rw [List.map_map]; rfl
theorem shaped_ints (v : List Nat) : SeqAt.shaped (.list (v.map fun (b : Nat) => PyData.int (b : Int))) = true := by
  rw [pd_ints]
  unfold SeqAt.shaped
  rw [Bool.and_eq_true]
  refine ⟨?_, decide_eq_true ?_⟩
  · simp only [PyData.canLay0, canLayAll_ints]
  · simp only [PyData.depth, depthAll_ints]
    decide
theorem eqv_ints : ∀ v u : List Nat, PyData.eqv (.list (v.map fun (b : Nat) => PyData.int (b : Int))) (.list (u.map fun (b : Nat) => PyData.int (b : Int))) = (v == u)
  | [], [] => by simp [PyData.eqv, PyData.eqvAll]
  | [], _ :: _ => by simp [PyData.eqv, PyData.eqvAll]
  | _ :: _, [] => by simp [PyData.eqv, PyData.eqvAll]
  | a :: v, b :: u => by
    have ih := eqv_ints v u
    simp only [PyData.eqv] at ih
    simp only [List.map_cons, PyData.eqv, PyData.eqvAll, ih]
    by_cases q : a = b
    · subst q; simp
    · have : ((a : Int) == (b : Int)) = false := beq_eq_false_iff_ne.mpr (by omega)
      rw [this]
      simp [q]
theorem lc_keysT {d : Addr} {o : Obj} {kvs : List (List Key × V)} {g : TG} {tt : TT} {te : TE} {vs : List Nat} {σ : L2.St} {H1 : Hp} {D : Addr} {Qd : Hp → Prop} (Pv : Nat → Hp → Prop) (h0 : Pv 0 (upd H1 D (.lst []))) (hl : ∀ i H, i ≤ kvs.length → Pv i H → H d = some (.frz o (.dT kvs)))
    (hs : ∀ i k v q H, kvs[i]? = some (k, v) → H q = some (.tup (k.map kV)) → Pv i H → g (.ref q) (wipe σ vs) H fun σ2 H2 => wipe σ2 vs = wipe σ vs ∧ tt σ2 H2 fun b H3 =>
      if b = true then te σ2 H3 fun y H4 => ∃ acc, H4 D = some (.lst acc) ∧ acc.length < sizeLine ∧ Pv (i + 1) (upd H4 D (.lst (acc ++ [y]))) else Pv (i + 1) H3) (hd : ∀ H, Pv kvs.length H → Qd H) :
    ∃ W : Nat → Nat → Hp → Prop, (∃ m, W 0 m (upd H1 D (.lst []))) ∧ ∀ i m H, W i m H →
      ((Itkt d o kvs).stop i H ∧ Qd H) ∨ ((Itkt d o kvs).go i H ∧ ∃ Nx : Hp → Prop, (∀ H', Nx H' → ∃ m', m' < m ∧ W (i + 1) m' H') ∧ ∀ x H', (Itkt d o kvs).yld i H x H' → g x (wipe σ vs) H' fun σ2 H2 => wipe σ2 vs = wipe σ vs ∧ tt σ2 H2 fun b H3 =>
        if b = true then te σ2 H3 fun y H4 => ∃ acc, H4 D = some (.lst acc) ∧ acc.length < sizeLine ∧ Nx (upd H4 D (.lst (acc ++ [y]))) else Nx H3) := by
  refine ⟨fun i m H => m = kvs.length - i ∧ i ≤ kvs.length ∧ Pv i H, ⟨kvs.length, by simp, Nat.zero_le _, h0⟩, ?_⟩
  rintro i m H ⟨rfl, hi, p⟩
  have q := hl i H hi p
  by_cases hlt : i < kvs.length
  · refine .inr ⟨⟨q, hlt⟩, Pv (i + 1), fun H' p' => ⟨kvs.length - (i + 1), by omega, rfl, hlt, p'⟩, fun x H' y => ?_⟩
    obtain ⟨e, k, v, b, h1, h2, h3⟩ := y
    subst e h2
    exact hs i k v b _ h1 h3 p
  · have e : i = kvs.length := by omega
    subst e
    exact .inl ⟨⟨q, Nat.le_refl _⟩, hd H p⟩
def spWeight (K : PySem.W.Frag) : Sp := fun vs H Q _ => ∃ (a : Addr) (v : List Nat) (c t : Nat), vs = [.ref a, .int (c : Int), .int (t : Int)] ∧ SqT K H a (wv v) ∧ 1 ≤ v.length ∧ t < 2 ^ 62 ∧ ∀ H', Same H H' → Q (.int ((c * t ^ (v.length - 1) : Nat) : Int)) H'
theorem scWeight : FnScope ["word", "count", "total", "weight", "letter"] ["word", "count", "total"] (defScope sWeight) := ⟨rfl, rfl, rfl, by decide +kernel, rfl, by decide +kernel, by decide +kernel⟩
theorem ok_weight {f : Addr} {fd : FuncData} (F : Fun K "weight_of" "weight_of" sWeight f fd) : FnOk P w K mg base CX0 1 f fd ["word", "count", "total"] (spWeight K) := by
  refine F.ok scWeight (fun vs H Q E h => ?_) (fun cdv A outer s H vs Q E hr h => ?_)
  · obtain ⟨a, v, c, t, rfl, _⟩ := h
    rfl
  · obtain ⟨a, v, c, t, rfl, hs, hl, ht, k⟩ := h
    refine ⟨_, pss_cons (ps_set (i := 3) scWeight.nd rfl (Or.inl rfl) (pv 1))
      (pss_cons (ps_for PassesOwn.never rfl (pi_tup (pe_slice sl_tup (pv 0) (po_some pe_int) po_none)) (pg_name (i := 4) scWeight.nd rfl (Or.inl rfl)) (pss_one (ps_aug (i := 3) scWeight.nd rfl (Or.inl rfl) (pv 2) iop_mul)))
      (pss_one (ps_ret (pv 3)))), ?_⟩
    refine ⟨_, rfl, _, rfl, _, rfl, a, _, rfl, hs, ?_, fun p hp => ?_⟩
    · rintro ⟨z, _⟩
      have e : HT.sIx (wv v).length 0 (some ((1 : Nat) : Int)) = min 1 (wv v).length := HT.sIx_nat _ _ _
      have z' : HT.sIx (wv v).length 0 (some ((1 : Nat) : Int)) = 0 := z
      rw [e, wv_len] at z'
      omega
    have ec : cutV (wv v) (some 1) none = wv (v.drop 1) := cut_from v 1
    rw [ec]
    have hp1 : (upd H p (.tup (wv (v.drop 1)))) p = some (.tup (wv (v.drop 1))) := upd_same
    have s1 : Same H (upd H p (.tup (wv (v.drop 1)))) := same_new hp
    generalize upd H p (.tup (wv (v.drop 1))) = H1 at hp1 s1
    refine ⟨p, rfl, ⟨_, SqT.of hp1⟩, for_tup (K := K) (a := p) (xs := wv (v.drop 1)) (fun i σ H' => ∃ u : Option V, σ = [some (.ref a), some (.int (c : Int)), some (.int (t : Int)), some (.int ((c * t ^ i : Nat) : Int)), u] ∧ H' = H1) ⟨none, by rw [show c * t ^ 0 = c by simp] <;> rfl, rfl⟩ ?_ ?_ ?_⟩
    · rintro i σ H' _ ⟨_, _, rfl⟩
      exact SqT.of hp1
    · rintro i y σ H' hi ⟨u, rfl, rfl⟩
      refine ⟨_, rfl, _, rfl, _, _, rfl, rfl, .inr ⟨by omega, by omega⟩, some y, ?_, rfl⟩
      have e : ((c * t ^ i : Nat) : Int) * (t : Int) = ((c * t ^ (i + 1) : Nat) : Int) := by
        rw [Nat.pow_succ, ← Nat.mul_assoc]; exact (Int.natCast_mul _ _).symm
      show [some (V.ref a), some (V.int (c : Int)), some (V.int (t : Int)), some (V.int (((c * t ^ i : Nat) : Int) * (t : Int))), some y] = _
      rw [e]
    · rintro σ H' ⟨u, rfl, rfl⟩
      have := k H' s1
      rw [wv_len, List.length_drop]
      exact ⟨_, rfl, this⟩
def Choices (L : Addr) (H : Hp) (cs : List Addr) (D : List Ks295.Entry) (t : Nat) : Prop := cs.length = D.length ∧ ∀ (i : Nat) (c : Addr) (e : Ks295.Entry), cs[i]? = some c → D[i]? = some e → ∃ wa ka, H c = some (.tup [.ref wa, .ref ka, .int (wOf t e : Nat)]) ∧ H wa = some (.tup (wv e.word)) ∧ H ka = some (.lst (wv (Ks295.keys e.word))) ∧ ka ≠ L
theorem Choices.mono {L : Addr} {H H' : Hp} {cs : List Addr} {D : List Ks295.Entry} {t : Nat} (h : Choices L H cs D t) (e : Same H H') : Choices L H' cs D t := ⟨h.1, fun i c x h1 h2 => by
  obtain ⟨wa, ka, q1, q2, q3, q4⟩ := h.2 i c x h1 h2
  exact ⟨wa, ka, e _ _ q1, e _ _ q2, e _ _ q3, q4⟩⟩
theorem Choices.updL {L : Addr} {H : Hp} {cs : List Addr} {D : List Ks295.Entry} {t : Nat} {xs ys : List V} (h : Choices L H cs D t) (hL : H L = some (.lst xs)) : Choices L (upd H L (.lst ys)) cs D t := ⟨h.1, fun i c x h1 h2 => by
  obtain ⟨wa, ka, q1, q2, q3, q4⟩ := h.2 i c x h1 h2
  refine ⟨wa, ka, ?_, ?_, ?_, q4⟩
  · rw [upd_ne (ne_of q1 hL fun z => nomatch z)]; exact q1
  · rw [upd_ne (ne_of q2 hL fun z => nomatch z)]; exact q2
  · rw [upd_ne q4]; exact q3⟩
theorem Choices.snoc {L : Addr} {H : Hp} {cs : List Addr} {D : List Ks295.Entry} {t : Nat} {c wa ka : Addr} {e : Ks295.Entry} (h : Choices L H cs D t) (q1 : H c = some (.tup [.ref wa, .ref ka, .int (wOf t e : Nat)])) (q2 : H wa = some (.tup (wv e.word))) (q3 : H ka = some (.lst (wv (Ks295.keys e.word)))) (q4 : ka ≠ L) : Choices L H (cs ++ [c]) (D ++ [e]) t := by
  refine ⟨by simp [h.1], fun i b u h1 h2 => ?_⟩
  by_cases hi : i < cs.length
  · rw [List.getElem?_append_left hi] at h1
    rw [List.getElem?_append_left (by rw [← h.1]; exact hi)] at h2
    exact h.2 i b u h1 h2
  · rw [List.getElem?_append_right (by omega)] at h1
    rw [List.getElem?_append_right (by rw [← h.1]; omega), ← h.1] at h2
    cases z : i - cs.length with
    | zero =>
      rw [z] at h1 h2
      have e1 : c = b := Option.some.inj h1
      have e2 : e = u := Option.some.inj h2
      rw [← e1, ← e2]; exact ⟨wa, ka, q1, q2, q3, q4⟩
    | succ n => rw [z] at h1; simp at h1
def spWeighted : Sp := fun vs H Q _ => ∃ (d : Addr) (D l : List Ks295.Entry), vs = [.ref d] ∧ H d = some (.dT (dv D)) ∧ Rel D l ∧ Good D ∧ D.length ≤ 64 ∧ ∀ (H' : Hp) (L : Addr) (cs : List Addr), Same H H' → H L = none → H' L = some (.lst (cs.map V.ref)) → Choices L H' cs D (Ks296.total l) → Q (.ref L) H'
theorem scWeighted : FnScope ["counts", "total", "word"] ["counts"] (defScope sWeighted) := ⟨rfl, rfl, rfl, by decide +kernel, rfl, by decide +kernel, by decide +kernel⟩
theorem ok_weighted {f fK fW : Addr} {fd fdK fdW : FuncData} (F : Fun K "weighted" "weighted" sWeighted f fd) (W : TxW K mg) (GK : FnOk P w K mg base CX0 1 fK fdK ["word"] (spKeys K)) (kK : PySem.W.keepIn K (.ref fK) = true) (mK : mg "keys_of" = some (.ref fK)) (bK : Binds K fdK ["word"] [])
    (GW : FnOk P w K mg base CX0 1 fW fdW ["word", "count", "total"] (spWeight K)) (kW : PySem.W.keepIn K (.ref fW) = true) (mW : mg "weight_of" = some (.ref fW)) (bW : Binds K fdW ["word", "count", "total"] []) : FnOk P w K mg base CX0 2 f fd ["counts"] spWeighted := by
  refine F.ok scWeighted (fun vs H Q E h => ?_) (fun cdv A outer s H vs Q E hr h => ?_)
  · obtain ⟨d, D, l, rfl, _⟩ := h
    rfl
  · obtain ⟨d, D, l, rfl, hd, rel, good, h64, k⟩ := h
    have hu := hu_of hr
    have line : sizeLine = 16777216 := sizeLine_eq
    refine ⟨_, pss_cons (ps_set (i := 1) scWeighted.nd rfl (Or.inr rfl) (pe_callB (cr_sumV rfl) (by rfl) W.sum PyProof.Rows.boot_sum (pa_cons (pe_values (pv 0)) pa_nil)))
      (pss_one (ps_lock (ps_ret (pe_lc (own := [("word", 2)]) rfl scWeighted.nd (pi_keys (pv 0)) (show BlkOk ["counts", "total", "word"] (defScope sWeighted) _ [("word", 2)] from blkOk_by (by decide +kernel)) (fun s H C cl fp => pg_name (i := 2) scWeighted.nd rfl (Or.inl rfl)) (fun s H C cl fp => pts_nil)
        (fun s H C cl fp => pe_tup (pa_cons (pv 2) (pa_cons (pe_call GK hr rfl mK kK bK .nil pass0 (pa_cons (pv 2) pa_nil)) (pa_cons (pe_call GW hr rfl mW kW bW .nil pass0 (pa_cons (pv 2) (pa_cons (pe_dget hu (pv 0) (pv 2) (fun _ _ => rfl)) (pa_cons (pv 1) pa_nil)))) pa_nil)))))))), ?_⟩
    have et := total_eq rel
    obtain ⟨_, _, _, tle⟩ := rel.parts good h64
    refine ⟨_, rfl, d, _, rfl, hd, fun p hp => ?_⟩
    have npd : d ≠ p := ne_of_none hd hp
    refine ⟨p, d, _, D.map Ks295.Entry.count, rfl, upd_same, by rw [upd_ne npd]; exact hd, ?_, by rw [← et]; omega, ?_⟩
    · unfold dv; rw [List.map_map, List.map_map]; rfl
    rw [← et]
    have s0 : Same H (upd H p (ViewExt p d)) := same_new hp
    generalize upd H p (ViewExt p d) = H0 at s0
    have hd0 := s0 _ _ hd
    refine ⟨d, _, hd0, trivial, fun od => ?_⟩
    have hd1 : (upd H0 d (.frz od (.dT (dv D)))) d = some (.frz od (.dT (dv D))) := upd_same
    have back : ∀ b o, H0 b = some o → b ≠ d → (upd H0 d (.frz od (.dT (dv D)))) b = some o := fun b o e n => by rw [upd_ne n]; exact e
    have forth : ∀ b, (upd H0 d (.frz od (.dT (dv D)))) b = none → H0 b = none := fun b e => by
      by_cases z : b = d
      · rw [z, upd_same] at e; cases e
      · rw [upd_ne z] at e; exact e
    generalize upd H0 d (.frz od (.dT (dv D))) = H1 at hd1 back forth
    refine ⟨_, rfl, d, od, rfl, .inr ⟨_, hd1, fun L hL => lc_keysT (d := d) (o := od) (kvs := dv D) (fun i H' => ∃ cs : List Addr, Same H1 H' ∧ H' L = some (.lst (cs.map V.ref)) ∧ Choices L H' cs (D.take i) (Ks296.total l))
      ⟨[], same_new hL, upd_same, rfl, fun i c e h => by simp at h⟩ (fun i H' _ p => let ⟨_, e, _⟩ := p; e _ _ hd1) ?_ ?_⟩⟩
    · rintro i kk v q H' hi hq ⟨cs, e1, e2, e3⟩
      obtain ⟨e, he, rfl, rfl⟩ := dv_at hi
      rw [kw_kV] at hq
      have hin := List.mem_of_getElem? he
      have hg := good e hin
      have hw1 := hg.1
      rw [isWord_eq, Bool.and_eq_true, Bool.and_eq_true] at hw1
      have hwl := word_len hg.1
      refine ⟨rfl, yes_of ⟨_, rfl, _, rfl, q, e.word, rfl, SqT.of hq, hw1.2, (by omega), fun H2 ka s2 hka hka2 => ?_⟩⟩
      have nkL : ka ≠ L := fun z => by rw [z, e2] at hka; cases hka
      have hd2 := s2 _ _ (e1 _ _ hd1)
      have hq2 := s2 _ _ hq
      have dg : DGet H2 d (.ref q) (some (.int (e.count : Int))) := by
        refine .inr ⟨dv D, kw e.word, q, .inr ⟨od, hd2⟩, rfl, by rw [kw_kV]; exact hq2, ?_⟩
        rw [dv_val, lookE_mem rel.nd hin]; rfl
      refine ⟨_, rfl, _, rfl, _, rfl, d, _, rfl, dg, _, rfl, q, e.word, e.count, Ks296.total l, rfl, SqT.of hq2, hwl.1, (by omega), fun H3 s3 => ?_⟩
      refine ⟨(by show 3 ≤ sizeLine; rw [line]; decide), fun c hc => ?_⟩
      have s23 := s2.trans s3
      have eL : H3 L = some (.lst (cs.map V.ref)) := s23 _ _ e2
      have ncL : c ≠ L := fun z => by rw [z, eL] at hc; cases hc
      have eL2 : (upd H3 c (.tup [.ref q, .ref ka, .int ((e.count * Ks296.total l ^ (e.word.length - 1) : Nat) : Int)])) L = some (.lst (cs.map V.ref)) := by rw [upd_ne (Ne.symm ncL)]; exact eL
      have s4 : Same H' (upd H3 c (.tup [.ref q, .ref ka, .int ((e.count * Ks296.total l ^ (e.word.length - 1) : Nat) : Int)])) := same_upd s23 (s23.free hc)
      have hc4 : (upd H3 c (.tup [.ref q, .ref ka, .int ((e.count * Ks296.total l ^ (e.word.length - 1) : Nat) : Int)])) c = some (.tup [.ref q, .ref ka, .int (wOf (Ks296.total l) e : Nat)]) := upd_same
      have hka4 : (upd H3 c (.tup [.ref q, .ref ka, .int ((e.count * Ks296.total l ^ (e.word.length - 1) : Nat) : Int)])) ka = some (.lst (wv (Ks295.keys e.word))) := by
        have := s3 _ _ hka2
        rw [upd_ne (ne_of_none this hc)]; exact this
      generalize upd H3 c (.tup [.ref q, .ref ka, .int ((e.count * Ks296.total l ^ (e.word.length - 1) : Nat) : Int)]) = H4 at eL2 s4 hc4 hka4
      have lenc : cs.length < sizeLine := by rw [e3.1, List.length_take]; omega
      refine ⟨_, eL2, by rw [List.length_map]; exact lenc, cs ++ [c], same_upd (e1.trans s4) hL, by rw [upd_same, List.map_append] <;> rfl, ?_⟩
      rw [take_one he]
      exact ((e3.mono s4).snoc hc4 (s4 _ _ hq) hka4 nkL).updL eL2
    · rintro H' ⟨cs, e1, e2, e3⟩
      rw [dv_len, List.take_length] at e3
      refine ⟨e1 _ _ hd1, ?_⟩
      have nLd : L ≠ d := fun z => by rw [z, hd1] at hL; cases hL
      have sH : Same H (upd H' d (.dT (dv D))) := fun b o e => by
        by_cases z : b = d
        · subst z
          rw [upd_same, ← hd, e]
        · rw [upd_ne z]; exact e1 _ _ (back _ _ (s0 _ _ e) z)
      refine k _ L cs sH (s0.free (forth _ hL)) (by rw [upd_ne nLd]; exact e2) ⟨e3.1, fun i c x h1 h2 => ?_⟩
      obtain ⟨wa, ka, q1, q2, q3, q4⟩ := e3.2 i c x h1 h2
      have hdz := e1 _ _ hd1
      refine ⟨wa, ka, ?_, ?_, ?_, q4⟩
      · rw [upd_ne (ne_of q1 hdz fun z => nomatch z)]; exact q1
      · rw [upd_ne (ne_of q2 hdz fun z => nomatch z)]; exact q2
      · rw [upd_ne (ne_of q3 hdz fun z => nomatch z)]; exact q3
def RowAt (K : PySem.W.Frag) (H : Hp) (a : Addr) (vs : List (List Nat)) : Prop := ∃ as : List Addr, SqT K H a (as.map V.ref) ∧ WordsAt H as vs ∧ NoD K H a
def TriAt (K : PySem.W.Frag) (H : Hp) (a : Addr) (m : Tri) : Prop := ∃ p, SqT K H a [.int (-(m.wt : Int)), .int (m.n : Int), .ref p] ∧ RowAt K H p m.ws
theorem RowAt.mono {H H' : Hp} {a : Addr} {vs : List (List Nat)} (h : RowAt K H a vs) (e : Same H H') : RowAt K H' a vs := by
  obtain ⟨as, h1, h2, h3⟩ := h
  exact ⟨as, e.tupl h1, h2.mono fun b v z => e _ _ z, h3.mono fun o u z => e _ _ z⟩
theorem TriAt.mono {H H' : Hp} {a : Addr} {m : Tri} (h : TriAt K H a m) (e : Same H H') : TriAt K H' a m := by
  obtain ⟨p, h1, h2⟩ := h
  exact ⟨p, e.tupl h1, h2.mono e⟩
theorem TriAt.k {H : Hp} {a : Addr} {m : Tri} (h : TriAt K H a m) : TriK K H a m := by
  obtain ⟨p, h1, as, h2, h3, _⟩ := h
  exact ⟨p, h1, as, h2, h3.k⟩
def spFirst (K : PySem.W.Frag) : Sp := fun vs H Q _ => ∃ (x c : Addr) (v : List Nat) (wt : Nat) (m : Tri), vs = [.ref x, .int (wt : Int), .ref c] ∧ H x = some (.tup (wv v)) ∧ TriAt K H c m ∧ m.wt < 2 ^ 2000 ∧ wt < 2 ^ 2000 ∧ m.ws.length ≤ 1000 ∧
  ∀ H' p, Same H H' → H p = none → H' p ≠ none → TriAt K H' p ⟨m.wt * wt, m.n + 1, v :: m.ws⟩ → Q (.ref p) H'
theorem scFirst : FnScope ["word", "weight", "rest"] ["word", "weight", "rest"] (defScope sFirst) := ⟨rfl, rfl, rfl, by decide +kernel, rfl, by decide +kernel, by decide +kernel⟩
theorem bits_2000 {n : Nat} (h : n < 2 ^ 2000) : Builtin.Int.intBits (n : Int) ≤ 2 ^ 20 := Nat.le_trans (bits_le (k := 2000) (show ((n : Int)).natAbs < 2 ^ 2000 from h)) (by decide)
theorem bits_n2000 {n : Nat} (h : n < 2 ^ 2000) : Builtin.Int.intBits (-(n : Int)) ≤ 2 ^ 20 := Nat.le_trans (bits_le (k := 2000) (by rw [Int.natAbs_neg]; exact h)) (by decide)
theorem ok_first {f : Addr} {fd : FuncData} (F : Fun K "with_first_word" "with_first_word" sFirst f fd) : FnOk P w K mg base CX0 1 f fd ["word", "weight", "rest"] (spFirst K) := by
  refine F.ok scFirst (fun vs H Q E h => ?_) (fun cdv A outer s H vs Q E hr h => ?_)
  · obtain ⟨x, c, v, wt, m, rfl, _⟩ := h
    rfl
  · obtain ⟨x, c, v, wt, m, rfl, hx, ⟨q, hc, as, hq, hw, hnd⟩, b1, b2, b3, k⟩ := h
    have line : sizeLine = 16777216 := sizeLine_eq
    refine ⟨_, pss_one (ps_ret (pe_tup (pa_cons (pe_op op_mulB (pe_ix ix_tup (pv 2) pe_int (fun _ _ => rfl)) (pv 1)) (pa_cons (pe_op op_add (pe_ix ix_tup (pv 2) pe_int (fun _ _ => rfl)) pe_int) (pa_cons (pe_op op_catTF (pe_tupF (pa_cons (pv 0) pa_nil)) (pe_ix ix_tup (pv 2) pe_int (fun _ _ => rfl))) pa_nil))))), ?_⟩
    refine ⟨_, rfl, c, _, _, _, rfl, rfl, hc, at_of (j := 0) rfl rfl, _, rfl, _, _, rfl, rfl, ⟨bits_n2000 b1, bits_2000 b2⟩, ?_⟩
    refine ⟨_, rfl, c, _, _, _, rfl, rfl, hc, at_of (j := 1) rfl rfl, _, _, rfl, rfl, ?_⟩
    refine ⟨_, rfl, (by show 1 ≤ sizeLine; rw [line]; decide), fun t ot ht hot => ?_⟩
    have s1 : Same H (upd H t (.frz ot (.tup [.ref x]))) := same_new ht
    have ht1 : (upd H t (.frz ot (.tup [.ref x]))) t = some (.frz ot (.tup [.ref x])) := upd_same
    generalize upd H t (.frz ot (.tup [.ref x])) = H1 at s1 ht1
    refine ⟨_, rfl, c, _, _, _, rfl, rfl, s1.tupl hc, at_of (j := 2) rfl rfl, t, q, _, _, rfl, rfl, .inl (.inr ⟨ot, ht1⟩), s1.tupl hq, (by simp), (by rw [List.length_map, hw.1, line]; simp only [List.length_cons, List.length_nil]; omega), fun hn => ?_, fun hn p op hp hop => ?_⟩
    · have ea : as = [] := by simpa using hn
      subst ea
      have ev : m.ws = [] := List.length_eq_zero_iff.mp hw.1.symm
      refine ⟨(by show 3 ≤ sizeLine; rw [line]; decide), fun r hr' => ?_⟩
      have s2 := same_new (o := HO.tup [.int (-(m.wt : Int) * (wt : Int)), .int ((m.n : Int) + 1), .ref t]) hr'
      refine k _ r (s1.trans s2) (s1.free hr') (by rw [upd_same]; simp) ⟨t, SqT.of ?_, [x], .inl (.inr ⟨ot, s2 _ _ ht1⟩), ?_, .inl ⟨ot, _, s2 _ _ ht1, hot⟩⟩
      · rw [upd_same]
        show some (HO.tup [V.int (-(m.wt : Int) * (wt : Int)), V.int ((m.n : Int) + 1), V.ref t]) = some (HO.tup [V.int (-((m.wt * wt : Nat) : Int)), V.int ((m.n + 1 : Nat) : Int), V.ref t])
        have e1 : -(m.wt : Int) * (wt : Int) = -((m.wt * wt : Nat) : Int) := by rw [Int.neg_mul, Int.natCast_mul]
        have e2 : (m.n : Int) + 1 = ((m.n + 1 : Nat) : Int) := by omega
        rw [e1, e2]
      · rw [ev]
        exact WordsAt.nil.cons (s2 _ _ (s1 _ _ hx))
    · refine ⟨(by show 3 ≤ sizeLine; rw [line]; decide), fun r hr' => ?_⟩
      have hp2 : (upd H1 p (.frz op (.tup ([.ref x] ++ as.map V.ref)))) p = some (.frz op (.tup ([.ref x] ++ as.map V.ref))) := upd_same
      have sp := same_new (o := HO.frz op (.tup ([.ref x] ++ as.map V.ref))) hp
      generalize upd H1 p (.frz op (.tup ([.ref x] ++ as.map V.ref))) = H2 at hr' hp2 sp
      have s2 := same_new (o := HO.tup [.int (-(m.wt : Int) * (wt : Int)), .int ((m.n : Int) + 1), .ref p]) hr'
      have s3 := (s1.trans sp).trans s2
      refine k _ r s3 ((s1.trans sp).free hr') (by rw [upd_same]; simp) ⟨p, SqT.of ?_, x :: as, .inl (.inr ⟨op, by rw [s2 _ _ hp2] <;> rfl⟩), (hw.mono fun b u z => s3 _ _ z).cons (s3 _ _ hx), .inl ⟨op, _, s2 _ _ hp2, hop⟩⟩
      rw [upd_same]
      show some (HO.tup [V.int (-(m.wt : Int) * (wt : Int)), V.int ((m.n : Int) + 1), V.ref p]) = some (HO.tup [V.int (-((m.wt * wt : Nat) : Int)), V.int ((m.n + 1 : Nat) : Int), V.ref p])
      have e1 : -(m.wt : Int) * (wt : Int) = -((m.wt * wt : Nat) : Int) := by rw [Int.neg_mul, Int.natCast_mul]
      have e2 : (m.n : Int) + 1 = ((m.n + 1 : Nat) : Int) := by omega
      rw [e1, e2]
end
end Wk
namespace Wk
open PySem PySem.Spec PyProof.Rows L2
section
variable {P : Program} {w : World} {K : PySem.W.Frag} {mg : Str → Option Value} {base : Heap}
def cut2 (v : List Nat) (a b : Nat) : List Nat := (v.drop a).take (b - a)
theorem cut_both (v : List Nat) {a b : Nat} (h1 : a ≤ b) (h2 : b ≤ v.length) : cutV (wv v) (some (a : Int)) (some (b : Int)) = wv (cut2 v a b) := by
  unfold cutV cut2
  rw [HT.sIx_nat, HT.sIx_nat, wv_len, Nat.min_eq_left (show a ≤ v.length by omega), Nat.min_eq_left h2, wv_take, wv_drop]
def BestAt (K : PySem.W.Frag) (H : Hp) (kvs : List (Key × V)) (t : Nat) (l : List Ks295.Entry) (ks : List Nat) (i : Nat) : Prop := ∀ j : Nat,
  (j < i ∨ ks.length < j → valV kvs (Sum.inl (j : Int)) = none) ∧
  (i ≤ j → j ≤ ks.length → (bestOf t l (ks.drop j) = none → valV kvs (Sum.inl (j : Int)) = none) ∧ ∀ u, bestOf t l (ks.drop j) = some u → ∃ c, valV kvs (Sum.inl (j : Int)) = some (.ref c) ∧ TriAt K H c (triOf t (ks.length - j) u))
theorem BestAt.mono {H H' : Hp} {kvs : List (Key × V)} {t : Nat} {l : List Ks295.Entry} {ks : List Nat} {i : Nat} (h : BestAt K H kvs t l ks i) (e : ∀ c m, TriAt K H c m → TriAt K H' c m) : BestAt K H' kvs t l ks i := fun j =>
  ⟨(h j).1, fun h1 h2 => ⟨((h j).2 h1 h2).1, fun u hu => let ⟨c, q1, q2⟩ := ((h j).2 h1 h2).2 u hu; ⟨c, q1, e c _ q2⟩⟩⟩
def WaysAt (K : PySem.W.Frag) (H : Hp) (as : List Addr) (ms : List Tri) : Prop := as.length = ms.length ∧ ∀ (i : Nat) (a : Addr) (m : Tri), as[i]? = some a → ms[i]? = some m → TriAt K H a m
theorem WaysAt.snoc {H : Hp} {as : List Addr} {ms : List Tri} {a : Addr} {m : Tri} (h : WaysAt K H as ms) (e : TriAt K H a m) : WaysAt K H (as ++ [a]) (ms ++ [m]) := by
  refine ⟨by simp [h.1], fun i b u h1 h2 => ?_⟩
  by_cases hi : i < as.length
  · rw [List.getElem?_append_left hi] at h1
    rw [List.getElem?_append_left (by rw [← h.1]; exact hi)] at h2
    exact h.2 i b u h1 h2
  · rw [List.getElem?_append_right (by omega)] at h1
    rw [List.getElem?_append_right (by rw [← h.1]; omega), ← h.1] at h2
    cases z : i - as.length with
    | zero =>
      rw [z] at h1 h2
      have e1 : a = b := Option.some.inj h1
      have e2 : m = u := Option.some.inj h2
      rw [← e1, ← e2]; exact e
    | succ n => rw [z] at h1; simp at h1
theorem ways_take {t : Nat} {l D : List Ks295.Entry} {ks : List Nat} {i : Nat} {e : Ks295.Entry} (h : D[i]? = some e) : ways t l (D.take (i + 1)) ks = ways t l (D.take i) ks ++ ways t l [e] ks := by
  unfold ways
  rw [take_one h, List.filterMap_append]
theorem tri_bound {t : Nat} {l : List Ks295.Entry} {n : Nat} {u : Ks296.Way} (ok : WayOk t l n u) (ht : t ≤ 64000000) (hn : n ≤ 40) : (triOf t n u).wt < 2 ^ 2000 ∧ (triOf t n u).ws.length ≤ 1000 := by
  have h1 : u.product * t ^ (n - u.many) ≤ t ^ n := by
    have e : t ^ n = t ^ u.many * t ^ (n - u.many) := by rw [← Nat.pow_add]; congr 1; have := ok.le; omega
    rw [e]
    exact Nat.mul_le_mul_right _ ok.bound
  have h2 : t ^ n ≤ 64000000 ^ n := Nat.pow_le_pow_left ht n
  have h3 : 64000000 ^ n ≤ 64000000 ^ 40 := Nat.pow_le_pow_right (by decide) hn
  refine ⟨Nat.lt_of_le_of_lt (Nat.le_trans h1 (Nat.le_trans h2 h3)) (by decide), ?_⟩
  show u.words.length ≤ 1000
  rw [← ok.len]
  have := ok.le
  omega
theorem w_bound {t : Nat} {e : Ks295.Entry} (ht : t ≤ 64000000) (hc : e.count ≤ 1000000) (hl : e.word.length ≤ 12) : wOf t e < 2 ^ 2000 := by
  unfold wOf
  have h2 : t ^ (e.word.length - 1) ≤ 64000000 ^ (e.word.length - 1) := Nat.pow_le_pow_left ht _
  have h3 : 64000000 ^ (e.word.length - 1) ≤ 64000000 ^ 11 := Nat.pow_le_pow_right (by decide) (by omega)
  have h4 : e.count * t ^ (e.word.length - 1) ≤ 1000000 * 64000000 ^ 11 := Nat.mul_le_mul hc (Nat.le_trans h2 h3)
  exact Nat.lt_of_le_of_lt h4 (by decide)
def spLikely (K : PySem.W.Frag) : Sp := fun vs H Q _ => ∃ (r d : Addr) (ks : List Nat) (D l : List Ks295.Entry), vs = [.ref r, .ref d] ∧ SqL K H r (wv ks) ∧ ks.length ≤ 40 ∧ H d = some (.dT (dv D)) ∧ Rel D l ∧ Good D ∧ D.length ≤ 64 ∧
  ∀ (H' : Hp) (v : V), Same H H' → (Ks296.parted l ks = none → v = .non) → (∀ u, Ks296.parted l ks = some u → ∃ p, v = .ref p ∧ RowAt K H' p u.words) → Q v H'
theorem scLikely : FnScope ["row", "counts", "choices", "best", "start", "ways", "word", "keys", "weight", "end"] ["row", "counts"] (defScope sLikely) := ⟨rfl, rfl, rfl, by decide +kernel, rfl, by decide +kernel, by decide +kernel⟩
structure LkInv (K : PySem.W.Frag) (H0 H : Hp) (b : Addr) (t : Nat) (l : List Ks295.Entry) (ks : List Nat) (i : Nat) : Prop where
  same : Same H0 H
  best : ∃ kvs, H b = some (.dK kvs) ∧ BestAt K H kvs t l ks i ∧ kvs.length ≤ ks.length + 1 - i
theorem sqt_upd {H : Hp} {a x : Addr} {xs ys : List V} {o : HO} (h : SqT K H a xs) (hx : H x = some (.lst ys)) : SqT K (L2.upd H x o) a xs := by
  rcases h with (h | ⟨u, h⟩) | h
  · exact .inl (.inl (by rw [upd_ne (ne_of h hx fun z => nomatch z)]; exact h))
  · exact .inl (.inr ⟨u, by rw [upd_ne (ne_of h hx fun z => nomatch z)]; exact h⟩)
  · exact .inr h
theorem TriAt.updL {H : Hp} {a x : Addr} {m : Tri} {ys : List V} {o : HO} (h : TriAt K H a m) (hx : H x = some (.lst ys)) : TriAt K (L2.upd H x o) a m := by
  obtain ⟨p, h1, as, h2, h3, h4⟩ := h
  exact ⟨p, sqt_upd h1 hx, as, sqt_upd h2 hx, (h3.mono fun b v z => by rw [upd_ne (ne_of z hx fun y => nomatch y)]; exact z), h4.mono fun o u z => by rw [upd_ne (ne_of z hx fun y => nomatch y)]; exact z⟩
theorem sqt_updD {H : Hp} {a x : Addr} {xs : List V} {ys : List (Key × V)} {o : HO} (h : SqT K H a xs) (hx : H x = some (.dK ys)) : SqT K (L2.upd H x o) a xs := by
  rcases h with (h | ⟨u, h⟩) | h
  · exact .inl (.inl (by rw [upd_ne (ne_of h hx fun z => nomatch z)]; exact h))
  · exact .inl (.inr ⟨u, by rw [upd_ne (ne_of h hx fun z => nomatch z)]; exact h⟩)
  · exact .inr h
theorem TriAt.updD {H : Hp} {a x : Addr} {m : Tri} {ys : List (Key × V)} {o : HO} (h : TriAt K H a m) (hx : H x = some (.dK ys)) : TriAt K (L2.upd H x o) a m := by
  obtain ⟨p, h1, as, h2, h3, h4⟩ := h
  exact ⟨p, sqt_updD h1 hx, as, sqt_updD h2 hx, (h3.mono fun b v z => by rw [upd_ne (ne_of z hx fun y => nomatch y)]; exact z), h4.mono fun o u z => by rw [upd_ne (ne_of z hx fun y => nomatch y)]; exact z⟩
theorem ways_one (t : Nat) (l : List Ks295.Entry) (e : Ks295.Entry) (ks : List Nat) (st : Nat) : ways t l [e] (ks.drop st) = (if e.word.length ≤ ks.length - st ∧ (ks.drop st).take e.word.length = Ks295.keys e.word then (bestOf t l (ks.drop (st + e.word.length))).map fun u => (⟨(triOf t (ks.length - (st + e.word.length)) u).wt * wOf t e, u.many + 1, e.word :: u.words⟩ : Tri) else none).toList := by
  unfold ways
  rw [List.filterMap_cons, List.filterMap_nil, List.length_drop, List.drop_drop, Nat.sub_sub]
  split <;> rename_i h <;> rw [h] <;> rfl
theorem ok_likely {f fC fF : Addr} {fd fdC fdF : FuncData} (F : Fun K "likeliest_way" "likeliest_way" sLikely f fd) (W : TxW K mg) (GC : FnOk P w K mg base CX0 2 fC fdC ["counts"] spWeighted) (kC : PySem.W.keepIn K (.ref fC) = true) (mC : mg "weighted" = some (.ref fC)) (bC : Binds K fdC ["counts"] [])
    (GF : FnOk P w K mg base CX0 1 fF fdF ["word", "weight", "rest"] (spFirst K)) (kF : PySem.W.keepIn K (.ref fF) = true) (mF : mg "with_first_word" = some (.ref fF)) (bF : Binds K fdF ["word", "weight", "rest"] []) : FnOk P w K mg base CX0 3 f fd ["row", "counts"] (spLikely K) := by
  refine F.ok scLikely (fun vs H Q E h => ?_) (fun cdv A outer s H vs Q E hr h => ?_)
  · obtain ⟨r, d, ks, D, l, rfl, _⟩ := h
    rfl
  · obtain ⟨r, d, ks, D, l, rfl, hrow, h40, hd, rel, good, h64, k⟩ := h
    have hu := hu_of hr
    have hu64 := hr.units
    have hr1 : Room 1 _ := hr.mono (by decide)
    have line : sizeLine = 16777216 := sizeLine_eq
    obtain ⟨w0, w1, hw0, hw1, hnd⟩ := W.way0
    obtain ⟨pt1, pt2, pt3, tle⟩ := rel.parts good h64
    refine ⟨_, pss_cons (ps_set (i := 2) scLikely.nd rfl (Or.inl rfl) (pe_call GC hr rfl mC kC bC .nil pass0 (pa_cons (pv 1) pa_nil)))
      (pss_cons (ps_set (i := 3) scLikely.nd rfl (Or.inl rfl) (pe_disp (pps_cons (pe_callB call_len_seq (by rfl) W.len PySem.boot_len (pa_cons (pv 0) pa_nil)) (pe_gv hw0) pps_nil) rfl rfl (by simp) (by decide)))
      (pss_cons (ps_for PassesOwn.never rfl (pi_range3 (by rfl) W.range (pa_cons (pe_op op_sub (pe_callB call_len_seq (by rfl) W.len PySem.boot_len (pa_cons (pv 0) pa_nil)) pe_int) (pa_cons (pe_un un_neg pe_int) (pa_cons (pe_un un_neg pe_int) pa_nil)))) (pg_name (i := 4) scLikely.nd rfl (Or.inl rfl)) (pss_cons (ps_set (i := 5) scLikely.nd rfl (Or.inl rfl) (pe_lst pa_nil)) (pss_cons (ps_for PassesOwn.never rfl (pi_list (pv 2)) (pg_tup rfl (pgs_cons (pg_name (i := 6) scLikely.nd rfl (Or.inl rfl)) (pgs_cons (pg_name (i := 7) scLikely.nd rfl (Or.inl rfl)) (pgs_cons (pg_name (i := 8) scLikely.nd rfl (Or.inl rfl)) pgs_nil)))) (pss_cons (ps_set (i := 9) scLikely.nd rfl (Or.inl rfl) (pe_op op_add (pv 4) (pe_callB call_len_seq (by rfl) W.len PySem.boot_len (pa_cons (pv 7) pa_nil)))) (pss_one (ps_if (PW.pt (pw_and (pt_cmp (pc_din hu (pv 9) (pv 3))) (pw_and1 (pt_cmpR (op_eqD hu64) (pe_slice sl_list (pv 0) (po_some (pv 4)) (po_some (pv 9))) (pv 7) (nomark _))))) (pss_one (ps_expr (pe_bm PySem.F.plainAttrs_list PySem.F.slot_list_append PySem.F.type_list_append mt_append (pv 5) (pa_cons (pe_call GF hr1 rfl mF kF bF .nil pass0 (pa_cons (pv 6) (pa_cons (pv 8) (pa_cons (pe_dget hu (pv 3) (pv 9) (fun _ _ => rfl)) pa_nil)))) pa_nil)))) pss_nil)))) (pss_one (ps_if (pt_cmpR op_gt (pe_callB call_len_seq (by rfl) W.len PySem.boot_len (pa_cons (pv 5) pa_nil)) pe_int (nomark _)) (pss_one (ps_dput hu (pv 3) (pv 4) (pe_callB (cr_minT rfl hu64) (by rfl) W.min PyProof.Rows.boot_min (pa_cons (pv 5) pa_nil)) rfl)) pss_nil)))))
      (pss_one (ps_ret (pe_ifExp (pt_cmp (pc_din hu pe_int (pv 3))) (pe_ix ix_tup (pe_dget hu (pv 3) pe_int (fun _ _ => rfl)) pe_int (fun _ _ => rfl)) pe_non))))), ?_⟩
    refine ⟨_, rfl, d, D, l, rfl, hd, rel, good, h64, fun H1 L cs s1 hL hL1 hch => ?_⟩
    generalize et : Ks296.total l = t at hch pt1 pt2 tle
    intro b hb
    have hrow1 : SqL K H1 r (wv ks) := s1.seq hrow
    have sb := same_new (o := HO.dK []) hb
    refine ⟨_, rfl, r, _, rfl, .inl (sb.seq hrow1), upd_same, [(Sum.inl ((wv ks).length : Int), V.ref w0)], rfl, (by show 1 ≤ 15; decide), ?_⟩
    have e0 : mergeK [] [((Sum.inl ((wv ks).length : Int) : Key), V.ref w0)] = [(Sum.inl (ks.length : Int), V.ref w0)] := by rw [wv_len]; rfl
    rw [e0]
    have sb2 : Same H1 (upd (upd H1 b (.dK [])) b (.dK [(Sum.inl (ks.length : Int), V.ref w0)])) := same_upd (same_new hb) hb
    have hb2 : (upd (upd H1 b (.dK [])) b (.dK [(Sum.inl (ks.length : Int), V.ref w0)])) b = some (.dK [(Sum.inl (ks.length : Int), V.ref w0)]) := upd_same
    generalize upd (upd H1 b (.dK [])) b (.dK [(Sum.inl (ks.length : Int), V.ref w0)]) = H2 at sb2 hb2
    have I0 : LkInv K H1 H2 b t l ks ks.length := by
      refine ⟨sb2, _, hb2, fun j => ⟨fun hj => ?_, fun h1 h2 => ?_⟩, by simp⟩
      · exact (valV_neg (fun z => by have := Sum.inl.inj z; omega)).trans valV_nil
      · have ej : j = ks.length := by omega
        subst ej
        rw [List.drop_length]
        refine ⟨(fun z => by cases z), fun u hu' => ?_⟩
        have eu : (⟨1, 0, []⟩ : Ks296.Way) = u := Option.some.inj hu'
        subst eu
        refine ⟨w0, valV_pos rfl, w1, ?_, [], (hw1 H2).2, WordsAt.nil, .inr hnd⟩
        have e : triOf t (ks.length - ks.length) ⟨1, 0, []⟩ = ⟨1, 0, []⟩ := by unfold triOf; simp
        rw [e]
        exact (hw1 H2).1
    refine ⟨_, rfl, r, _, rfl, .inl (sb2.seq hrow1), _, _, rfl, rfl, _, rfl, _, rfl, _, _, _, ks.length, rfl, ?_, ?_⟩
    · have := RgC.neg (i := (ks.length : Int) - 1) (j := -1) (by omega) (by omega) (by omega) (by omega)
      have e : ((ks.length : Int) - 1 - -1).toNat = ks.length := by omega
      rw [e] at this
      rw [wv_len]
      exact this
    refine for_rangeC (fun i σ H' => ∃ u4 u5 u6 u7 u8 u9 : Option V, σ = [some (.ref r), some (.ref d), some (.ref L), some (.ref b), u4, u5, u6, u7, u8, u9] ∧ LkInv K H1 H' b t l ks (ks.length - i)) ⟨none, none, none, none, none, none, rfl, I0⟩ ?_ ?_
    · rintro i σ H' hi ⟨u4, u5, u6, u7, u8, u9, rfl, J⟩
      have est : ((wv ks).length : Int) - 1 + (i : Nat) * (-1 : Int) = ((ks.length - i - 1 : Nat) : Int) := by rw [wv_len]; omega
      show gName 4 (V.int (((wv ks).length : Int) - 1 + (i : Nat) * (-1 : Int))) _ _ _
      rw [est]
      have ei : ks.length - i = (ks.length - i - 1) + 1 := by omega
      have ei2 : ks.length - (i + 1) = ks.length - i - 1 := by omega
      have hst : ks.length - i - 1 < ks.length := by omega
      rw [ei2]
      rw [ei] at J
      generalize ks.length - i - 1 = st at J hst
      obtain ⟨kvs, hkb, hbest, hklen⟩ := J.best
      refine ⟨Nat.zero_le _, fun wl hwl => ?_⟩
      have swl := same_new (o := HO.lst []) hwl
      have hwl1 : (upd H' wl (.lst [])) wl = some (.lst []) := upd_same
      have wl0 : H1 wl = none := J.same.free hwl
      have nbw : b ≠ wl := ne_of_none hkb hwl
      have nLw : L ≠ wl := ne_of_none hL1 wl0
      have s3 : Same H1 (upd H' wl (.lst [])) := J.same.trans swl
      have hkb3 := swl _ _ hkb
      have best3 : BestAt K (upd H' wl (.lst [])) kvs t l ks (st + 1) := hbest.mono fun c m z => z.mono swl
      generalize upd H' wl (.lst []) = H3 at hwl1 s3 hkb3 best3
      refine ⟨_, rfl, L, rfl, ⟨_, SqL.of (s3 _ _ hL1)⟩, for_list (K := K) (a := L) (xs := cs.map V.ref) (fun m σ H4 => ∃ (u6 u7 u8 u9 : Option V) (as : List Addr), σ = [some (.ref r), some (.ref d), some (.ref L), some (.ref b), some (.int (st : Int)), some (.ref wl), u6, u7, u8, u9] ∧
          (∀ x o, H3 x = some o → x ≠ wl → H4 x = some o) ∧ H4 wl = some (.lst (as.map V.ref)) ∧ WaysAt K H4 as (ways t l (D.take m) (ks.drop st))) ⟨u6, u7, u8, u9, [], rfl, fun x o e _ => e, hwl1, rfl, fun i a m h => by simp at h⟩
          (fun m σ H4 _ ⟨_, _, _, _, _, _, e, _⟩ => SqL.of (e _ _ (s3 _ _ hL1) nLw)) ?_ ?_⟩
      · rintro m y σ H4 hm ⟨u6, u7, u8, u9, as, rfl, e4, hwl4, hways⟩
        obtain ⟨c, hc, rfl⟩ := refs_at hm
        have hml : m < D.length := by rw [← hch.1]; exact (List.getElem?_eq_some_iff.mp hc).1
        have hem : D[m]? = some D[m] := List.getElem?_eq_getElem hml
        obtain ⟨wa, ka, q1, q2, q3, q4⟩ := hch.2 m c _ hc hem
        generalize D[m] = e at hem q1 q2 q3
        have hin : e ∈ D := List.mem_of_getElem? hem
        have hg := good e hin
        have hwl12 := word_len hg.1
        have up : ∀ {x : Addr} {o : HO}, H1 x = some o → H4 x = some o := fun z => e4 _ _ (s3 _ _ z) (ne_of_none z wl0)
        have same14 : Same H1 H4 := fun x o z => up z
        have hkb4 : H4 b = some (.dK kvs) := e4 _ _ hkb3 nbw
        have t34 : ∀ c m, TriAt K H3 c m → TriAt K H4 c m := fun c m z => by
          obtain ⟨p, h1, as', h2, h3, h4⟩ := z
          have sq : ∀ {a : Addr} {xs : List V}, SqT K H3 a xs → SqT K H4 a xs := fun z => by
            rcases z with (z | ⟨u, z⟩) | z
            · exact .inl (.inl (e4 _ _ z (ne_of z hwl1 fun y => nomatch y)))
            · exact .inl (.inr ⟨u, e4 _ _ z (ne_of z hwl1 fun y => nomatch y)⟩)
            · exact .inr z
          exact ⟨p, sq h1, as', sq h2, (h3.mono fun b v z => e4 _ _ z (ne_of z hwl1 fun y => nomatch y)), h4.mono fun o u z => e4 _ _ z (ne_of z hwl1 fun y => nomatch y)⟩
        have best4 : BestAt K H4 kvs t l ks (st + 1) := best3.mono t34
        have hkl : (wv (Ks295.keys e.word)).length = e.word.length := by rw [wv_len]; exact List.length_map ..
        have eend : (st : Int) + ((wv (Ks295.keys e.word)).length : Int) = ((st + e.word.length : Nat) : Int) := by rw [hkl]; omega
        rw [ways_take hem, ways_one]
        generalize hF : (if e.word.length ≤ ks.length - st ∧ (ks.drop st).take e.word.length = Ks295.keys e.word then (bestOf t l (ks.drop (st + e.word.length))).map fun u => (⟨(triOf t (ks.length - (st + e.word.length)) u).wt * wOf t e, u.many + 1, e.word :: u.words⟩ : Tri) else none) = oF
        have lenas : as.length < sizeLine := by
          rw [hways.1]
          refine Nat.lt_of_le_of_lt (List.length_filterMap_le _ _) ?_
          rw [List.length_take]; omega
        refine ⟨c, _, rfl, SqT.of (up q1), rfl, _, _, rfl, _, _, rfl, _, _, rfl, rfl, ?_⟩
        refine ⟨_, rfl, _, rfl, ka, _, rfl, .inl (SqL.of (up q3)), _, _, rfl, rfl, ?_⟩
        dsimp only
        rw [eend]
        refine ⟨_, rfl, _, rfl, b, _, rfl, DGet.k (k := Sum.inl ((st + e.word.length : Nat) : Int)) hkb4, _, rfl, ?_⟩
        obtain ⟨bj1, bj2⟩ := best4 (st + e.word.length)
        have skip : oF = none →
            ∀ H5, Same H4 H5 → ∃ (u6 u7 u8 u9 : Option V) (as' : List Addr), ([some (.ref r), some (.ref d), some (.ref L), some (.ref b), some (.int (st : Int)), some (.ref wl), some (.ref wa), some (.ref ka), some (.int (wOf t e : Nat)), some (.int ((st + e.word.length : Nat) : Int))] : List (Option V)) = [some (.ref r), some (.ref d), some (.ref L), some (.ref b), some (.int (st : Int)), some (.ref wl), u6, u7, u8, u9] ∧
              (∀ x o, H3 x = some o → x ≠ wl → H5 x = some o) ∧ H5 wl = some (.lst (as'.map V.ref)) ∧ WaysAt K H5 as' (ways t l (D.take m) (ks.drop st) ++ oF.toList) := fun hz H5 s5 => by
          rw [hz]
          refine ⟨_, _, _, _, as, rfl, fun x o z n => s5 _ _ (e4 x o z n), s5 _ _ hwl4, ?_⟩
          rw [Option.toList_none, List.append_nil]
          exact ⟨hways.1, fun i a m h1 h2 => (hways.2 i a m h1 h2).mono s5⟩
        by_cases hle : st + e.word.length ≤ ks.length
        · obtain ⟨bn, bs⟩ := bj2 (by omega) hle
          cases hbo : bestOf t l (ks.drop (st + e.word.length)) with
          | none =>
            rw [bn hbo]
            refine iteF (iteF (skip ?_ H4 (Same.refl _)))
            rw [← hF, hbo]
            split <;> rfl
          | some u =>
            obtain ⟨c2, hv2, htri⟩ := bs u hbo
            rw [hv2]
            refine iteT ?_
            refine ⟨_, rfl, _, rfl, _, rfl, _, rfl, _, rfl, r, _, rfl, same14.seq hrow1, fun q hq => ?_⟩
            rw [cut_both ks (by omega) hle]
            have hq5 : (upd H4 q (.lst (wv (cut2 ks st (st + e.word.length))))) q = some (.lst (wv (cut2 ks st (st + e.word.length)))) := upd_same
            have s5 : Same H4 (upd H4 q (.lst (wv (cut2 ks st (st + e.word.length))))) := same_new hq
            generalize upd H4 q (.lst (wv (cut2 ks st (st + e.word.length)))) = H5 at hq5 s5
            refine ⟨_, rfl, _, _, Dp.lst (SqL.of hq5) (dp_ints _), Dp.lst (SqL.of (s5 _ _ (up q3))) (dp_ints _), shaped_ints _, shaped_ints _, _, rfl, ?_⟩
            rw [eqv_ints]
            have ecut : cut2 ks st (st + e.word.length) = (ks.drop st).take e.word.length := by unfold cut2; rw [Nat.add_sub_cancel_left]
            rw [ecut]
            refine ite2 (fun h1 => ?_) fun h1 => skip ?_ H5 s5
            · have hk : (ks.drop st).take e.word.length = Ks295.keys e.word := eq_of_beq h1
              have okw := bestOf_ok pt1 pt2 pt3 _ _ (Nat.le_refl _) u hbo
              rw [List.length_drop] at okw
              have tb := tri_bound okw tle (by omega)
              refine ⟨_, rfl, .inl ⟨rfl, _, SqL.of (s5 _ _ hwl4)⟩, _, rfl, _, rfl, _, rfl, _, rfl, b, _, rfl, ?_, wa, c2, e.word, wOf t e, triOf t (ks.length - (st + e.word.length)) u, rfl, s5 _ _ (up q2), htri.mono s5, tb.1, w_bound tle hg.2.2 hwl12.2, tb.2, fun H6 p s6 hp hpn tri => ?_⟩
              · have := DGet.k (k := Sum.inl ((st + e.word.length : Nat) : Int)) (s5 _ _ hkb4)
                rw [hv2] at this
                exact this
              have hwl6 := s6 _ _ (s5 _ _ hwl4)
              refine ⟨wl, _, _, rfl, rfl, hwl6, by rw [List.length_map]; exact lenas, ?_⟩
              refine ⟨_, _, _, _, as ++ [p], rfl, fun x o z n => ?_, by rw [upd_same, List.map_append] <;> rfl, ?_⟩
              · rw [upd_ne n]; exact s6 _ _ (s5 _ _ (e4 x o z n))
              · have eF : oF = some ⟨(triOf t (ks.length - (st + e.word.length)) u).wt * wOf t e, u.many + 1, e.word :: u.words⟩ := by rw [← hF, if_pos ⟨by omega, hk⟩, hbo]; rfl
                rw [eF]
                refine WaysAt.snoc (K := K) ⟨hways.1, fun i a m h1 h2 => ?_⟩ (tri.updL hwl6)
                exact (((hways.2 i a m h1 h2).mono s5).mono s6).updL hwl6
            · rw [← hF]; exact if_neg fun z => h1 (beq_iff_eq.mpr z.2)
        · rw [bj1 (.inr (by omega))]
          exact iteF (iteF (skip (by rw [← hF]; exact if_neg fun z => hle (by have := z.1; omega)) H4 (Same.refl _)))
      · rintro σ H4 ⟨u6, u7, u8, u9, as, rfl, e4, hwl4, hways⟩
        rw [List.length_map, hch.1, List.take_length] at hways
        have hkb4 : H4 b = some (.dK kvs) := e4 _ _ hkb3 nbw
        have same14 : Same H1 H4 := fun x o z => e4 _ _ (s3 _ _ z) (ne_of_none z wl0)
        have t34 : ∀ c m, TriAt K H3 c m → TriAt K H4 c m := fun c m z => by
          obtain ⟨p, h1, as', h2, h3, h4⟩ := z
          have sq : ∀ {a : Addr} {xs : List V}, SqT K H3 a xs → SqT K H4 a xs := fun z => by
            rcases z with (z | ⟨u, z⟩) | z
            · exact .inl (.inl (e4 _ _ z (ne_of z hwl1 fun y => nomatch y)))
            · exact .inl (.inr ⟨u, e4 _ _ z (ne_of z hwl1 fun y => nomatch y)⟩)
            · exact .inr z
          exact ⟨p, sq h1, as', sq h2, (h3.mono fun b v z => e4 _ _ z (ne_of z hwl1 fun y => nomatch y)), h4.mono fun o u z => e4 _ _ z (ne_of z hwl1 fun y => nomatch y)⟩
        have best4 : BestAt K H4 kvs t l ks (st + 1) := best3.mono t34
        have edrop : ks.drop st = ks[st] :: ks.drop (st + 1) := List.drop_eq_getElem_cons hst
        have wst := ways_step rel.pe pt1 pt2 pt3 ks[st] (ks.drop (st + 1))
        rw [← edrop] at wst
        have lend : (ks.drop st).length = ks.length - st := List.length_drop ..
        refine ⟨_, rfl, wl, _, rfl, .inl (SqL.of hwl4), _, _, rfl, rfl, _, rfl, ?_⟩
        rw [List.length_map]
        refine ite2 (fun h1 => ?_) fun h1 => ?_
        · have hpos : 0 < as.length := by have := of_decide_eq_true h1; omega
          refine ⟨_, rfl, wl, as, _, rfl, SqL.of hwl4, hpos, hways.1, fun i a m h1 h2 => (hways.2 i a m h1 h2).k, fun i0 a m ha hm least => ?_⟩
          obtain ⟨u, hu1, rfl⟩ := wst.2 m least
          have tri := hways.2 i0 a _ ha hm
          rw [lend] at tri
          refine ⟨_, rfl, _, rfl, b, _, rfl, DPut.k (k := Sum.inl (st : Int)) hkb4 (by omega), ?_⟩
          refine ⟨_, _, _, _, _, _, rfl, fun x o z => ?_, _, upd_same, fun j => ⟨fun hj => ?_, fun g1 g2 => ?_⟩, ?_⟩
          · rw [upd_ne (ne_of_none z hb)]; exact same14 _ _ z
          · rw [valV_put, if_neg (fun z => by have := Sum.inl.inj z; omega)]
            exact ((best4 j).1 (by omega))
          · rw [valV_put]
            by_cases hj : j = st
            · subst hj
              rw [if_pos rfl]
              refine ⟨(fun z => by rw [hu1] at z; cases z), fun u' hu' => ?_⟩
              rw [hu1] at hu'
              cases hu'
              exact ⟨a, rfl, tri.updD hkb4⟩
            · rw [if_neg (fun z => by have := Sum.inl.inj z; omega)]
              obtain ⟨k1, k2⟩ := (best4 j).2 (by omega) g2
              exact ⟨k1, fun u' hu' => let ⟨c, z1, z2⟩ := k2 u' hu'; ⟨c, z1, z2.updD hkb4⟩⟩
          · have := length_putK kvs (Sum.inl (st : Int)) (V.ref a)
            omega
        · have hnil : as = [] := by
            cases as with
            | nil => rfl
            | cons x xs => exact absurd (decide_eq_true (by simp)) h1
          have hw0' : ways t l D (ks.drop st) = [] := by
            have := hways.1
            rw [hnil] at this
            exact List.length_eq_zero_iff.mp this.symm
          have hbn := wst.1.mp hw0'
          refine ⟨_, _, _, _, _, _, rfl, same14, kvs, hkb4, fun j => ⟨fun hj => (best4 j).1 (by omega), fun g1 g2 => ?_⟩, by omega⟩
          by_cases hj : j = st
          · subst hj
            exact ⟨fun _ => (best4 j).1 (.inl (by omega)), fun u hu' => by rw [hbn] at hu'; cases hu'⟩
          · exact (best4 j).2 (by omega) g2
    · rintro σ H' ⟨u4, u5, u6, u7, u8, u9, rfl, J⟩
      rw [Nat.sub_self] at J
      obtain ⟨kvs, hkb, hbest, _⟩ := J.best
      have ep : Ks296.parted l ks = bestOf t l ks := by unfold Ks296.parted bestOf; rw [et]
      obtain ⟨_, b2⟩ := hbest 0
      obtain ⟨bn, bs⟩ := b2 (Nat.le_refl _) (Nat.zero_le _)
      rw [List.drop_zero] at bn bs
      refine ⟨_, rfl, b, _, rfl, DGet.k (k := Sum.inl ((0 : Nat) : Int)) hkb, _, rfl, ?_⟩
      cases hbo : bestOf t l ks with
      | none =>
        rw [bn hbo]
        refine iteF (k H' _ (s1.trans J.same) (fun _ => rfl) fun u hu' => ?_)
        rw [ep, hbo] at hu'; cases hu'
      | some u =>
        obtain ⟨c, hv, p, hc, hrowp⟩ := bs u hbo
        rw [hv]
        refine iteT ⟨_, rfl, b, _, rfl, ?_, c, _, _, _, rfl, rfl, hc, at_of (j := 2) rfl rfl, k H' _ (s1.trans J.same) (fun z => ?_) fun u' hu' => ?_⟩
        · have := DGet.k (k := Sum.inl ((0 : Nat) : Int)) hkb
          rw [hv] at this
          exact this
        · rw [ep, hbo] at z; cases z
        · rw [ep, hbo] at hu'
          cases hu'
          exact ⟨p, rfl, hrowp⟩
end
end Wk
namespace Wk
open PySem PySem.Spec PyProof.Rows L2
abbrev sDesk : Stmt := top 43
abbrev sInit : Stmt := inClass sDesk 0
abbrev sMeant : Stmt := inClass sDesk 1
abbrev sShown : Stmt := inClass sDesk 2
abbrev sBegin : Stmt := inClass sDesk 3
abbrev sLearn : Stmt := inClass sDesk 4
abbrev sPress : Stmt := inClass sDesk 5
abbrev sNext : Stmt := inClass sDesk 6
abbrev sTake : Stmt := inClass sDesk 7
abbrev sBack : Stmt := inClass sDesk 8
abbrev sGuess : Stmt := inClass sDesk 9
abbrev sRow : Stmt := inClass sDesk 10
abbrev sText : Stmt := inClass sDesk 11
abbrev sList : Stmt := inClass sDesk 12
abbrev sRoom : Stmt := inClass sDesk 13
abbrev sAddT : Stmt := inClass sDesk 14
abbrev sDrop : Stmt := inClass sDesk 15
def deskF (d tl pl : Addr) (n : Int) : List (Str × V) := [("counts", .ref d), ("text", .ref tl), ("pressed", .ref pl), ("place", .int n)]
theorem deskF_counts (d tl pl : Addr) (n : Int) : (deskF d tl pl n).lookup ("counts" : Str) = some (.ref d) := rfl
theorem deskF_text (d tl pl : Addr) (n : Int) : (deskF d tl pl n).lookup ("text" : Str) = some (.ref tl) := rfl
theorem deskF_pressed (d tl pl : Addr) (n : Int) : (deskF d tl pl n).lookup ("pressed" : Str) = some (.ref pl) := rfl
theorem deskF_place (d tl pl : Addr) (n : Int) : (deskF d tl pl n).lookup ("place" : Str) = some (.int n) := rfl
theorem putF_counts (d d' tl pl : Addr) (n : Int) : putF "counts" (.ref d') (deskF d tl pl n) = deskF d' tl pl n := rfl
theorem putF_text (d tl tl' pl : Addr) (n : Int) : putF "text" (.ref tl') (deskF d tl pl n) = deskF d tl' pl n := rfl
theorem putF_pressed (d tl pl pl' : Addr) (n : Int) : putF "pressed" (.ref pl') (deskF d tl pl n) = deskF d tl pl' n := rfl
theorem putF_place (d tl pl : Addr) (n m : Int) : putF "place" (.int m) (deskF d tl pl n) = deskF d tl pl m := rfl
structure DSt where
  D : List Ks295.Entry
  text : List (List Nat)
  keys : List Nat
  place : Nat
structure DeskAt (C T : Addr) (H : Hp) (a : Addr) (fp : List Addr) (st : DSt) : Prop where
  ex : ∃ dx d tl pl tas, fp = [a, d, tl, pl, T] ∧ H a = some (.ins C dx (deskF d tl pl st.place)) ∧ H d = some (.dT (dv st.D)) ∧ H tl = some (.lst (tas.map V.ref)) ∧ WordsAt H tas st.text ∧ H pl = some (.lst (wv st.keys)) ∧ tl ≠ pl
  tab : Tab T H
structure R (st : DSt) (s : Ks297.Abs) : Prop where
  rel : Rel st.D s.list
  text : s.text = st.text
  keys : s.keys = st.keys
  place : s.place = st.place
  good : Good st.D
  l64 : st.D.length ≤ 64
  tin : ∀ v ∈ st.text, Ks295.has st.D v = true
  t100 : st.text.length ≤ 100
  k12 : st.keys.length ≤ 12
  pl : st.place < s.meant.length ∨ (st.place = 0 ∧ s.meant = [])
def Desk (C T : Addr) (H : Hp) (a : Addr) (fp : List Addr) (s : Ks297.Abs) : Prop := ∃ st, DeskAt C T H a fp st ∧ R st s
structure Frame (fp fp' : List Addr) (H H' : Hp) : Prop where
  keep : ∀ b o, H b = some o → b ∉ fp → H' b = some o
  new : ∀ b ∈ fp', b ∈ fp ∨ H b = none
theorem Frame.refl (fp : List Addr) (H : Hp) : Frame fp fp H H := ⟨fun _ _ h _ => h, fun _ h => .inl h⟩
theorem Frame.trans {fp f1 f2 : List Addr} {H H1 H2 : Hp} (a : Frame fp f1 H H1) (b : Frame f1 f2 H1 H2) : Frame fp f2 H H2 := by
  refine ⟨fun c o h n => b.keep c o (a.keep c o h n) fun z => ?_, fun c hc => ?_⟩
  · rcases a.new c z with y | y
    · exact n y
    · rw [h] at y; cases y
  · rcases b.new c hc with y | y
    · exact a.new c y
    · by_cases n : c ∈ fp
      · exact .inl n
      · refine .inr ?_
        cases q : H c with
        | none => rfl
        | some o => rw [a.keep c o q n] at y; cases y
theorem Frame.sameT {T : Addr} {fp : List Addr} {H H' : Hp} (e : SameT T H H') (h : T ∈ fp) : Frame fp fp H H' := ⟨fun b o q n => e b o q fun z => n (z ▸ h), fun _ h => .inl h⟩
structure TxD (K : PySem.W.Frag) (mg : Str → Option Value) (C : Addr) : Prop where
  firstK : GV mg "FIRST_KEY" (.int 2)
  lastK : GV mg "LAST_KEY" (.int 9)
  mostB : GV mg "MOST_LIST_BYTES" (.int 2048)
  mostK : GV mg "MOST_KEYS" (.int 12)
  mostT : GV mg "MOST_TEXT_WORDS" (.int 100)
  mostR : GV mg "MOST_ROW_KEYS" (.int 40)
  noText : GV mg "NO_TEXT" (.int (-2))
  noWay : GV mg "NO_WAY" (.int (-33))
  pressed : GV mg "KEYS_ARE_PRESSED" (.int (-11))
  room : GV mg "NO_ROOM" (.int (-12))
  valid : GV mg "NOT_VALID" (.int (-22))
  noWord : GV mg "NO_WORD" (.int (-61))
  wrong : GV mg "WRONG_LINE" (.int (-1000))
  cl : Cls K C
  nCounts : NoAttr K C "counts"
  nText : NoAttr K C "text"
  nPressed : NoAttr K C "pressed"
  nPlace : NoAttr K C "place"
end Wk
namespace Wk
open PySem PySem.Spec PyProof.Rows L2
section
variable {P : Program} {w : World} {K : PySem.W.Frag} {mg : Str → Option Value} {base : Heap}
def spMeant (C T : Addr) : Sp := fun vs H Q _ => ∃ (a : Addr) (fp : List Addr) (s : Ks297.Abs), vs = [.ref a] ∧ Desk C T H a fp s ∧ ∀ (H' : Hp) (p : Addr) (out : List Addr), SameT T H H' → Tab T H' → H p = none → H' p = some (.lst (out.map V.ref)) → WordsAt H' out (s.meant.map Ks295.Entry.word) → Q (.ref p) H'
theorem scMeant : FnScope ["self", "words", "word"] ["self"] (defScope sMeant) := ⟨rfl, rfl, rfl, by decide +kernel, rfl, by decide +kernel, by decide +kernel⟩
theorem ok_meant {f C T fK fO : Addr} {fd fdK fdO : FuncData} (F : Fun K "meant" "Desk.meant" sMeant f fd) (D : TxD K mg C) (GK : FnOk P w K mg base CX0 1 fK fdK ["word"] (spKeys K)) (kK : PySem.W.keepIn K (.ref fK) = true) (mK : mg "keys_of" = some (.ref fK)) (bK : Binds K fdK ["word"] [])
    (GO : FnOk P w K mg base CX0 5 fO fdO ["words", "counts"] (spOrder K T)) (kO : PySem.W.keepIn K (.ref fO) = true) (mO : mg "in_order" = some (.ref fO)) (bO : Binds K fdO ["words", "counts"] []) : FnOk P w K mg base CX0 6 f fd ["self"] (spMeant C T) := by
  refine F.ok scMeant (fun vs H Q E h => ?_) (fun cdv A outer s H vs Q E hr h => ?_)
  · obtain ⟨a, fp, s, rfl, _⟩ := h
    rfl
  · obtain ⟨a, fp, s, rfl, ⟨st, dk, r⟩, k⟩ := h
    have hr1 : Room 1 _ := hr.mono (by decide)
    refine ⟨_, pss_cons (ps_lock (ps_setLc (i := 1) (own := [("word", 2)]) rfl scMeant.nd rfl rfl (sw_true rfl rfl rfl rfl) (pi_keys (pe_fld (pv 0) rfl)) (show BlkOk ["self", "words", "word"] (defScope sMeant) _ [("word", 2)] from blkOk_by (by decide +kernel))
        (fun s H C cl fp => pg_name (i := 2) scMeant.nd rfl (Or.inl rfl))
        (fun s H C cl fp => pts_one (pt_cmpR (r := rEqD K) (op_eqD hr.units) (pe_call GK hr1 rfl mK kK bK .nil pass0 (pa_cons (pv 2) pa_nil)) (show PE _ _ (tFld K (tVar 0) "pressed") from pe_fld (pv 0) rfl) (nomark _)))
        (fun s H C cl fp => pv 2)))
      (pss_one (ps_ret (pe_call GO hr rfl mO kO bO .nil pass0 (pa_cons (pv 1) (pa_cons (pe_fld (pv 0) rfl) pa_nil))))), ?_⟩
    obtain ⟨⟨dx, d, tl, pl, tas, efp, ha, hd, htl, htx, hpl, ntp⟩, tab⟩ := dk
    have line : sizeLine = 16777216 := sizeLine_eq
    have l64 := r.l64
    refine ⟨d, _, hd, trivial, fun od => ?_⟩
    have nad : a ≠ d := ne_of ha hd fun z => nomatch z
    have npd : pl ≠ d := ne_of hpl hd fun z => nomatch z
    have ha1 : (upd H d (.frz od (.dT (dv st.D)))) a = some (.ins C dx (deskF d tl pl st.place)) := by rw [upd_ne nad]; exact ha
    have hp1 : (upd H d (.frz od (.dT (dv st.D)))) pl = some (.lst (wv st.keys)) := by rw [upd_ne npd]; exact hpl
    have hd1 : (upd H d (.frz od (.dT (dv st.D)))) d = some (.frz od (.dT (dv st.D))) := upd_same
    have back : ∀ b o, H b = some o → b ≠ d → (upd H d (.frz od (.dT (dv st.D)))) b = some o := fun b o e n => by rw [upd_ne n]; exact e
    have forth : ∀ b, (upd H d (.frz od (.dT (dv st.D)))) b = none → H b = none := fun b e => by
      by_cases z : b = d
      · rw [z, upd_same] at e; cases e
      · rw [upd_ne z] at e; exact e
    generalize upd H d (.frz od (.dT (dv st.D))) = H1 at ha1 hp1 hd1 back forth
    let P1 : Ks295.Entry → Bool := fun e => Ks295.keys e.word == st.keys
    refine ⟨_, rfl, a, C, dx, _, _, rfl, ha1, D.cl, D.nCounts, deskF_counts _ _ _ _, d, od, rfl, .inr ⟨_, hd1, fun L hL => lc_keysT (d := d) (o := od) (kvs := dv st.D) (fun i H' => ∃ ws : List Addr, Same H1 H' ∧ H' L = some (.lst (ws.map V.ref)) ∧ WordsAt H' ws (((st.D.take i).filter P1).map Ks295.Entry.word))
      ⟨[], same_new hL, upd_same, WordsAt.nil⟩ (fun i H' _ p => let ⟨_, e, _⟩ := p; e _ _ hd1) ?_ ?_⟩⟩
    · rintro i kk v q H' hi hq ⟨ws, e1, e2, e3⟩
      obtain ⟨e, he, rfl, rfl⟩ := dv_at hi
      rw [kw_kV] at hq
      have hg := r.good e (List.mem_of_getElem? he)
      have hw1 := hg.1
      rw [isWord_eq, Bool.and_eq_true, Bool.and_eq_true] at hw1
      have hz : e.word.length ≤ 12 := of_decide_eq_true hw1.1.2
      refine ⟨rfl, _, rfl, q, e.word, rfl, SqT.of hq, hw1.2, Nat.le_trans hz (by decide), fun H2 p s2 hp hp2 => ?_⟩
      have s12 := e1.trans s2
      refine ⟨_, rfl, a, C, dx, _, _, rfl, s12 _ _ ha1, D.cl, D.nPressed, deskF_pressed _ _ _ _, _, _, Dp.lst (SqL.of hp2) (dp_ints _), Dp.lst (SqL.of (s12 _ _ hp1)) (dp_ints _), shaped_ints _, shaped_ints _, _, rfl, ?_⟩
      rw [eqv_ints]
      have lenw : ws.length < sizeLine := by
        rw [e3.1, List.length_map]
        refine Nat.lt_of_le_of_lt (List.length_filter_le _ _) ?_
        rw [List.length_take]
        omega
      refine ite2 (fun h1 => ⟨_, rfl, _, s2 _ _ e2, by rw [List.length_map]; exact lenw, ws ++ [q], ?_, ?_, ?_⟩) fun h1 => ⟨ws, s12, s2 _ _ e2, ?_⟩
      · exact same_upd s12 hL
      · rw [upd_same, List.map_append] <;> rfl
      · have nq : q ≠ L := ne_of hq e2 fun z => nomatch z
        rw [take_one he, List.filter_append]
        have ef : [e].filter P1 = [e] := by rw [List.filter_cons, if_pos h1, List.filter_nil]
        rw [ef, List.map_append]
        refine WordsAt.snoc ((e3.mono fun b u z => ?_)) ?_
        · rw [upd_ne (ne_of z e2 fun y => nomatch y)]; exact s2 _ _ z
        · rw [upd_ne nq]; exact s2 _ _ hq
      · rw [take_one he, List.filter_append]
        have ef : [e].filter P1 = [] := by rw [List.filter_cons, if_neg h1, List.filter_nil]
        rw [ef, List.append_nil]
        exact e3.mono fun b u z => s2 _ _ z
    · rintro H' ⟨ws, e1, e2, e3⟩
      rw [dv_len, List.take_length] at e3
      refine ⟨e1 _ _ hd1, ?_⟩
      have nLd : L ≠ d := fun z => by rw [z, hd1] at hL; cases hL
      have sH : Same H (upd H' d (.dT (dv st.D))) := fun b o e => by
        by_cases z : b = d
        · subst z
          rw [upd_same, ← hd, e]
        · rw [upd_ne z]; exact e1 _ _ (back _ _ e z)
      have e3' : WordsAt (upd H' d (.dT (dv st.D))) ws ((st.D.filter P1).map Ks295.Entry.word) := e3.mono fun b u z => by
        rw [upd_ne (ne_of z (e1 _ _ hd1) fun y => nomatch y)]; exact z
      have e2' : (upd H' d (.dT (dv st.D))) L = some (.lst (ws.map V.ref)) := by rw [upd_ne nLd]; exact e2
      generalize upd H' d (.dT (dv st.D)) = H2 at sH e3' e2'
      have emap := e3'.map
      have ndw : ((st.D.filter P1).map Ks295.Entry.word).Nodup := List.Nodup.sublist (List.Sublist.map _ List.filter_sublist) r.rel.nd
      refine ⟨_, rfl, _, rfl, a, C, dx, _, _, rfl, sH _ _ ha, D.cl, D.nCounts, deskF_counts _ _ _ _, ?_⟩
      refine ⟨L, d, ws, wordAt H2, st.D, rfl, SqL.of e2', sH _ _ hd, fun b hb => ?_, by rw [emap]; exact ndw, tab.same sH, fun H3 p out f1 f2 f3 f4 f5 f6 => ?_⟩
      · obtain ⟨j, hj⟩ := List.mem_iff_getElem?.mp hb
        obtain ⟨v, hv, hb'⟩ := e3'.at hj
        rw [wordAt_eq hb']
        refine ⟨hb', has_iff.mpr ?_⟩
        have hm := List.mem_of_getElem? hv
        obtain ⟨e, he, q⟩ := List.mem_map.mp hm
        exact List.mem_map.mpr ⟨e, (List.mem_filter.mp he).1, q⟩
      · have entE : ws.map (entOf st.D (wordAt H2)) = st.D.filter P1 := by
          have z1 : ws.map (entOf st.D (wordAt H2)) = (ws.map (wordAt H2)).map fun v => (⟨v, cntOf st.D v⟩ : Ks295.Entry) := by rw [List.map_map]; rfl
          rw [z1, emap, List.map_map]
          refine (List.map_congr_left (g := id) fun e he => ?_).trans (List.map_id _)
          show (⟨e.word, cntOf st.D e.word⟩ : Ks295.Entry) = e
          unfold cntOf
          rw [lookE_mem r.rel.nd (List.mem_filter.mp he).1]
          rfl
        have me : out.map (entOf st.D (wordAt H2)) = s.meant := by
          have z2 : Ks297.Abs.meant s = Ks295.meant s.list st.keys := by unfold Ks297.Abs.meant; rw [r.keys]
          rw [z2]
          refine r.rel.meant st.keys ?_ ?_
          · exact List.pairwise_map.mpr f5
          · have z3 := f4.map (entOf st.D (wordAt H2))
            rw [entE] at z3
            exact z3
        have hT2 : Tab T H2 := tab.same sH
        refine k H3 p out ((sH.t).trans f1) f2 (sH.free f3) f6 ⟨by rw [← me]; simp, fun i b v h1 h2 => ?_⟩
        rw [← me, List.map_map, List.getElem?_map, h1] at h2
        have ev : wordAt H2 b = v := Option.some.inj h2
        have hb : b ∈ ws := f4.mem_iff.mp (List.mem_of_getElem? h1)
        obtain ⟨j, hj⟩ := List.mem_iff_getElem?.mp hb
        obtain ⟨u, hu, hb'⟩ := e3'.at hj
        have eu := wordAt_eq hb'
        rw [ev] at eu
        rw [eu]
        exact f1 _ _ hb' (SameT.ne hT2 hb' fun q z => nomatch z)
end
end Wk
namespace Wk
open Ks297 (Abs act)
theorem meant_nil {D l : List Ks295.Entry} (r : Rel D l) (g : Good D) : Ks295.meant l [] = [] := by
  unfold Ks295.meant
  rw [List.filter_eq_nil_iff]
  intro e he z
  have hg := (g e (r.pe.mem_iff.mp he)).1
  rw [isWord_eq, Bool.and_eq_true, Bool.and_eq_true] at hg
  have h1 := of_decide_eq_true hg.1.1
  have h2 : Ks295.keys e.word = [] := eq_of_beq z
  unfold Ks295.keys at h2
  rw [List.map_eq_nil_iff] at h2
  rw [h2] at h1
  simp at h1
theorem R.start : R ⟨[], [], [], 0⟩ ({} : Abs) := ⟨Rel.nil, rfl, rfl, rfl, (fun e h => by cases h), Nat.zero_le _, (fun v h => by cases h), Nat.zero_le _, Nat.zero_le _, .inr ⟨rfl, rfl⟩⟩
theorem R.place0 {st : DSt} {s : Abs} (r : R st s) (h : st.keys = []) : st.place = 0 := by
  rcases r.pl with z | z
  · have e : s.meant = [] := by unfold Abs.meant; rw [r.keys, h]; exact meant_nil r.rel r.good
    rw [e] at z; simp at z
  · exact z.1
theorem R.key {st : DSt} {s : Abs} (r : R st s) {k : Nat} (h : st.keys.length < 12) : R { st with keys := st.keys ++ [k], place := 0 } { s with keys := s.keys ++ [k], place := 0 } := by
  refine ⟨r.rel, r.text, by show s.keys ++ [k] = st.keys ++ [k]; rw [r.keys], rfl, r.good, r.l64, r.tin, r.t100, by show (st.keys ++ [k]).length ≤ 12; simp; omega, ?_⟩
  cases q : Abs.meant { s with keys := s.keys ++ [k], place := 0 } with
  | nil => exact .inr ⟨rfl, rfl⟩
  | cons x l => exact .inl (by show 0 < (x :: l).length; simp)
theorem R.next {st : DSt} {s : Abs} (r : R st s) (h : s.meant ≠ []) : R { st with place := (st.place + 1) % s.meant.length } { s with place := (s.place + 1) % s.meant.length } := by
  refine ⟨r.rel, r.text, r.keys, by show (s.place + 1) % s.meant.length = (st.place + 1) % s.meant.length; rw [r.place], r.good, r.l64, r.tin, r.t100, r.k12, .inl ?_⟩
  show (st.place + 1) % s.meant.length < s.meant.length
  refine Nat.mod_lt _ ?_
  cases q : s.meant with
  | nil => exact absurd q h
  | cons _ _ => simp
theorem good_set {D : List Ks295.Entry} (g : Good D) {w : List Nat} {n : Nat} (hw : Ks295.isWord w = true) (h1 : 1 ≤ n) (h2 : n ≤ 1000000) : Good (setE D w n) := fun e he => by
  unfold setE at he
  obtain ⟨x, hx, rfl⟩ := List.mem_map.mp he
  show Ks295.isWord (if x.word = w then (⟨w, n⟩ : Ks295.Entry) else x).word = true ∧ 1 ≤ (if x.word = w then (⟨w, n⟩ : Ks295.Entry) else x).count ∧ (if x.word = w then (⟨w, n⟩ : Ks295.Entry) else x).count ≤ 1000000
  by_cases q : x.word = w
  · rw [if_pos q]; exact ⟨hw, h1, h2⟩
  · rw [if_neg q]; exact g x hx
theorem has_set (D : List Ks295.Entry) (w : List Nat) (n : Nat) (v : List Nat) : Ks295.has (setE D w n) v = Ks295.has D v := by
  have e : ∀ D' : List Ks295.Entry, Ks295.has D' v = (D'.map Ks295.Entry.word).any fun u => u == v := fun D' => by unfold Ks295.has; rw [List.any_map]; rfl
  rw [e, e, setE_words]
theorem R.clear {D : List Ks295.Entry} {l : List Ks295.Entry} {text : List (List Nat)} (rel : Rel D l) (g : Good D) (h64 : D.length ≤ 64) (tin : ∀ v ∈ text, Ks295.has D v = true) (t : text.length ≤ 100) : R ⟨D, text, [], 0⟩ { list := l, text := text, keys := [], place := 0 } :=
  ⟨rel, rfl, rfl, rfl, g, h64, tin, t, by simp, .inr ⟨rfl, meant_nil rel g⟩⟩
theorem setE_len (D : List Ks295.Entry) (w : List Nat) (n : Nat) : (setE D w n).length = D.length := List.length_map ..
theorem R.take {st : DSt} {s : Abs} (r : R st s) {w : List Nat} {c : Nat} (hc : lookE st.D w = some c) (hw : Ks295.isWord w = true) (h1 : c < 1000000) (h2 : st.text.length < 100) :
    R ⟨setE st.D w (c + 1), st.text ++ [w], [], 0⟩ { list := Ks297.used s.list w, text := s.text ++ [w], keys := [], place := 0 } := by
  rw [r.text]
  refine R.clear (r.rel.counted (fun n => n + 1) hc) (good_set r.good hw (by omega) (by omega)) (by rw [setE_len]; exact r.l64) (fun v hv => ?_) (by simp; omega)
  rw [has_set]
  rcases List.mem_append.mp hv with z | z
  · exact r.tin v z
  · rw [List.mem_singleton.mp z, ← lookE_has, hc]; rfl
theorem R.learnOld {st : DSt} {s : Abs} (r : R st s) (hk : st.keys = []) {w : List Nat} {c n : Nat} (hc : lookE st.D w = some c) (hw : Ks295.isWord w = true) (h1 : 1 ≤ n) (h2 : n ≤ 1000000) :
    R { st with D := setE st.D w n } { s with list := Ks297.counted s.list w fun _ => n } := by
  have rel := r.rel.counted (fun _ => n) hc
  have g := good_set r.good hw h1 h2
  refine ⟨rel, r.text, r.keys, r.place, g, by show (setE st.D w n).length ≤ 64; rw [setE_len]; exact r.l64, fun v hv => by show Ks295.has (setE st.D w n) v = true; rw [has_set]; exact r.tin v hv, r.t100, r.k12, .inr ⟨r.place0 hk, ?_⟩⟩
  show Ks295.meant _ s.keys = []
  rw [r.keys, hk]
  exact meant_nil rel g
theorem R.learnNew {st : DSt} {s : Abs} (r : R st s) (hk : st.keys = []) {w : List Nat} {n : Nat} (hc : Ks295.has st.D w = false) (hw : Ks295.isWord w = true) (h1 : 1 ≤ n) (h2 : n ≤ 1000000) (h64 : st.D.length < 64) :
    R { st with D := st.D ++ [⟨w, n⟩] } { s with list := Ks295.insert ⟨w, n⟩ s.list } := by
  have rel := r.rel.add (n := n) hc
  have g : Good (st.D ++ [⟨w, n⟩]) := fun e he => by
    rcases List.mem_append.mp he with z | z
    · exact r.good e z
    · rw [List.mem_singleton.mp z]; exact ⟨hw, h1, h2⟩
  refine ⟨rel, r.text, r.keys, r.place, g, by show (st.D ++ [_]).length ≤ 64; simp; omega, fun v hv => ?_, r.t100, r.k12, .inr ⟨r.place0 hk, ?_⟩⟩
  · show Ks295.has (st.D ++ [_]) v = true
    have := r.tin v hv
    unfold Ks295.has at this ⊢
    rw [List.any_append, this]; rfl
  · show Ks295.meant _ s.keys = []
    rw [r.keys, hk]
    exact meant_nil rel g
theorem R.shown {st : DSt} {s : Abs} (r : R st s) (h : s.meant ≠ []) : ∃ e, s.meant[st.place]? = some e ∧ s.shown = some e.word ∧ e ∈ st.D := by
  have hp : st.place < s.meant.length := r.pl.resolve_right fun z => h z.2
  refine ⟨s.meant[st.place], List.getElem?_eq_getElem hp, ?_, ?_⟩
  · unfold Abs.shown; rw [r.place, List.getElem?_eq_getElem hp]; rfl
  · have hm : s.meant[st.place] ∈ s.meant := List.getElem_mem hp
    unfold Abs.meant Ks295.meant at hm
    exact r.rel.pe.mem_iff.mp (List.mem_filter.mp hm).1
theorem R.noShown {st : DSt} {s : Abs} (h : s.meant = []) : s.shown = none := by
  unfold Abs.shown; rw [h]; rfl
end Wk
namespace Wk
open PySem PySem.Spec PyProof.Rows L2
section
variable {P : Program} {w : World} {K : PySem.W.Frag} {mg : Str → Option Value} {base : Heap}
def spInit (C T : Addr) : Sp := fun vs H Q _ => ∃ (p dx : Addr), vs = [.ref p] ∧ H p = some (.ins C dx []) ∧ Tab T H ∧ ∀ (H' : Hp) (fp : List Addr), Desk C T H' p fp {} → (∀ b o, H b = some o → b ≠ p → H' b = some o) → (∀ b ∈ fp, b = p ∨ b = T ∨ H b = none) → Q .non H'
theorem scInit : FnScope ["self"] ["self"] (defScope sInit) := ⟨rfl, rfl, rfl, by decide +kernel, rfl, by decide +kernel, by decide +kernel⟩
theorem ok_init {f C T : Addr} {fd : FuncData} (F : Fun K "__init__" "Desk.__init__" sInit f fd) (D : TxD K mg C) : FnOk P w K mg base CX0 1 f fd ["self"] (spInit C T) := by
  refine F.ok scInit (fun vs H Q E h => ?_) (fun cdv A outer s H vs Q E hr h => ?_)
  · obtain ⟨p, dx, rfl, _⟩ := h
    rfl
  · obtain ⟨p, dx, rfl, hp, tab, k⟩ := h
    have ne : ∀ {b : Addr}, H b = none → b ≠ p := fun {b} z y => by rw [y, hp] at z; cases z
    refine ⟨_, pss_cons (ps_fld (pv 0) pe_dnewT rfl) (pss_cons (ps_fld (pv 0) (pe_lst pa_nil) rfl) (pss_cons (ps_fld (pv 0) (pe_lst pa_nil) rfl) (pss_one (ps_fld (pv 0) pe_int rfl)))), ?_⟩
    intro d hd
    refine ⟨_, rfl, p, C, dx, _, rfl, (by rw [upd_ne (Ne.symm (ne hd))]; exact hp), D.cl, D.nCounts, (by show 0 < 1000; decide), ?_⟩
    refine ⟨Nat.zero_le _, fun tl htl => ?_⟩
    have n1 : tl ≠ p := fun z => by rw [z, upd_same] at htl; cases htl
    rw [upd_ne n1] at htl
    have n2 : tl ≠ d := fun z => by rw [z, upd_same] at htl; cases htl
    rw [upd_ne n2] at htl
    refine ⟨_, rfl, p, C, dx, _, rfl, (by rw [upd_ne (Ne.symm n1), upd_same]), D.cl, D.nText, (by show 1 < 1000; decide), ?_⟩
    refine ⟨Nat.zero_le _, fun pl hpl => ?_⟩
    have n3 : pl ≠ p := fun z => by rw [z, upd_same] at hpl; cases hpl
    rw [upd_ne n3] at hpl
    have n4 : pl ≠ tl := fun z => by rw [z, upd_same] at hpl; cases hpl
    rw [upd_ne n4, upd_ne n3] at hpl
    have n5 : pl ≠ d := fun z => by rw [z, upd_same] at hpl; cases hpl
    rw [upd_ne n5] at hpl
    refine ⟨_, rfl, p, C, dx, _, rfl, (by rw [upd_ne (Ne.symm n3), upd_same]), D.cl, D.nPressed, (by show 2 < 1000; decide), ?_⟩
    refine ⟨_, rfl, p, C, dx, _, rfl, upd_same, D.cl, D.nPlace, (by show 3 < 1000; decide), ?_⟩
    have npd : d ≠ p := ne hd
    refine k _ [p, d, tl, pl, T] ⟨⟨[], [], [], 0⟩, ⟨⟨dx, d, tl, pl, [], rfl, upd_same, ?_, ?_, WordsAt.nil, ?_, Ne.symm n4⟩, ?_⟩, R.start⟩ (fun b o e n => ?_) (fun b hb => ?_)
    · rw [upd_ne npd, upd_ne npd, upd_ne (Ne.symm n5), upd_ne npd, upd_ne (Ne.symm n2), upd_ne npd, upd_same] <;> rfl
    · rw [upd_ne n1, upd_ne n1, upd_ne (Ne.symm n4), upd_ne n1, upd_same] <;> rfl
    · rw [upd_ne n3, upd_ne n3, upd_same] <;> rfl
    · have keep : ∀ b o, H b = some o → b ≠ p → (upd (upd (upd (upd (upd (upd (upd H d (.dT [])) p (.ins C dx (putF "counts" (.ref d) []))) tl (.lst [])) p (.ins C dx (putF "text" (.ref tl) (putF "counts" (.ref d) [])))) pl (.lst [])) p (.ins C dx (putF "pressed" (.ref pl) (putF "text" (.ref tl) (putF "counts" (.ref d) []))))) p
          (.ins C dx (putF "place" (.int 0) (putF "pressed" (.ref pl) (putF "text" (.ref tl) (putF "counts" (.ref d) [])))))) b = some o := fun b o e n => by
        rw [upd_ne n, upd_ne n, upd_ne (ne_of_none e hpl), upd_ne n, upd_ne (ne_of_none e htl), upd_ne n, upd_ne (ne_of_none e hd)]; exact e
      have tne : T ≠ p := Ne.symm (SameT.ne tab hp fun q z => nomatch z)
      rcases tab with q | ⟨c, q, q'⟩
      · exact .inl (keep _ _ q tne)
      · exact .inr ⟨c, keep _ _ q tne, keep _ _ q' (ne_of q' hp fun z => nomatch z)⟩
    · rw [upd_ne n, upd_ne n, upd_ne (ne_of_none e hpl), upd_ne n, upd_ne (ne_of_none e htl), upd_ne n, upd_ne (ne_of_none e hd)]; exact e
    · simp only [List.mem_cons, List.not_mem_nil, or_false] at hb
      rcases hb with rfl | rfl | rfl | rfl | rfl
      · exact .inl rfl
      · exact .inr (.inr hd)
      · exact .inr (.inr htl)
      · exact .inr (.inr hpl)
      · exact .inr (.inl rfl)
theorem DeskAt.newKeys {C T : Addr} {H : Hp} {a : Addr} {fp : List Addr} {st : DSt} (h : DeskAt C T H a fp st) {q : Addr} {ks : List Nat} {n : Nat} (hq : H q = none) :
    ∃ dx d tl pl, H a = some (.ins C dx (deskF d tl pl st.place)) ∧ DeskAt C T (L2.upd (L2.upd (L2.upd H q (.lst (wv ks))) a (.ins C dx (deskF d tl q st.place))) a (.ins C dx (deskF d tl q n))) a [a, d, tl, q, T] { st with keys := ks, place := n } ∧
      Frame fp [a, d, tl, q, T] H (L2.upd (L2.upd (L2.upd H q (.lst (wv ks))) a (.ins C dx (deskF d tl q st.place))) a (.ins C dx (deskF d tl q n))) := by
  obtain ⟨⟨dx, d, tl, pl, tas, e0, e1, e2, e3, e4, e5, e6⟩, tb⟩ := h
  refine ⟨dx, d, tl, pl, e1, ?_, ?_⟩
  · have na : q ≠ a := fun z => by rw [z, e1] at hq; cases hq
    have k : ∀ b o, H b = some o → b ≠ a → (L2.upd (L2.upd (L2.upd H q (.lst (wv ks))) a (.ins C dx (deskF d tl q st.place))) a (.ins C dx (deskF d tl q n))) b = some o := fun b o e m => by
      rw [upd_ne m, upd_ne m, upd_ne (ne_of_none e hq)]; exact e
    refine ⟨⟨dx, d, tl, q, tas, rfl, upd_same, k _ _ e2 (ne_of e2 e1 fun z => nomatch z), k _ _ e3 (ne_of e3 e1 fun z => nomatch z), e4.mono fun b v z => k _ _ z (ne_of z e1 fun z => nomatch z), ?_, ?_⟩, ?_⟩
    · rw [upd_ne na, upd_ne na, upd_same]
    · exact fun z => by rw [← z, e3] at hq; cases hq
    · have tne : T ≠ a := Ne.symm (SameT.ne tb e1 fun q z => nomatch z)
      rcases tb with q | ⟨c, q, q'⟩
      · exact .inl (k _ _ q tne)
      · exact .inr ⟨c, k _ _ q tne, k _ _ q' (ne_of q' e1 fun z => nomatch z)⟩
  · refine ⟨fun b o e m => ?_, fun b hb => ?_⟩
    · rw [e0] at m
      have z : b ≠ a := fun z => m (by rw [z]; simp)
      rw [upd_ne z, upd_ne z, upd_ne (ne_of_none e hq)]; exact e
    · rw [e0]
      simp only [List.mem_cons, List.not_mem_nil, or_false] at hb ⊢
      rcases hb with rfl | rfl | rfl | rfl | rfl
      · exact .inl (.inl rfl)
      · exact .inl (.inr (.inl rfl))
      · exact .inl (.inr (.inr (.inl rfl)))
      · exact .inr hq
      · exact .inl (.inr (.inr (.inr (.inr rfl))))
def spDrop (C T : Addr) : Sp := fun vs H Q _ => ∃ (a : Addr) (fp : List Addr) (st : DSt), vs = [.ref a] ∧ DeskAt C T H a fp st ∧ ∀ (H' : Hp) (fp' : List Addr), DeskAt C T H' a fp' { st with keys := [], place := 0 } → Frame fp fp' H H' → (∀ b o, H b = some o → b ≠ a → H' b = some o) → Q .non H'
theorem scDrop : FnScope ["self"] ["self"] (defScope sDrop) := ⟨rfl, rfl, rfl, by decide +kernel, rfl, by decide +kernel, by decide +kernel⟩
theorem ok_drop {f C T : Addr} {fd : FuncData} (F : Fun K "drop_keys" "Desk.drop_keys" sDrop f fd) (D : TxD K mg C) : FnOk P w K mg base CX0 1 f fd ["self"] (spDrop C T) := by
  refine F.ok scDrop (fun vs H Q E h => ?_) (fun cdv A outer s H vs Q E hr h => ?_)
  · obtain ⟨p, fp, st, rfl, _⟩ := h
    rfl
  · obtain ⟨a, fp, st, rfl, dk, k⟩ := h
    refine ⟨_, pss_cons (ps_fld (pv 0) (pe_lst pa_nil) rfl) (pss_one (ps_fld (pv 0) pe_int rfl)), ?_⟩
    refine ⟨Nat.zero_le _, fun q hq => ?_⟩
    obtain ⟨dx, d, tl, pl, e1, e2, e3⟩ := dk.newKeys (q := q) (ks := []) (n := 0) hq
    have na : a ≠ q := fun z => by rw [← z, e1] at hq; cases hq
    refine ⟨_, rfl, a, C, dx, _, rfl, (by rw [upd_ne na]; exact e1), D.cl, D.nPressed, (by show 4 < 1000; decide), ?_⟩
    refine ⟨_, rfl, a, C, dx, _, rfl, upd_same, D.cl, D.nPlace, (by show 4 < 1000; decide), ?_⟩
    exact k _ _ e2 e3 fun b o e n => by rw [upd_ne n, upd_ne n, upd_ne (ne_of_none e hq)]; exact e
end
end Wk
namespace Wk
open PySem PySem.Spec PyProof.Rows L2
structure DeskX (C T : Addr) (H : Hp) (a dx d tl pl : Addr) (tas : List Addr) (st : DSt) : Prop where
  ins : H a = some (.ins C dx (deskF d tl pl st.place))
  dict : H d = some (.dT (dv st.D))
  tx : H tl = some (.lst (tas.map V.ref))
  words : WordsAt H tas st.text
  ks : H pl = some (.lst (wv st.keys))
  ne : tl ≠ pl
  tab : Tab T H
theorem DeskX.at {C T : Addr} {H : Hp} {a dx d tl pl : Addr} {tas : List Addr} {st : DSt} (h : DeskX C T H a dx d tl pl tas st) : DeskAt C T H a [a, d, tl, pl, T] st := ⟨⟨dx, d, tl, pl, tas, rfl, h.ins, h.dict, h.tx, h.words, h.ks, h.ne⟩, h.tab⟩
theorem DeskAt.x {C T : Addr} {H : Hp} {a : Addr} {fp : List Addr} {st : DSt} (h : DeskAt C T H a fp st) : ∃ dx d tl pl tas, fp = [a, d, tl, pl, T] ∧ DeskX C T H a dx d tl pl tas st := by
  obtain ⟨⟨dx, d, tl, pl, tas, e0, e1, e2, e3, e4, e5, e6⟩, tb⟩ := h
  exact ⟨dx, d, tl, pl, tas, e0, e1, e2, e3, e4, e5, e6, tb⟩
theorem Frame.upd {fp : List Addr} {H : Hp} {x : Addr} {o : HO} (h : x ∈ fp) : Frame fp fp H (L2.upd H x o) := ⟨fun b u e n => by rw [upd_ne (fun z => n (by rw [z]; exact h))]; exact e, fun _ h => .inl h⟩
theorem Frame.same {fp : List Addr} {H H' : Hp} (e : Same H H') : Frame fp fp H H' := ⟨fun b o h _ => e b o h, fun _ h => .inl h⟩
theorem Tab.keep {T : Addr} {H : Hp} (h : Tab T H) {x : Addr} {o u : HO} (e : H x = some u) (n1 : ∀ q, u ≠ .tbl q) (n2 : ∀ φ, u ≠ .ext φ) : Tab T (L2.upd H x o) := by
  have ne := SameT.ne h e n1
  rcases h with q | ⟨c, q, q'⟩
  · exact .inl (by rw [upd_ne (Ne.symm ne)]; exact q)
  · exact .inr ⟨c, by rw [upd_ne (Ne.symm ne)]; exact q, by rw [upd_ne (ne_of q' e (fun z => n2 _ z.symm))]; exact q'⟩
section
variable {C T : Addr} {H : Hp} {a dx d tl pl : Addr} {tas : List Addr} {st : DSt}
theorem DeskX.sameT {H' : Hp} (h : DeskX C T H a dx d tl pl tas st) (e : SameT T H H') (t : Tab T H') : DeskX C T H' a dx d tl pl tas st := by
  have k : ∀ {b : Addr} {o : HO}, H b = some o → (∀ q, o ≠ .tbl q) → H' b = some o := fun z n => e _ _ z (SameT.ne h.tab z n)
  exact ⟨k h.ins (fun q z => nomatch z), k h.dict (fun q z => nomatch z), k h.tx (fun q z => nomatch z), h.words.mono (fun b v z => k z (fun q z => nomatch z)), k h.ks (fun q z => nomatch z), h.ne, t⟩
theorem DeskX.same {H' : Hp} (h : DeskX C T H a dx d tl pl tas st) (e : Same H H') : DeskX C T H' a dx d tl pl tas st := h.sameT e.t (h.tab.same e)
theorem DeskX.keysTo (h : DeskX C T H a dx d tl pl tas st) (ks : List Nat) : DeskX C T (upd H pl (.lst (wv ks))) a dx d tl pl tas { st with keys := ks } := by
  refine ⟨?_, ?_, ?_, h.words.mono fun b v z => ?_, upd_same, h.ne, h.tab.keep h.ks (fun q z => nomatch z) fun q z => nomatch z⟩
  · rw [upd_ne (ne_of h.ins h.ks fun z => nomatch z)]; exact h.ins
  · rw [upd_ne (ne_of h.dict h.ks fun z => nomatch z)]; exact h.dict
  · rw [upd_ne h.ne]; exact h.tx
  · rw [upd_ne (ne_of z h.ks fun z => nomatch z)]; exact z
theorem DeskX.placeTo (h : DeskX C T H a dx d tl pl tas st) (n : Nat) : DeskX C T (upd H a (.ins C dx (deskF d tl pl n))) a dx d tl pl tas { st with place := n } := by
  refine ⟨upd_same, ?_, ?_, h.words.mono fun b v z => ?_, ?_, h.ne, h.tab.keep h.ins (fun q z => nomatch z) fun q z => nomatch z⟩
  · rw [upd_ne (ne_of h.dict h.ins fun z => nomatch z)]; exact h.dict
  · rw [upd_ne (ne_of h.tx h.ins fun z => nomatch z)]; exact h.tx
  · rw [upd_ne (ne_of z h.ins fun z => nomatch z)]; exact z
  · rw [upd_ne (ne_of h.ks h.ins fun z => nomatch z)]; exact h.ks
theorem DeskX.dictTo (h : DeskX C T H a dx d tl pl tas st) (D : List Ks295.Entry) : DeskX C T (upd H d (.dT (dv D))) a dx d tl pl tas { st with D := D } := by
  refine ⟨?_, upd_same, ?_, h.words.mono fun b v z => ?_, ?_, h.ne, h.tab.keep h.dict (fun q z => nomatch z) fun q z => nomatch z⟩
  · rw [upd_ne (ne_of h.ins h.dict fun z => nomatch z)]; exact h.ins
  · rw [upd_ne (ne_of h.tx h.dict fun z => nomatch z)]; exact h.tx
  · rw [upd_ne (ne_of z h.dict fun z => nomatch z)]; exact z
  · rw [upd_ne (ne_of h.ks h.dict fun z => nomatch z)]; exact h.ks
theorem DeskX.textTo (h : DeskX C T H a dx d tl pl tas st) {x : Addr} {v : List Nat} (hx : H x = some (.tup (wv v))) : DeskX C T (upd H tl (.lst (tas.map V.ref ++ [.ref x]))) a dx d tl pl (tas ++ [x]) { st with text := st.text ++ [v] } := by
  refine ⟨?_, ?_, by rw [upd_same, List.map_append] <;> rfl, ?_, ?_, h.ne, h.tab.keep h.tx (fun q z => nomatch z) fun q z => nomatch z⟩
  · rw [upd_ne (ne_of h.ins h.tx fun z => nomatch z)]; exact h.ins
  · rw [upd_ne (ne_of h.dict h.tx fun z => nomatch z)]; exact h.dict
  · refine WordsAt.snoc (h.words.mono fun b v z => ?_) ?_
    · rw [upd_ne (ne_of z h.tx fun z => nomatch z)]; exact z
    · rw [upd_ne (ne_of hx h.tx fun z => nomatch z)]; exact hx
  · rw [upd_ne (Ne.symm h.ne)]; exact h.ks
end
section
variable {P : Program} {w : World} {K : PySem.W.Frag} {mg : Str → Option Value} {base : Heap}
def Does (C T : Addr) (H : Hp) (a : Addr) (fp : List Addr) (s : Ks297.Abs) (c : Ks297.Call) (Q : VK) : Prop := Desk C T H a fp s ∧ ∀ (H' : Hp) (fp' : List Addr), Desk C T H' a fp' (Ks297.act s c).1 → Frame fp fp' H H' → Q (.int (Ks297.act s c).2.ret) H'
theorem scIsKey : FnScope ["number"] ["number"] (defScope sIsKey) := ⟨rfl, rfl, rfl, by decide +kernel, rfl, by decide +kernel, by decide +kernel⟩
theorem ok_isKey {f C : Addr} {fd : FuncData} (F : Fun K "is_key" "is_key" sIsKey f fd) (D : TxD K mg C) : FnOk P w K mg base CX0 1 f fd ["number"] (spBetween 2 9) := by
  refine F.ok scIsKey (fun vs H Q E h => ?_) (fun cdv A outer s H vs Q E hr h => ?_)
  · obtain ⟨z, rfl, _⟩ := h
    rfl
  · obtain ⟨z, rfl, k⟩ := h
    refine ⟨_, pss_one (ps_ret (pe_chain op_le op_le (pe_gv D.firstK) (pv 0) (pe_gv D.lastK))), ?_⟩
    refine ⟨_, rfl, _, _, rfl, rfl, _, rfl, ite2 (fun h1 => ?_) fun h1 => ?_⟩
    · refine ⟨_, _, rfl, rfl, ?_⟩
      have e : decide (z ≤ 9) = decide (2 ≤ z ∧ z ≤ 9) := by
        have := of_decide_eq_true h1
        exact decide_eq_decide.mpr (by omega)
      show Q (.bl (decide (z ≤ 9))) H
      rw [e]
      exact k
    · have h2 : ¬ (2 ≤ z) := fun q => h1 (decide_eq_true q)
      rw [decide_eq_false (fun q : 2 ≤ z ∧ z ≤ 9 => h2 q.1)] at k
      exact k
def spPress (C T : Addr) : Sp := fun vs H Q _ => ∃ (a : Addr) (fp : List Addr) (s : Ks297.Abs) (k : Nat), vs = [.ref a, .int (k : Int)] ∧ Does C T H a fp s (.key k) Q
theorem scPress : FnScope ["self", "key"] ["self", "key"] (defScope sPress) := ⟨rfl, rfl, rfl, by decide +kernel, rfl, by decide +kernel, by decide +kernel⟩
theorem ok_press {f C T fM fI : Addr} {fd fdM fdI : FuncData} (F : Fun K "press_key" "Desk.press_key" sPress f fd) (W : TxW K mg) (D : TxD K mg C) (GM : FnOk P w K mg base CX0 6 fM fdM ["self"] (spMeant C T)) (mM : Meth K C "meant" fM) (bM : Binds K fdM ["self"] [])
    (GI : FnOk P w K mg base CX0 1 fI fdI ["number"] (spBetween 2 9)) (kI : PySem.W.keepIn K (.ref fI) = true) (mI : mg "is_key" = some (.ref fI)) (bI : Binds K fdI ["number"] []) : FnOk P w K mg base CX0 7 f fd ["self", "key"] (spPress C T) := by
  refine F.ok scPress (fun vs H Q E h => ?_) (fun cdv A outer s H vs Q E hr h => ?_)
  · obtain ⟨p, fp, s, k, rfl, _⟩ := h
    rfl
  · obtain ⟨a, fp, s, k, rfl, ⟨st, dk, r⟩, kk⟩ := h
    obtain ⟨dx, d, tl, pl, tas, rfl, X⟩ := dk.x
    have line : sizeLine = 16777216 := sizeLine_eq
    have hr1 : Room 1 _ := hr.mono (by decide)
    refine ⟨_, pss_cons (ps_if (pt_not (pt_val (pe_call GI hr1 rfl mI kI bI .nil pass0 (pa_cons (pv 1) pa_nil)))) (pss_one (ps_ret (pe_gv D.valid))) pss_nil)
      (pss_cons (ps_if (pt_cmpR op_eq (pe_callB call_len_seq (by rfl) W.len PySem.boot_len (pa_cons (pe_fld (pv 0) rfl) pa_nil)) (pe_gv D.mostK) (nomark _)) (pss_one (ps_ret (pe_gv D.room))) pss_nil)
      (pss_cons (ps_expr (pe_bm PySem.F.plainAttrs_list PySem.F.slot_list_append PySem.F.type_list_append mt_append (pe_fld (pv 0) rfl) (pa_cons (pv 1) pa_nil)))
      (pss_cons (ps_fld (pv 0) pe_int rfl)
      (pss_one (ps_ret (pe_callB call_len_seq (by rfl) W.len PySem.boot_len (pa_cons (pe_meth0 (pv 0) D.cl mM GM hr bM .nil pass0) pa_nil))))))), ?_⟩
    refine ⟨_, rfl, _, rfl, _, rfl, ite2 (fun h0 => ?_) fun h0 => ?_⟩
    · have z : k < 2 ∨ 9 < k := by
        rw [Bool.not_eq_true', decide_eq_false_iff_not] at h0
        omega
      have e : Ks297.act s (.key k) = (s, Ks297.no (-22)) := if_pos z
      have := kk H _ (by rw [e]; exact ⟨st, dk, r⟩) (Frame.refl _ H)
      rw [e] at this
      exact this
    · have z : ¬ (k < 2 ∨ 9 < k) := by
        rw [Bool.not_eq_true', decide_eq_false_iff_not, Classical.not_not] at h0
        omega
      refine ⟨_, rfl, a, C, dx, _, _, rfl, X.ins, D.cl, D.nPressed, deskF_pressed _ _ _ _, pl, _, rfl, .inl (SqL.of X.ks), rfl, _, rfl, ite2 (fun h1 => ?_) fun h1 => ?_⟩
      · have h2 : st.keys.length = 12 := by
          have := of_decide_eq_true h1
          injection this with h3
          rw [wv_len] at h3
          omega
        have e : Ks297.act s (.key k) = (s, Ks297.no (-12)) := (if_neg z).trans (if_pos (by rw [r.keys, h2]; decide))
        have := kk H _ (by rw [e]; exact ⟨st, dk, r⟩) (Frame.refl _ H)
        rw [e] at this
        exact this
      · have h2 : st.keys.length < 12 := by
          have h3 : st.keys.length ≠ 12 := fun y => h1 (decide_eq_true (by rw [wv_len, y] <;> rfl))
          have := r.k12
          omega
        have e : Ks297.act s (.key k) = ({ s with keys := s.keys ++ [k], place := 0 }, Ks297.no (Ks297.Abs.meant { s with keys := s.keys ++ [k], place := 0 }).length) := (if_neg z).trans (if_neg (by rw [r.keys]; show ¬ 12 ≤ _; omega))
        refine ⟨_, rfl, a, C, dx, _, _, rfl, X.ins, D.cl, D.nPressed, deskF_pressed _ _ _ _, .inl ⟨rfl, _, SqL.of X.ks⟩, _, rfl, pl, _, _, rfl, rfl, X.ks, (by rw [wv_len]; omega), ?_⟩
        have X1 := X.keysTo (st.keys ++ [k])
        have ek : wv st.keys ++ [V.int (k : Int)] = wv (st.keys ++ [k]) := by rw [wv_app]; rfl
        rw [ek]
        refine ⟨_, rfl, a, C, dx, _, rfl, X1.ins, D.cl, D.nPlace, (by show 4 < 1000; decide), ?_⟩
        rw [putF_place]
        have X2 := X1.placeTo 0
        have r2 := r.key (k := k) h2
        have f2 : Frame [a, d, tl, pl, T] [a, d, tl, pl, T] H (upd (upd H pl (.lst (wv (st.keys ++ [k])))) a (.ins C dx (deskF d tl pl 0))) := (Frame.upd (by simp)).trans (Frame.upd (by simp))
        refine ⟨_, rfl, a, dx, _, rfl, X2.ins, rfl, a, _, _, rfl, ⟨_, X2.at, r2⟩, fun H' p out t1 t2 t3 t4 t5 => ?_⟩
        refine ⟨p, _, rfl, .inl (SqL.of t4), ?_⟩
        have := kk H' _ (by rw [e]; exact ⟨_, (X2.sameT t1 t2).at, r2⟩) (f2.trans (Frame.sameT t1 (by simp)))
        rw [e] at this
        have el : ((out.map V.ref).length : Int) = ((Ks297.Abs.meant { s with keys := s.keys ++ [k], place := 0 }).length : Int) := by
          rw [List.length_map, t5.1, List.length_map]
        show Q (.int ((out.map V.ref).length : Int)) H'
        rw [el]
        exact this
end
end Wk
namespace Wk
open PySem PySem.Spec PyProof.Rows L2
section
variable {P : Program} {w : World} {K : PySem.W.Frag} {mg : Str → Option Value} {base : Heap}
def spNext (C T : Addr) : Sp := fun vs H Q _ => ∃ (a : Addr) (fp : List Addr) (s : Ks297.Abs), vs = [.ref a] ∧ Does C T H a fp s .next Q
theorem scNext : FnScope ["self", "how_many"] ["self"] (defScope sNext) := ⟨rfl, rfl, rfl, by decide +kernel, rfl, by decide +kernel, by decide +kernel⟩
theorem ok_next {f C T fM : Addr} {fd fdM : FuncData} (F : Fun K "show_next" "Desk.show_next" sNext f fd) (W : TxW K mg) (D : TxD K mg C) (GM : FnOk P w K mg base CX0 6 fM fdM ["self"] (spMeant C T)) (mM : Meth K C "meant" fM) (bM : Binds K fdM ["self"] []) :
    FnOk P w K mg base CX0 7 f fd ["self"] (spNext C T) := by
  refine F.ok scNext (fun vs H Q E h => ?_) (fun cdv A outer s H vs Q E hr h => ?_)
  · obtain ⟨p, fp, s, rfl, _⟩ := h
    rfl
  · obtain ⟨a, fp, s, rfl, ⟨st, dk, r⟩, kk⟩ := h
    obtain ⟨dx, d, tl, pl, tas, rfl, X⟩ := dk.x
    refine ⟨_, pss_cons (ps_set (i := 1) scNext.nd rfl (Or.inl rfl) (pe_callB call_len_seq (by rfl) W.len PySem.boot_len (pa_cons (pe_meth0 (pv 0) D.cl mM GM hr bM .nil pass0) pa_nil)))
      (pss_cons (ps_if (pt_cmpR op_eq (pv 1) pe_int (nomark _)) (pss_one (ps_ret (pe_gv D.noWord))) pss_nil)
      (pss_cons (ps_fld (pv 0) (pe_op op_mod (pe_op op_add (pe_fld (pv 0) rfl) pe_int) (pv 1)) rfl)
      (pss_one (ps_ret (pe_fld (pv 0) rfl))))), ?_⟩
    refine ⟨_, rfl, a, dx, _, rfl, X.ins, rfl, a, _, _, rfl, ⟨_, X.at, r⟩, fun H1 p out t1 t2 t3 t4 t5 => ?_⟩
    have X1 := X.sameT t1 t2
    have f1 : Frame [a, d, tl, pl, T] [a, d, tl, pl, T] H H1 := Frame.sameT t1 (by simp)
    have el : out.length = s.meant.length := by rw [t5.1, List.length_map]
    refine ⟨p, _, rfl, .inl (SqL.of t4), ?_⟩
    rw [List.length_map, el]
    refine ⟨_, rfl, rfl, _, rfl, ite2 (fun h1 => ?_) fun h1 => ?_⟩
    · have h2 : s.meant = [] := by
        have := of_decide_eq_true h1
        injection this with h3
        exact List.length_eq_zero_iff.mp (by omega)
      have e : Ks297.act s .next = (s, Ks297.no (-61)) := if_pos h2
      have := kk H1 _ (by rw [e]; exact ⟨_, X1.at, r⟩) f1
      rw [e] at this
      exact this
    · have h2 : s.meant ≠ [] := fun z => h1 (decide_eq_true (by rw [z] <;> rfl))
      have e : Ks297.act s .next = ({ s with place := (s.place + 1) % s.meant.length }, Ks297.no ((s.place + 1) % s.meant.length : Nat)) := if_neg h2
      have hpos : 0 < s.meant.length := List.length_pos_iff.mpr h2
      refine ⟨_, rfl, a, C, dx, _, _, rfl, X1.ins, D.cl, D.nPlace, deskF_place _ _ _ _, _, _, rfl, rfl, _, rfl, _, _, rfl, rfl, (by show (0 : Int) < (s.meant.length : Int); omega), _, rfl, a, C, dx, _, rfl, X1.ins, D.cl, D.nPlace, (by show 4 < 1000; decide), ?_⟩
      have em : ((st.place : Int) + 1) % (s.meant.length : Int) = (((st.place + 1) % s.meant.length : Nat) : Int) := by
        rw [Int.natCast_emod]; rfl
      dsimp only
      rw [em, putF_place]
      have X2 := X1.placeTo ((st.place + 1) % s.meant.length)
      refine ⟨_, rfl, a, C, dx, _, _, rfl, X2.ins, D.cl, D.nPlace, deskF_place _ _ _ _, ?_⟩
      have := kk _ _ (by rw [e]; exact ⟨_, X2.at, r.next h2⟩) (f1.trans (Frame.upd (by simp)))
      rw [e] at this
      rw [r.place] at this
      exact this
def spShown (C T : Addr) : Sp := fun vs H Q _ => ∃ (a : Addr) (fp : List Addr) (s : Ks297.Abs), vs = [.ref a] ∧ Desk C T H a fp s ∧ ∀ (H' : Hp) (v : V), SameT T H H' → Tab T H' → (s.shown = none → v = .non) → (∀ u, s.shown = some u → ∃ x, v = .ref x ∧ H' x = some (.tup (wv u))) → Q v H'
theorem scShown : FnScope ["self", "meant"] ["self"] (defScope sShown) := ⟨rfl, rfl, rfl, by decide +kernel, rfl, by decide +kernel, by decide +kernel⟩
theorem ok_shown {f C T fM : Addr} {fd fdM : FuncData} (F : Fun K "shown" "Desk.shown" sShown f fd) (W : TxW K mg) (D : TxD K mg C) (GM : FnOk P w K mg base CX0 6 fM fdM ["self"] (spMeant C T)) (mM : Meth K C "meant" fM) (bM : Binds K fdM ["self"] []) :
    FnOk P w K mg base CX0 7 f fd ["self"] (spShown C T) := by
  refine F.ok scShown (fun vs H Q E h => ?_) (fun cdv A outer s H vs Q E hr h => ?_)
  · obtain ⟨p, fp, s, rfl, _⟩ := h
    rfl
  · obtain ⟨a, fp, s, rfl, ⟨st, dk, r⟩, kk⟩ := h
    obtain ⟨dx, d, tl, pl, tas, rfl, X⟩ := dk.x
    refine ⟨_, pss_cons (ps_set (i := 1) scShown.nd rfl (Or.inl rfl) (pe_meth0 (pv 0) D.cl mM GM hr bM .nil pass0))
      (pss_one (ps_ret (pe_ifExp (pt_cmpR op_gt (pe_callB call_len_seq (by rfl) W.len PySem.boot_len (pa_cons (pv 1) pa_nil)) pe_int (nomark _)) (pe_ix ix_list (pv 1) (pe_fld (pv 0) rfl) (fun _ _ => rfl)) pe_non))), ?_⟩
    refine ⟨_, rfl, a, dx, _, rfl, X.ins, rfl, a, _, _, rfl, ⟨_, X.at, r⟩, fun H1 p out t1 t2 t3 t4 t5 => ?_⟩
    have X1 := X.sameT t1 t2
    have el : out.length = s.meant.length := by rw [t5.1, List.length_map]
    refine ⟨_, rfl, p, _, rfl, .inl (SqL.of t4), _, _, rfl, rfl, _, rfl, ?_⟩
    rw [List.length_map, el]
    refine ite2 (fun h1 => ?_) fun h1 => ?_
    · have h2 : s.meant ≠ [] := fun z => by
        have := of_decide_eq_true h1
        rw [z] at this
        simp at this
      obtain ⟨en, hen, hsh, hin⟩ := r.shown h2
      have hpl : st.place < out.length := by rw [el]; exact (List.getElem?_eq_some_iff.mp hen).1
      obtain ⟨x, hx⟩ : ∃ x, out[st.place]? = some x := ⟨_, List.getElem?_eq_getElem hpl⟩
      have hxw : H1 x = some (.tup (wv en.word)) := t5.2 st.place x en.word hx (by rw [List.getElem?_map, hen]; rfl)
      refine ⟨_, rfl, _, rfl, a, C, dx, _, _, rfl, X1.ins, D.cl, D.nPlace, deskF_place _ _ _ _, p, _, _, _, rfl, rfl, SqL.of t4, at_of (j := st.place) (v := V.ref x) rfl (by rw [List.getElem?_map, hx]; rfl), ?_⟩
      exact kk H1 _ t1 t2 (fun z => by rw [hsh] at z; cases z) fun u hu => ⟨x, rfl, by rw [hsh] at hu; cases hu; exact hxw⟩
    · have h2 : s.meant = [] := by
        cases q : s.meant with
        | nil => rfl
        | cons x l => exact absurd (decide_eq_true (by rw [q]; simp)) h1
      exact kk H1 _ t1 t2 (fun _ => rfl) fun u hu => by rw [R.noShown (st := st) h2] at hu; cases hu
def zv (l : List Int) : List V := l.map V.int
theorem zv_ints (l : List Nat) : zv (Ks297Neutral.ints l) = wv l := by unfold zv Ks297Neutral.ints wv; rw [List.map_map]; rfl
def DoesL (C T : Addr) (H : Hp) (a : Addr) (fp : List Addr) (s : Ks297.Abs) (c : Ks297.Call) (Q : VK) : Prop := Desk C T H a fp s ∧ ∀ (H' : Hp) (p : Addr), Desk C T H' a fp (Ks297.act s c).1 → Frame fp fp H H' → H p = none →
  H' p = some (.lst (.int (Ks297.act s c).2.ret :: wv (Ks297.act s c).2.out)) → Q (.ref p) H'
def spGuess (C T : Addr) : Sp := fun vs H Q _ => ∃ (a : Addr) (fp : List Addr) (s : Ks297.Abs), vs = [.ref a] ∧ DoesL C T H a fp s .guess Q
theorem scGuess : FnScope ["self", "word"] ["self"] (defScope sGuess) := ⟨rfl, rfl, rfl, by decide +kernel, rfl, by decide +kernel, by decide +kernel⟩
theorem ok_guess {f C T fS fL : Addr} {fd fdS fdL : FuncData} (F : Fun K "guess" "Desk.guess" sGuess f fd) (D : TxD K mg C) (GS : FnOk P w K mg base CX0 7 fS fdS ["self"] (spShown C T)) (mS : Meth K C "shown" fS) (bS : Binds K fdS ["self"] [])
    (GL : FnOk P w K mg base CX0 1 fL fdL ["signs"] (spWithLen K)) (kL : PySem.W.keepIn K (.ref fL) = true) (mL : mg "with_length" = some (.ref fL)) (bL : Binds K fdL ["signs"] []) : FnOk P w K mg base CX0 8 f fd ["self"] (spGuess C T) := by
  refine F.ok scGuess (fun vs H Q E h => ?_) (fun cdv A outer s H vs Q E hr h => ?_)
  · obtain ⟨p, fp, s, rfl, _⟩ := h
    rfl
  · obtain ⟨a, fp, s, rfl, ⟨st, dk, r⟩, kk⟩ := h
    obtain ⟨dx, d, tl, pl, tas, rfl, X⟩ := dk.x
    have hr1 : Room 1 _ := hr.mono (by decide)
    have line : sizeLine = 16777216 := sizeLine_eq
    refine ⟨_, pss_cons (ps_set (i := 1) scGuess.nd rfl (Or.inl rfl) (pe_meth0 (pv 0) D.cl mS GS hr bS .nil pass0))
      (pss_one (ps_ret (pe_ifExp (pt_cmpR op_isN (pv 1) pe_non (nomark _)) (pe_lst (pa_cons (pe_gv D.noWord) pa_nil)) (pe_call GL hr1 rfl mL kL bL .nil pass0 (pa_cons (pv 1) pa_nil))))), ?_⟩
    refine ⟨_, rfl, a, dx, _, rfl, X.ins, rfl, a, _, _, rfl, ⟨_, X.at, r⟩, fun H1 v t1 t2 n1 n2 => ?_⟩
    have X1 := X.sameT t1 t2
    have f1 : Frame [a, d, tl, pl, T] [a, d, tl, pl, T] H H1 := Frame.sameT t1 (by simp)
    have free : ∀ {p : Addr}, H1 p = none → H p = none := fun {p} z => by
      cases q : H p with
      | none => rfl
      | some o =>
        by_cases y : p = T
        · subst y
          rcases t2 with w' | ⟨_, w', _⟩
          · rw [w'] at z; cases z
          · rw [w'] at z; cases z
        · rw [t1 _ _ q y] at z; cases z
    cases hsh : s.shown with
    | none =>
      have ev := n1 hsh
      subst ev
      refine ⟨_, rfl, rfl, _, rfl, iteT ⟨(by show 1 ≤ sizeLine; rw [line]; decide), fun p hp => ?_⟩⟩
      have e : Ks297.act s .guess = (s, Ks297.no (-61)) := by unfold Ks297.act; rw [hsh]
      have s2 : Same H1 (upd H1 p (.lst [.int (-61)])) := same_new hp
      have := kk _ p (by rw [e]; exact ⟨_, (X1.same s2).at, r⟩) (f1.trans (Frame.same s2)) (free hp)
      rw [e] at this
      exact this upd_same
    | some u =>
      obtain ⟨x, ev, hx⟩ := n2 u hsh
      subst ev
      have hul : u.length ≤ 100000 := by
        have hne : s.meant ≠ [] := fun z => by rw [R.noShown (st := st) z] at hsh; cases hsh
        obtain ⟨en, hen, hsh2, hin⟩ := r.shown hne
        rw [hsh] at hsh2
        cases hsh2
        have := (word_len (r.good en hin).1).2
        omega
      refine ⟨_, rfl, rfl, _, rfl, iteF ⟨_, rfl, x, _, rfl, .inr (SqT.of hx), (by rw [wv_len]; exact hul), fun H2 p s2 hp hp2 => ?_⟩⟩
      have e : Ks297.act s .guess = (s, Ks297.told u) := by unfold Ks297.act; rw [hsh]
      have := kk H2 p (by rw [e]; exact ⟨_, (X1.same s2).at, r⟩) (f1.trans (Frame.same s2)) (free hp)
      rw [e] at this
      rw [wv_len] at hp2
      exact this hp2
def Roomy (st : DSt) (ws : List (List Nat)) : Prop := st.text.length + ws.length ≤ 100 ∧ ∀ v ∈ ws, cntD st.D v + ws.count v ≤ 1000000
def spRoom (K : PySem.W.Frag) (C T : Addr) : Sp := fun vs H Q _ => ∃ (a q : Addr) (fp : List Addr) (st : DSt) (as : List Addr) (ws : List (List Nat)), vs = [.ref a, .ref q] ∧ DeskAt C T H a fp st ∧ SqT K H q (as.map V.ref) ∧ NoD K H q ∧ WordsAt H as ws ∧ ws.length ≤ 100 ∧ (∀ v ∈ ws, Ks295.has st.D v = true) ∧
  (Roomy st ws → ∀ H', Same H H' → Q (.bl true) H') ∧ (¬ Roomy st ws → ∀ H', Same H H' → Q (.bl false) H')
theorem scRoom : FnScope ["self", "words", "word"] ["self", "words"] (defScope sRoom) := ⟨rfl, rfl, rfl, by decide +kernel, rfl, by decide +kernel, by decide +kernel⟩
theorem ok_room {f C T : Addr} {fd : FuncData} (F : Fun K "has_room_for" "Desk.has_room_for" sRoom f fd) (W : TxW K mg) (D : TxD K mg C) : FnOk P w K mg base CX0 1 f fd ["self", "words"] (spRoom K C T) := by
  refine F.ok scRoom (fun vs H Q E h => ?_) (fun cdv A outer s H vs Q E hr h => ?_)
  · obtain ⟨a, q, fp, st, as, ws, rfl, _⟩ := h
    rfl
  · obtain ⟨a, q, fp, st, as, ws, rfl, dk, hq, hnd, hw, h100, hhas, kT, kF⟩ := h
    obtain ⟨dx, d, tl, pl, tas, rfl, X⟩ := dk.x
    have line : sizeLine = 16777216 := sizeLine_eq
    have hu := hu_of hr
    refine ⟨_, pss_cons (ps_if (pt_cmpR op_gt (pe_op op_add (pe_callB call_len_seq (by rfl) W.len PySem.boot_len (pa_cons (pe_fld (pv 0) rfl) pa_nil)) (pe_callB call_len_seq (by rfl) W.len PySem.boot_len (pa_cons (pv 1) pa_nil))) (pe_gv D.mostT) (nomark _)) (pss_one (ps_ret pe_bl)) pss_nil)
      (pss_one (ps_ret (pe_callB (cr_all rfl) (by rfl) W.all boot_all (pa_cons (pe_lc (own := [("word", 2)]) rfl scRoom.nd (pi_tup (pv 1)) (show BlkOk ["self", "words", "word"] (defScope sRoom) _ [("word", 2)] from blkOk_by (by decide +kernel)) (fun s H C cl fp => pg_name (i := 2) scRoom.nd rfl (Or.inl rfl)) (fun s H C cl fp => pts_nil)
        (fun s H C cl fp => pe_cmpR op_le (pe_op op_add (pe_dget hu (show PE _ _ (tFld K (tVar 0) "counts") from pe_fld (pv 0) rfl) (pv 2) (fun _ _ => rfl)) (show PE _ _ (tBMT K (rCountT K) (tVar 1) (tCons (tVar 2) tNil)) from pe_bmT PySem.F.plainAttrs_tuple PySem.F.slot_tuple_count PySem.F.type_tuple_count (mt_countT hr.units) (pv 1) (pa_cons (pv 2) pa_nil))) (pe_gv W.mostC) (nomark _))) pa_nil)))), ?_⟩
    refine ⟨_, rfl, a, C, dx, _, _, rfl, X.ins, D.cl, D.nText, deskF_text _ _ _ _, tl, _, rfl, .inl (SqL.of X.tx), _, rfl, q, _, rfl, .inr hq, _, _, rfl, rfl, _, _, rfl, rfl, _, rfl, ?_⟩
    dsimp only
    rw [List.length_map, List.length_map, X.words.1, hw.1]
    refine ite2 (fun h1 => kF (fun z => ?_) H (Same.refl H)) fun h1 => ?_
    · have := of_decide_eq_true h1
      have := z.1
      omega
    have h2 : st.text.length + ws.length ≤ 100 := by
      have : ¬ ((st.text.length : Int) + (ws.length : Int) > 100) := fun z => h1 (decide_eq_true z)
      omega
    let fb : List Nat → Bool := fun v => decide (cntD st.D v + ws.count v ≤ 1000000)
    refine ⟨_, rfl, q, rfl, ⟨_, hq⟩, fun L hL => lc_tup (K := K) (a := q) (xs := as.map V.ref) (fun i H' => Same H H' ∧ H' L = some (.lst (((ws.take i).map fb).map V.bl))) ⟨same_new hL, upd_same⟩ (fun i H' _ p => p.1.tupl hq) ?_ ?_⟩
    · rintro i x H' hi ⟨e, hd⟩
      obtain ⟨b, hb, rfl⟩ := refs_at hi
      obtain ⟨v, hv, hbv⟩ := hw.at hb
      have lk := look_has (hhas v (List.mem_of_getElem? hv))
      have dg : DGet H' d (.ref b) (some (.int (cntD st.D v : Nat))) := by
        have z := DGet.t (e _ _ X.dict) (show H' b = some (.tup ((kw v).map kV)) by rw [kw_kV]; exact e _ _ hbv)
        rw [dv_val, lk] at z
        exact z
      refine ⟨rfl, yes_of ⟨_, rfl, a, C, dx, _, _, rfl, e _ _ X.ins, D.cl, D.nCounts, deskF_counts _ _ _ _, _, rfl, d, _, rfl, dg, _, rfl, ⟨q, _, rfl, e.tupl hq, hnd.mono fun o u z => e _ _ z⟩, _, rfl, q, b, as, ws, v, rfl, rfl, e.tupl hq, (hw.mono fun c u z => e _ _ z).k, SqT.of (e _ _ hbv), _, _, rfl, rfl, _, _, rfl, rfl, ?_⟩⟩
      refine ⟨_, hd, ?_, same_upd e hL, ?_⟩
      · rw [List.length_map, List.length_map, List.length_take]; omega
      · rw [upd_same, take_one hv, List.map_append, List.map_append]
        have ed : decide ((cntD st.D v : Int) + (ws.count v : Int) ≤ 1000000) = fb v := decide_eq_decide.mpr (by omega)
        show some (HO.lst (_ ++ [V.bl (decide ((cntD st.D v : Int) + (ws.count v : Int) ≤ 1000000))])) = _
        rw [ed]; rfl
    · rintro H' ⟨e, hd⟩
      rw [List.length_map, hw.1, List.take_length] at hd
      refine ⟨L, _, rfl, SqL.of hd, ?_⟩
      rw [List.all_map]
      cases z : ws.all (id ∘ fb) with
      | true =>
        exact kT ⟨h2, fun v hv => of_decide_eq_true (List.all_eq_true.mp z v hv)⟩ H' e
      | false =>
        refine kF (fun y => ?_) H' e
        have : ws.all (id ∘ fb) = true := List.all_eq_true.mpr fun v hv => decide_eq_true (y.2 v hv)
        rw [z] at this; cases this
def spAddT (K : PySem.W.Frag) (C T : Addr) : Sp := fun vs H Q _ => ∃ (a q : Addr) (fp : List Addr) (st : DSt) (as : List Addr) (ws : List (List Nat)), vs = [.ref a, .ref q] ∧ DeskAt C T H a fp st ∧ SqT K H q (as.map V.ref) ∧ WordsAt H as ws ∧ ws.length ≤ 100 ∧ st.text.length ≤ 100 ∧ st.D.length ≤ 64 ∧ (∀ v ∈ ws, Ks295.has st.D v = true) ∧
  ∀ H', DeskAt C T H' a fp { st with D := ws.foldl incE st.D, text := st.text ++ ws } → Frame fp fp H H' → Q .non H'
theorem scAddT : FnScope ["self", "words", "word"] ["self", "words"] (defScope sAddT) := ⟨rfl, rfl, rfl, by decide +kernel, rfl, by decide +kernel, by decide +kernel⟩
theorem ok_addT {f C T : Addr} {fd : FuncData} (F : Fun K "add_to_text" "Desk.add_to_text" sAddT f fd) (W : TxW K mg) (D : TxD K mg C) : FnOk P w K mg base CX0 1 f fd ["self", "words"] (spAddT K C T) := by
  refine F.ok scAddT (fun vs H Q E h => ?_) (fun cdv A outer s H vs Q E hr h => ?_)
  · obtain ⟨a, q, fp, st, as, ws, rfl, _⟩ := h
    rfl
  · obtain ⟨a, q, fp, st, as, ws, rfl, dk, hq, hw, h100, ht100, h64, hhas, kk⟩ := h
    obtain ⟨dx, d, tl, pl, tas, rfl, X⟩ := dk.x
    have line : sizeLine = 16777216 := sizeLine_eq
    have hu := hu_of hr
    refine ⟨_, pss_one (ps_for PassesOwn.never rfl (pi_tup (pv 1)) (pg_name (i := 2) scAddT.nd rfl (Or.inl rfl))
      (pss_cons (ps_expr (pe_bm PySem.F.plainAttrs_list PySem.F.slot_list_append PySem.F.type_list_append mt_append (pe_fld (pv 0) rfl) (pa_cons (pv 2) pa_nil)))
      (pss_one (ps_daug hu (pe_fld (pv 0) rfl) (pv 2) pe_int in_add (fun _ _ _ => rfl))))), ?_⟩
    have tupKeep : ∀ {H' : Hp} {tas' : List Addr} {st' : DSt}, DeskX C T H' a dx d tl pl tas' st' → (∀ b u, H b = some (.tup u) → H' b = some (.tup u)) → True := fun _ _ => trivial
    refine ⟨_, rfl, q, rfl, ⟨_, hq⟩, for_tup (K := K) (a := q) (xs := as.map V.ref) (fun i σ H' => ∃ (v : Option V) (tas' : List Addr), σ = [some (.ref a), some (.ref q), v] ∧ DeskX C T H' a dx d tl pl tas' { st with D := (ws.take i).foldl incE st.D, text := st.text ++ ws.take i } ∧ Frame [a, d, tl, pl, T] [a, d, tl, pl, T] H H' ∧
        (∀ b u, H b = some (.tup u) → H' b = some (.tup u)) ∧ SqT K H' q (as.map V.ref)) ⟨none, tas, rfl, by simpa using X, Frame.refl _ _, fun b u z => z, hq⟩ (fun i σ H' _ ⟨_, _, _, _, _, _, z⟩ => z) ?_ ?_⟩
    · rintro i y σ H' hi ⟨v, tas', rfl, X1, f1, tk, hq1⟩
      obtain ⟨b, hb, rfl⟩ := refs_at hi
      obtain ⟨u, hu', hbu⟩ := hw.at hb
      have hil : i < ws.length := (List.getElem?_eq_some_iff.mp hu').1
      have hin : Ks295.has st.D u = true := hhas u (List.mem_of_getElem? hu')
      have hin2 : Ks295.has ((ws.take i).foldl incE st.D) u = true := by rw [has_fold]; exact hin
      have hb1 := tk _ _ hbu
      have len1 : tas'.length ≤ 200 := by
        rw [X1.words.1]
        simp only [List.length_append, List.length_take]
        omega
      refine ⟨_, rfl, a, C, dx, _, _, rfl, X1.ins, D.cl, D.nText, deskF_text _ _ _ _, .inl ⟨rfl, _, SqL.of X1.tx⟩, _, rfl, tl, _, _, rfl, rfl, X1.tx, (by rw [List.length_map]; omega), ?_⟩
      have X2 := X1.textTo hb1
      have hb2 : (upd H' tl (.lst (tas'.map V.ref ++ [.ref b]))) b = some (.tup (wv u)) := by rw [upd_ne (ne_of hb1 X1.tx fun z => nomatch z)]; exact hb1
      have f2 : Frame [a, d, tl, pl, T] [a, d, tl, pl, T] H (upd H' tl (.lst (tas'.map V.ref ++ [.ref b]))) := f1.trans (Frame.upd (by simp))
      have tk2 : ∀ c o, H c = some (.tup o) → (upd H' tl (.lst (tas'.map V.ref ++ [.ref b]))) c = some (.tup o) := fun c o z => by rw [upd_ne (ne_of (tk _ _ z) X1.tx fun z => nomatch z)]; exact tk _ _ z
      have hq2 : SqT K (upd H' tl (.lst (tas'.map V.ref ++ [.ref b]))) q (as.map V.ref) := sqt_upd hq1 X1.tx
      generalize upd H' tl (.lst (tas'.map V.ref ++ [.ref b])) = H2 at X2 hb2 f2 tk2 hq2
      have lk := look_has hin2
      have dg : DGet H2 d (.ref b) (some (.int (cntD ((ws.take i).foldl incE st.D) u : Nat))) := by
        have z := DGet.t X2.dict (show H2 b = some (.tup ((kw u).map kV)) by rw [kw_kV]; exact hb2)
        rw [dv_val, lk] at z
        exact z
      refine ⟨_, rfl, a, C, dx, _, _, rfl, X2.ins, D.cl, D.nCounts, deskF_counts _ _ _ _, _, rfl, d, _, rfl, dg, _, _, rfl, rfl, _, DPut.t X2.dict (by rw [kw_kV]; exact hb2) (by rw [dv_len]; show ((ws.take i).foldl incE st.D).length < sizeLine; rw [fold_len]; omega), ?_⟩
      have ep : putK (dv ((ws.take i).foldl incE st.D)) (kw u) (V.int ((cntD ((ws.take i).foldl incE st.D) u : Int) + 1)) = dv (incE ((ws.take i).foldl incE st.D) u) := dv_put_old (n := cntD ((ws.take i).foldl incE st.D) u + 1) hin2
      have X3 := X2.dictTo (incE ((ws.take i).foldl incE st.D) u)
      refine ⟨_, tas' ++ [b], rfl, ?_, ?_, fun c o z => ?_, ?_⟩
      · show DeskX C T (upd H2 d (.dT (putK (dv ((ws.take i).foldl incE st.D)) (kw u) (V.int ((cntD ((ws.take i).foldl incE st.D) u : Int) + 1))))) a dx d tl pl (tas' ++ [b]) { st with D := (ws.take (i + 1)).foldl incE st.D, text := st.text ++ ws.take (i + 1) }
        rw [ep, foldl_take hu', take_one hu', ← List.append_assoc]
        exact X3
      · exact f2.trans (Frame.upd (by simp))
      · rw [upd_ne (ne_of (tk2 _ _ z) X2.dict fun z => nomatch z)]; exact tk2 _ _ z
      · rcases hq2 with (z | ⟨o, z⟩) | z
        · exact .inl (.inl (by rw [upd_ne (ne_of z X2.dict fun z => nomatch z)]; exact z))
        · exact .inl (.inr ⟨o, by rw [upd_ne (ne_of z X2.dict fun z => nomatch z)]; exact z⟩)
        · exact .inr z
    · rintro σ H' ⟨v, tas', rfl, X1, f1, _, _⟩
      rw [List.length_map, hw.1, List.take_length] at X1
      exact kk H' X1.at f1
def spTake (C T : Addr) : Sp := fun vs H Q _ => ∃ (a : Addr) (fp : List Addr) (s : Ks297.Abs), vs = [.ref a] ∧ Does C T H a fp s .take Q
theorem scTake : FnScope ["self", "word"] ["self"] (defScope sTake) := ⟨rfl, rfl, rfl, by decide +kernel, rfl, by decide +kernel, by decide +kernel⟩
theorem ok_take {f C T fS fR fA fP : Addr} {fd fdS fdR fdA fdP : FuncData} (F : Fun K "take" "Desk.take" sTake f fd) (W : TxW K mg) (D : TxD K mg C) (GS : FnOk P w K mg base CX0 7 fS fdS ["self"] (spShown C T)) (mS : Meth K C "shown" fS) (bS : Binds K fdS ["self"] [])
    (GR : FnOk P w K mg base CX0 1 fR fdR ["self", "words"] (spRoom K C T)) (mR : Meth K C "has_room_for" fR) (bR : Binds K fdR ["self", "words"] []) (GA : FnOk P w K mg base CX0 1 fA fdA ["self", "words"] (spAddT K C T)) (mA : Meth K C "add_to_text" fA) (bA : Binds K fdA ["self", "words"] [])
    (GP : FnOk P w K mg base CX0 1 fP fdP ["self"] (spDrop C T)) (mP : Meth K C "drop_keys" fP) (bP : Binds K fdP ["self"] []) : FnOk P w K mg base CX0 8 f fd ["self"] (spTake C T) := by
  refine F.ok scTake (fun vs H Q E h => ?_) (fun cdv A outer s H vs Q E hr h => ?_)
  · obtain ⟨p, fp, s, rfl, _⟩ := h
    rfl
  · obtain ⟨a, fp, s, rfl, ⟨st, dk, r⟩, kk⟩ := h
    obtain ⟨dx, d, tl, pl, tas, rfl, X⟩ := dk.x
    have line : sizeLine = 16777216 := sizeLine_eq
    have hr1 : Room 1 _ := hr.mono (by decide)
    refine ⟨_, pss_cons (ps_set (i := 1) scTake.nd rfl (Or.inl rfl) (pe_meth0 (pv 0) D.cl mS GS hr bS .nil pass0))
      (pss_cons (ps_if (pt_cmpR op_isN (pv 1) pe_non (nomark _)) (pss_one (ps_ret (pe_gv D.noWord))) pss_nil)
      (pss_cons (ps_if (pt_not (pt_val (pe_meth (pv 0) D.cl mR GR hr1 bR .nil pass0 (pa_cons (pe_tupF (pa_cons (pv 1) pa_nil)) pa_nil)))) (pss_one (ps_ret (pe_gv D.room))) pss_nil)
      (pss_cons (ps_expr (pe_meth (pv 0) D.cl mA GA hr1 bA .nil pass0 (pa_cons (pe_tup (pa_cons (pv 1) pa_nil)) pa_nil)))
      (pss_cons (ps_expr (pe_meth0 (pv 0) D.cl mP GP hr1 bP .nil pass0))
      (pss_one (ps_ret (pe_callB call_len_seq (by rfl) W.len PySem.boot_len (pa_cons (pe_fld (pv 0) rfl) pa_nil)))))))), ?_⟩
    refine ⟨_, rfl, a, dx, _, rfl, X.ins, rfl, a, _, _, rfl, ⟨_, X.at, r⟩, fun H1 v t1 t2 n1 n2 => ?_⟩
    have X1 := X.sameT t1 t2
    have f1 : Frame [a, d, tl, pl, T] [a, d, tl, pl, T] H H1 := Frame.sameT t1 (by simp)
    cases hsh : s.shown with
    | none =>
      have ev := n1 hsh
      subst ev
      refine ⟨_, rfl, rfl, _, rfl, iteT ?_⟩
      have e : Ks297.act s .take = (s, Ks297.no (-61)) := by unfold Ks297.act; rw [hsh]
      have := kk H1 _ (by rw [e]; exact ⟨_, X1.at, r⟩) f1
      rw [e] at this
      exact this
    | some u =>
      obtain ⟨x, ev, hx⟩ := n2 u hsh
      subst ev
      refine ⟨_, rfl, rfl, _, rfl, iteF ?_⟩
      have hne : s.meant ≠ [] := fun z => by rw [R.noShown (st := st) z] at hsh; cases hsh
      obtain ⟨en, hen, hsh2, hin⟩ := r.shown hne
      rw [hsh] at hsh2
      have eu : u = en.word := Option.some.inj hsh2
      subst eu
      have hg := r.good en hin
      have hlk := lookE_mem r.rel.nd hin
      have hhas : Ks295.has st.D en.word = true := by rw [← lookE_has, hlk]; rfl
      have hcn : cntD st.D en.word = en.count := by unfold cntD; rw [hlk]; rfl
      have hfull := r.rel.full hlk
      refine ⟨_, rfl, a, dx, _, rfl, X1.ins, rfl, _, rfl, (by show 1 ≤ sizeLine; rw [line]; decide), fun q oq hq hoq => ?_⟩
      have sq : Same H1 (upd H1 q (.frz oq (.tup [.ref x]))) := same_new hq
      have hq2 : (upd H1 q (.frz oq (.tup [.ref x]))) q = some (.frz oq (.tup [.ref x])) := upd_same
      have X2 := X1.same sq
      have hx2 := sq _ _ hx
      have f2 := f1.trans (Frame.same (fp := [a, d, tl, pl, T]) sq)
      generalize upd H1 q (.frz oq (.tup [.ref x])) = H2 at sq hq2 X2 hx2 f2
      have room1 : Roomy st [en.word] ↔ (st.text.length < 100 ∧ en.count < 1000000) := by
        unfold Roomy
        constructor
        · rintro ⟨z1, z2⟩
          have z3 := z2 en.word (by simp)
          rw [hcn] at z3
          simp at z1 z3
          omega
        · rintro ⟨z1, z2⟩
          refine ⟨by simp; omega, fun v hv => ?_⟩
          rw [List.mem_singleton.mp hv, hcn]
          simp
          omega
      refine ⟨a, q, _, st, [x], [en.word], rfl, X2.at, .inl (.inr ⟨oq, hq2⟩), .inl ⟨oq, _, hq2, hoq⟩, WordsAt.nil.cons hx2, (by simp), (fun v hv => by rw [List.mem_singleton.mp hv]; exact hhas), fun hroom H3 s3 => ?_, fun hroom H3 s3 => ?_⟩
      · refine ⟨_, rfl, iteF ?_⟩
        have hr2 := room1.mp hroom
        have X3 := X2.same s3
        have f3 := f2.trans (Frame.same (fp := [a, d, tl, pl, T]) s3)
        refine ⟨_, rfl, a, dx, _, rfl, X3.ins, rfl, _, rfl, (by show 1 ≤ sizeLine; rw [line]; decide), fun q' hq' => ?_⟩
        have sq' : Same H3 (upd H3 q' (.tup [.ref x])) := same_new hq'
        have hq2' : (upd H3 q' (.tup [.ref x])) q' = some (.tup [.ref x]) := upd_same
        have X4 := X3.same sq'
        have f4 := f3.trans (Frame.same (fp := [a, d, tl, pl, T]) sq')
        have hx4 := sq' _ _ (s3 _ _ hx2)
        generalize upd H3 q' (.tup [.ref x]) = H4 at sq' hq2' X4 hx4 f4
        refine ⟨a, q', _, st, [x], [en.word], rfl, X4.at, SqT.of hq2', WordsAt.nil.cons hx4, (by simp), r.t100, r.l64, (fun v hv => by rw [List.mem_singleton.mp hv]; exact hhas), fun H5 dk5 f5 => ?_⟩
        obtain ⟨dx5, d5, tl5, pl5, tas5, e5, X5⟩ := dk5.x
        refine ⟨_, rfl, a, dx5, _, rfl, X5.ins, rfl, a, _, _, rfl, dk5, fun H6 fp6 dk6 f6 _ => ?_⟩
        obtain ⟨dx6, d6, tl6, pl6, tas6, rfl, X6⟩ := dk6.x
        refine ⟨_, rfl, a, C, dx6, _, _, rfl, X6.ins, D.cl, D.nText, deskF_text _ _ _ _, tl6, _, rfl, .inl (SqL.of X6.tx), ?_⟩
        rw [List.length_map, X6.words.1]
        have e : Ks297.act s .take = ({ list := Ks297.used s.list en.word, text := s.text ++ [en.word], keys := [], place := 0 }, Ks297.no (s.text.length + 1 : Nat)) := by
          unfold Ks297.act
          rw [hsh]
          refine if_neg ?_
          rw [hfull, r.text]
          intro z
          rcases z with z | z
          · have : 100 ≤ st.text.length := z
            omega
          · have : 1000000 ≤ en.count := of_decide_eq_true z
            omega
        have rr := r.take hlk hg.1 hr2.2 hr2.1
        have einc : incE st.D en.word = setE st.D en.word (en.count + 1) := by unfold incE; rw [hcn]
        have := kk H6 _ (by rw [e]; refine ⟨_, dk6, ?_⟩; show R ⟨incE st.D en.word, st.text ++ [en.word], [], 0⟩ _; rw [einc]; exact rr) ((f4.trans f5).trans f6)
        rw [e, r.text] at this
        have e2 : ((st.text ++ [en.word]).length : Int) = ((st.text.length + 1 : Nat) : Int) := by simp
        show Q (.int ((st.text ++ [en.word]).length : Int)) H6
        rw [e2]
        exact this
      · refine ⟨_, rfl, iteT ?_⟩
        have hno : 100 ≤ st.text.length ∨ 1000000 ≤ en.count := by
          rcases Classical.em (st.text.length < 100) with z1 | z1
          · rcases Classical.em (en.count < 1000000) with z2 | z2
            · exact absurd (room1.mpr ⟨z1, z2⟩) hroom
            · exact .inr (by omega)
          · exact .inl (by omega)
        have e : Ks297.act s .take = (s, Ks297.no (-12)) := by
          unfold Ks297.act
          rw [hsh]
          refine if_pos ?_
          rw [hfull, r.text]
          exact hno.imp id fun y => decide_eq_true y
        have := kk H3 _ (by rw [e]; exact ⟨_, (X2.same s3).at, r⟩) (f2.trans (Frame.same s3))
        rw [e] at this
        exact this
end
end Wk
namespace Wk
open PySem PySem.Spec PyProof.Rows L2
open Ks297 (Abs act)
theorem R.backKey {st : DSt} {s : Abs} (r : R st s) : R { st with keys := st.keys.dropLast, place := 0 } { s with keys := s.keys.dropLast, place := 0 } := by
  refine ⟨r.rel, r.text, by show s.keys.dropLast = st.keys.dropLast; rw [r.keys], rfl, r.good, r.l64, r.tin, r.t100, by show st.keys.dropLast.length ≤ 12; have := r.k12; simp; omega, ?_⟩
  cases q : Abs.meant { s with keys := s.keys.dropLast, place := 0 } with
  | nil => exact .inr ⟨rfl, rfl⟩
  | cons x l => exact .inl (by show 0 < (x :: l).length; simp)
theorem keys_len (w : List Nat) : (Ks295.keys w).length = w.length := List.length_map ..
theorem getLast_snoc {α : Type} {l : List α} (h : l ≠ []) : ∃ x, l.getLast? = some x ∧ l = l.dropLast ++ [x] ∧ l[l.length - 1]? = some x := by
  refine ⟨l.getLast h, List.getLast?_eq_some_getLast h, (List.dropLast_concat_getLast h).symm, ?_⟩
  rw [← List.getLast?_eq_getElem?, List.getLast?_eq_some_getLast h]
theorem R.backWord {st : DSt} {s : Abs} (r : R st s) (hk : st.keys = []) {w : List Nat} {c : Nat} (hw : w ∈ st.text) (hc : lookE st.D w = some c) :
    R ⟨setE st.D w (if 1 < c then c - 1 else c), st.text.dropLast, Ks295.keys w, 0⟩ { list := Ks297.counted s.list w fun n => if 1 < n then n - 1 else n, text := s.text.dropLast, keys := Ks295.keys w, place := 0 } ∧
    ∃ e, e ∈ Ks295.meant (Ks297.counted s.list w fun n => if 1 < n then n - 1 else n) (Ks295.keys w) ∧ e.word = w := by
  have rel := r.rel.counted (fun n => if 1 < n then n - 1 else n) hc
  have hin : Ks295.has st.D w = true := r.tin w hw
  obtain ⟨e0, he0, ew⟩ := List.mem_map.mp (has_iff.mp hin)
  have hg := r.good e0 he0
  have hcc : c = e0.count := by
    have := lookE_mem r.rel.nd he0
    rw [ew, hc] at this
    exact Option.some.inj this
  have hww : Ks295.isWord w = true := by rw [← ew]; exact hg.1
  have g := good_set r.good (w := w) (n := if 1 < c then c - 1 else c) hww (by split <;> omega) (by split <;> omega)
  have hin2 : Ks295.has (setE st.D w (if 1 < c then c - 1 else c)) w = true := by rw [has_set]; exact hin
  obtain ⟨e1, he1, ew1⟩ := List.mem_map.mp (has_iff.mp hin2)
  have hm : e1 ∈ Ks295.meant (Ks297.counted s.list w fun n => if 1 < n then n - 1 else n) (Ks295.keys w) := by
    unfold Ks295.meant
    exact List.mem_filter.mpr ⟨rel.pe.mem_iff.mpr he1, by rw [ew1]; simp⟩
  refine ⟨⟨rel, by show s.text.dropLast = st.text.dropLast; rw [r.text], rfl, rfl, g, by show (setE st.D w _).length ≤ 64; rw [setE_len]; exact r.l64, fun v hv => ?_, ?_, ?_, .inl ?_⟩, e1, hm, ew1⟩
  · show Ks295.has (setE st.D w _) v = true
    rw [has_set]
    exact r.tin v ((List.dropLast_sublist _).subset hv)
  · show st.text.dropLast.length ≤ 100
    have := r.t100
    simp; omega
  · show (Ks295.keys w).length ≤ 12
    rw [keys_len]
    exact (word_len hww).2
  · show 0 < (Abs.meant _).length
    unfold Abs.meant
    exact List.length_pos_of_mem hm
theorem R.placed {st : DSt} {s : Abs} (r : R st s) {n : Nat} (h : n < s.meant.length) : R { st with place := n } { s with place := n } :=
  ⟨r.rel, r.text, r.keys, rfl, r.good, r.l64, r.tin, r.t100, r.k12, .inl h⟩
section
variable {C T : Addr} {H : Hp} {a dx d tl pl : Addr} {tas : List Addr} {st : DSt}
theorem DeskX.textPop (h : DeskX C T H a dx d tl pl tas st) : DeskX C T (upd H tl (.lst (tas.map V.ref).dropLast)) a dx d tl pl tas.dropLast { st with text := st.text.dropLast } := by
  refine ⟨?_, ?_, by rw [upd_same, List.map_dropLast], ?_, ?_, h.ne, h.tab.keep h.tx (fun q z => nomatch z) fun q z => nomatch z⟩
  · rw [upd_ne (ne_of h.ins h.tx fun z => nomatch z)]; exact h.ins
  · rw [upd_ne (ne_of h.dict h.tx fun z => nomatch z)]; exact h.dict
  · have w1 := h.words.1
    refine ⟨by show tas.dropLast.length = st.text.dropLast.length; simp [w1], fun i b v h1 h2 => ?_⟩
    have g1 : tas[i]? = some b := by
      rw [List.getElem?_dropLast] at h1
      split at h1
      · exact h1
      · cases h1
    have g2 : st.text[i]? = some v := by
      have h2' : st.text.dropLast[i]? = some v := h2
      rw [List.getElem?_dropLast] at h2'
      split at h2'
      · exact h2'
      · cases h2'
    have z := h.words.2 i b v g1 g2
    rw [upd_ne (ne_of z h.tx fun z => nomatch z)]; exact z
  · rw [upd_ne (Ne.symm h.ne)]; exact h.ks
theorem DeskX.newPl (h : DeskX C T H a dx d tl pl tas st) {q : Addr} {ks : List Nat} (hq : H q = some (.lst (wv ks))) (nt : q ≠ tl) : DeskX C T (upd H a (.ins C dx (deskF d tl q st.place))) a dx d tl q tas { st with keys := ks } := by
  refine ⟨upd_same, ?_, ?_, h.words.mono fun b v z => ?_, ?_, Ne.symm nt, h.tab.keep h.ins (fun q z => nomatch z) fun q z => nomatch z⟩
  · rw [upd_ne (ne_of h.dict h.ins fun z => nomatch z)]; exact h.dict
  · rw [upd_ne (ne_of h.tx h.ins fun z => nomatch z)]; exact h.tx
  · rw [upd_ne (ne_of z h.ins fun z => nomatch z)]; exact z
  · rw [upd_ne (ne_of hq h.ins fun z => nomatch z)]; exact hq
end
theorem Frame.into {fp f1 f2 : List Addr} {H H1 : Hp} (f : Frame fp f1 H H1) (h : ∀ b ∈ f2, b ∈ f1 ∨ H b = none) : Frame fp f2 H H1 := ⟨f.keep, fun b hb => (h b hb).elim (f.new b) .inr⟩
section
variable {P : Program} {w : World} {K : PySem.W.Frag} {mg : Str → Option Value} {base : Heap}
def spBack (C T : Addr) : Sp := fun vs H Q _ => ∃ (a : Addr) (fp : List Addr) (s : Ks297.Abs), vs = [.ref a] ∧ Does C T H a fp s .back Q
theorem scBack : FnScope ["self", "word"] ["self"] (defScope sBack) := ⟨rfl, rfl, rfl, by decide +kernel, rfl, by decide +kernel, by decide +kernel⟩
theorem ok_back {f C T fM fK : Addr} {fd fdM fdK : FuncData} (F : Fun K "go_back" "Desk.go_back" sBack f fd) (W : TxW K mg) (D : TxD K mg C) (GM : FnOk P w K mg base CX0 6 fM fdM ["self"] (spMeant C T)) (mM : Meth K C "meant" fM) (bM : Binds K fdM ["self"] [])
    (GK : FnOk P w K mg base CX0 1 fK fdK ["word"] (spKeys K)) (kK : PySem.W.keepIn K (.ref fK) = true) (mK : mg "keys_of" = some (.ref fK)) (bK : Binds K fdK ["word"] []) : FnOk P w K mg base CX0 7 f fd ["self"] (spBack C T) := by
  refine F.ok scBack (fun vs H Q E h => ?_) (fun cdv A outer s H vs Q E hr h => ?_)
  · obtain ⟨p, fp, s, rfl, _⟩ := h
    rfl
  · obtain ⟨a, fp, s, rfl, ⟨st, dk, r⟩, kk⟩ := h
    obtain ⟨dx, d, tl, pl, tas, rfl, X⟩ := dk.x
    have line : sizeLine = 16777216 := sizeLine_eq
    have hu := hu_of hr
    have hr1 : Room 1 _ := hr.mono (by decide)
    refine ⟨_, pss_cons (ps_if (pt_cmpR op_gt (pe_callB call_len_seq (by rfl) W.len PySem.boot_len (pa_cons (pe_fld (pv 0) rfl) pa_nil)) pe_int (nomark _))
        (pss_cons (ps_expr (pe_bm0 PySem.F.plainAttrs_list PySem.F.slot_list_pop PySem.F.type_list_pop mt_pop (pe_fld (pv 0) rfl))) (pss_cons (ps_fld (pv 0) pe_int rfl) (pss_one (ps_ret (pe_callB call_len_seq (by rfl) W.len PySem.boot_len (pa_cons (pe_fld (pv 0) rfl) pa_nil)))))) pss_nil)
      (pss_cons (ps_if (pt_cmpR op_eq (pe_callB call_len_seq (by rfl) W.len PySem.boot_len (pa_cons (pe_fld (pv 0) rfl) pa_nil)) pe_int (nomark _)) (pss_one (ps_ret (pe_gv D.noText))) pss_nil)
      (pss_cons (ps_set (i := 1) scBack.nd rfl (Or.inl rfl) (pe_bm0 PySem.F.plainAttrs_list PySem.F.slot_list_pop PySem.F.type_list_pop mt_pop (pe_fld (pv 0) rfl)))
      (pss_cons (ps_dput hu (pe_fld (pv 0) rfl) (pv 1) (pe_callB (call_max2 rfl) (by rfl) W.max PyProof.Rows.boot_max (pa_cons (pe_op op_sub (pe_dget hu (pe_fld (pv 0) rfl) (pv 1) (fun _ _ => rfl)) pe_int) (pa_cons pe_int pa_nil))) rfl)
      (pss_cons (ps_fld (pv 0) (pe_call GK hr1 rfl mK kK bK .nil pass0 (pa_cons (pv 1) pa_nil)) rfl)
      (pss_cons (ps_fld (pv 0) (pe_bm PySem.F.plainAttrs_list PySem.F.slot_list_index PySem.F.type_list_index (mt_indexT hr.units) (pe_meth0 (pv 0) D.cl mM GM hr bM .nil pass0) (pa_cons (pv 1) pa_nil)) rfl)
      (pss_one (ps_ret (pe_callB call_len_seq (by rfl) W.len PySem.boot_len (pa_cons (pe_fld (pv 0) rfl) pa_nil))))))))), ?_⟩
    refine ⟨_, rfl, a, C, dx, _, _, rfl, X.ins, D.cl, D.nPressed, deskF_pressed _ _ _ _, pl, _, rfl, .inl (SqL.of X.ks), _, _, rfl, rfl, _, rfl, ite2 (fun h1 => ?_) fun h1 => ?_⟩
    · have hne : st.keys ≠ [] := fun z => by
        have := of_decide_eq_true h1
        rw [wv_len, z] at this
        simp at this
      obtain ⟨k, _, ek, hk⟩ := getLast_snoc hne
      have e : Ks297.act s .back = ({ s with keys := s.keys.dropLast, place := 0 }, Ks297.no (s.keys.length - 1 : Nat)) := if_pos (by rw [r.keys]; exact hne)
      refine ⟨_, rfl, a, C, dx, _, _, rfl, X.ins, D.cl, D.nPressed, deskF_pressed _ _ _ _, .inl ⟨rfl, _, SqL.of X.ks⟩, pl, _, V.int (k : Int), rfl, rfl, X.ks, (by rw [wv_len]; unfold wv; rw [List.getElem?_map, hk]; rfl), ?_⟩
      have ed : (wv st.keys).dropLast = wv st.keys.dropLast := by unfold wv; rw [List.map_dropLast]
      rw [ed]
      have X1 := X.keysTo st.keys.dropLast
      refine ⟨_, rfl, a, C, dx, _, rfl, X1.ins, D.cl, D.nPlace, (by show 4 < 1000; decide), ?_⟩
      rw [putF_place]
      have X2 := X1.placeTo 0
      refine ⟨_, rfl, a, C, dx, _, _, rfl, X2.ins, D.cl, D.nPressed, deskF_pressed _ _ _ _, pl, _, rfl, .inl (SqL.of X2.ks), ?_⟩
      have := kk _ _ (by rw [e]; exact ⟨_, X2.at, r.backKey⟩) ((Frame.upd (fp := [a, d, tl, pl, T]) (x := pl) (by simp)).trans (Frame.upd (x := a) (by simp)))
      rw [e, r.keys] at this
      have el : ((wv st.keys.dropLast).length : Int) = ((st.keys.length - 1 : Nat) : Int) := by rw [wv_len, List.length_dropLast]
      show Q (.int ((wv st.keys.dropLast).length : Int)) _
      rw [el]
      exact this
    · have hk : st.keys = [] := by
        cases q : st.keys with
        | nil => rfl
        | cons x l => exact absurd (decide_eq_true (by rw [wv_len, q]; simp)) h1
      have hkn : ¬ s.keys ≠ [] := fun z => z (by rw [r.keys, hk])
      refine ⟨_, rfl, a, C, dx, _, _, rfl, X.ins, D.cl, D.nText, deskF_text _ _ _ _, tl, _, rfl, .inl (SqL.of X.tx), rfl, _, rfl, ?_⟩
      rw [List.length_map, X.words.1]
      refine ite2 (fun h2 => ?_) fun h2 => ?_
      · have ht : st.text = [] := by
          have := of_decide_eq_true h2
          injection this with h3
          exact List.length_eq_zero_iff.mp (by omega)
        have e : Ks297.act s .back = (s, Ks297.no (-2)) := by
          refine (if_neg hkn).trans ?_
          rw [r.text, ht]; rfl
        have := kk H _ (by rw [e]; exact ⟨st, dk, r⟩) (Frame.refl _ H)
        rw [e] at this
        exact this
      · have htn : st.text ≠ [] := fun z => h2 (decide_eq_true (by rw [z] <;> rfl))
        obtain ⟨u, hu1, hu2, hu3⟩ := getLast_snoc htn
        have huin : u ∈ st.text := List.mem_of_getElem? hu3
        have htas : tas.length = st.text.length := X.words.1
        obtain ⟨x, hx⟩ : ∃ x, tas[tas.length - 1]? = some x := ⟨_, List.getElem?_eq_getElem (by have := List.length_pos_iff.mpr htn; omega)⟩
        have hxw : H x = some (.tup (wv u)) := X.words.2 _ x u hx (by rw [htas]; exact hu3)
        have hhas := r.tin u huin
        have hlk := look_has hhas
        obtain ⟨r2, e1, he1, ew1⟩ := r.backWord hk huin hlk
        obtain ⟨e0, he0, ew0⟩ := List.mem_map.mp (has_iff.mp hhas)
        have hg := r.good e0 he0
        rw [ew0] at hg
        have hc1 : 1 ≤ cntD st.D u := by
          have := lookE_mem r.rel.nd he0
          rw [ew0, hlk] at this
          rw [Option.some.inj this]
          exact hg.2.1
        have e : Ks297.act s .back = ({ list := Ks297.counted s.list u fun n => if 1 < n then n - 1 else n, text := s.text.dropLast, keys := Ks295.keys u, place := Ks297.placeOf (Ks295.meant (Ks297.counted s.list u fun n => if 1 < n then n - 1 else n) (Ks295.keys u)) u }, Ks297.no u.length) := by
          refine (if_neg hkn).trans ?_
          rw [r.text, hu1]
        refine ⟨_, rfl, a, C, dx, _, _, rfl, X.ins, D.cl, D.nText, deskF_text _ _ _ _, .inl ⟨rfl, _, SqL.of X.tx⟩, tl, _, V.ref x, rfl, rfl, X.tx, (by rw [List.length_map, List.getElem?_map, hx]; rfl), ?_⟩
        have X1 := X.textPop
        have hx1 : (upd H tl (.lst (tas.map V.ref).dropLast)) x = some (.tup (wv u)) := by rw [upd_ne (ne_of hxw X.tx fun z => nomatch z)]; exact hxw
        have f1 : Frame [a, d, tl, pl, T] [a, d, tl, pl, T] H (upd H tl (.lst (tas.map V.ref).dropLast)) := Frame.upd (by simp)
        generalize upd H tl (.lst (tas.map V.ref).dropLast) = H1 at X1 hx1 f1
        have dg : DGet H1 d (.ref x) (some (.int (cntD st.D u : Nat))) := by
          have z := DGet.t X1.dict (show H1 x = some (.tup ((kw u).map kV)) by rw [kw_kV]; exact hx1)
          rw [dv_val, hlk] at z
          exact z
        refine ⟨_, rfl, a, C, dx, _, _, rfl, X1.ins, D.cl, D.nCounts, deskF_counts _ _ _ _, _, rfl, d, _, rfl, dg, _, _, rfl, rfl, _, _, rfl, _, rfl, a, C, dx, _, _, rfl, X1.ins, D.cl, D.nCounts, deskF_counts _ _ _ _, _, rfl, d, _, rfl, DPut.t X1.dict (by rw [kw_kV]; exact hx1) (by rw [dv_len]; have := r.l64; show st.D.length < sizeLine; omega), ?_⟩
        have ez : (if (1 : Int) > (cntD st.D u : Int) - 1 then (1 : Int) else (cntD st.D u : Int) - 1) = ((if 1 < cntD st.D u then cntD st.D u - 1 else cntD st.D u : Nat) : Int) := back_z hc1
        have ep : putK (dv st.D) (kw u) (V.int (if (1 : Int) > (cntD st.D u : Int) - 1 then (1 : Int) else (cntD st.D u : Int) - 1)) = dv (setE st.D u (if 1 < cntD st.D u then cntD st.D u - 1 else cntD st.D u)) := by
          rw [ez]; exact dv_put_old hhas
        dsimp only at ep ⊢
        rw [ep]
        have X2 := X1.dictTo (setE st.D u (if 1 < cntD st.D u then cntD st.D u - 1 else cntD st.D u))
        have hx2 : (upd H1 d (.dT (dv (setE st.D u (if 1 < cntD st.D u then cntD st.D u - 1 else cntD st.D u))))) x = some (.tup (wv u)) := by rw [upd_ne (ne_of hx1 X1.dict fun z => nomatch z)]; exact hx1
        have f2 : Frame [a, d, tl, pl, T] [a, d, tl, pl, T] H (upd H1 d (.dT (dv (setE st.D u (if 1 < cntD st.D u then cntD st.D u - 1 else cntD st.D u))))) := f1.trans (Frame.upd (by simp))
        generalize upd H1 d (.dT (dv (setE st.D u (if 1 < cntD st.D u then cntD st.D u - 1 else cntD st.D u)))) = H2 at X2 hx2 f2
        have hlet : u.all letB = true := by
          have := hg.1
          rw [isWord_eq, Bool.and_eq_true, Bool.and_eq_true] at this
          exact this.2
        have hul := word_len hg.1
        refine ⟨_, rfl, x, u, rfl, SqT.of hx2, hlet, (by omega), fun H3 q s3 hq hq3 => ?_⟩
        have X3 := X2.same s3
        have hx3 := s3 _ _ hx2
        have f3 := f2.trans (Frame.same (fp := [a, d, tl, pl, T]) s3)
        have nqt : q ≠ tl := fun z => by rw [z, X2.tx] at hq; cases hq
        refine ⟨_, rfl, a, C, dx, _, rfl, X3.ins, D.cl, D.nPressed, (by show 4 < 1000; decide), ?_⟩
        rw [putF_pressed]
        have X4 := X3.newPl hq3 nqt
        have hx4 : (upd H3 a (.ins C dx (deskF d tl q st.place))) x = some (.tup (wv u)) := by rw [upd_ne (ne_of hx3 X3.ins fun z => nomatch z)]; exact hx3
        have hq0 : H q = none := by
          cases qq : H q with
          | none => rfl
          | some o =>
            by_cases m : q ∈ [a, d, tl, pl, T]
            · simp only [List.mem_cons, List.not_mem_nil, or_false] at m
              rcases m with z | z | z | z | z
              · rw [z, X2.ins] at hq; cases hq
              · rw [z, X2.dict] at hq; cases hq
              · exact absurd z nqt
              · rw [z, X2.ks] at hq; cases hq
              · rcases X2.tab with y | ⟨_, y, _⟩
                · rw [z, y] at hq; cases hq
                · rw [z, y] at hq; cases hq
            · rw [f2.keep q o qq m] at hq; cases hq
        have f4 : Frame [a, d, tl, pl, T] [a, d, tl, q, T] H (upd H3 a (.ins C dx (deskF d tl q st.place))) := by
          refine (f3.trans (Frame.upd (x := a) (by simp))).into fun b hb => ?_
          simp only [List.mem_cons, List.not_mem_nil, or_false] at hb ⊢
          rcases hb with z | z | z | z | z
          · exact .inl (.inl z)
          · exact .inl (.inr (.inl z))
          · exact .inl (.inr (.inr (.inl z)))
          · exact .inr (by rw [z]; exact hq0)
          · exact .inl (.inr (.inr (.inr (.inr z))))
        have hp0 := r.place0 hk
        have eX4 : ({ { { { st with text := st.text.dropLast } with D := setE st.D u (if 1 < cntD st.D u then cntD st.D u - 1 else cntD st.D u) } with keys := Ks295.keys u } with place := 0 } : DSt) = ⟨setE st.D u (if 1 < cntD st.D u then cntD st.D u - 1 else cntD st.D u), st.text.dropLast, Ks295.keys u, 0⟩ := rfl
        have X4' : DeskX C T (upd H3 a (.ins C dx (deskF d tl q st.place))) a dx d tl q tas.dropLast ⟨setE st.D u (if 1 < cntD st.D u then cntD st.D u - 1 else cntD st.D u), st.text.dropLast, Ks295.keys u, 0⟩ := by
          refine ⟨?_, X4.dict, X4.tx, X4.words, X4.ks, X4.ne, X4.tab⟩
          have := X4.ins
          rw [upd_same] at this ⊢
          rw [hp0] <;> rfl
        clear X4
        generalize upd H3 a (.ins C dx (deskF d tl q st.place)) = H4 at X4' hx4 f4
        refine ⟨_, rfl, a, dx, _, rfl, X4'.ins, rfl, a, _, _, rfl, ⟨_, X4'.at, r2⟩, fun H5 p out t1 t2 t3 t4 t5 => ?_⟩
        have X5 := X4'.sameT t1 t2
        have hx5 : H5 x = some (.tup (wv u)) := t1 _ _ hx4 (SameT.ne X4'.tab hx4 fun q z => nomatch z)
        obtain ⟨xe, px1, px2, px3⟩ := place_at he1 ew1
        have f5 := f4.trans (Frame.sameT (fp := [a, d, tl, q, T]) t1 (by simp))
        refine ⟨.inl ⟨rfl, _, SqL.of t4⟩, _, rfl, p, x, out, _, u, Ks297.placeOf (Ks295.meant (Ks297.counted s.list u fun n => if 1 < n then n - 1 else n) (Ks295.keys u)) u, rfl, rfl, SqL.of t4, t5.k, SqT.of hx5, ?_, fun m v hm hv => ?_, ?_⟩
        · show ((Ks295.meant _ _).map Ks295.Entry.word)[_]? = _
          rw [List.getElem?_map, px1]
          show some xe.word = some u
          rw [px2]
        · have hv' : ((Ks295.meant (Ks297.counted s.list u fun n => if 1 < n then n - 1 else n) (Ks295.keys u)).map Ks295.Entry.word)[m]? = some v := hv
          rw [List.getElem?_map] at hv'
          obtain ⟨y, hy1, hy2⟩ := Option.map_eq_some_iff.mp hv'
          rw [← hy2]
          exact px3 m y hm hy1
        refine ⟨_, rfl, a, C, dx, _, rfl, X5.ins, D.cl, D.nPlace, (by show 4 < 1000; decide), ?_⟩
        rw [putF_place]
        have X6 := X5.placeTo (Ks297.placeOf (Ks295.meant (Ks297.counted s.list u fun n => if 1 < n then n - 1 else n) (Ks295.keys u)) u)
        refine ⟨_, rfl, a, C, dx, _, _, rfl, X6.ins, D.cl, D.nPressed, deskF_pressed _ _ _ _, q, _, rfl, .inl (SqL.of X6.ks), ?_⟩
        have r3 := r2.placed (n := Ks297.placeOf (Ks295.meant (Ks297.counted s.list u fun n => if 1 < n then n - 1 else n) (Ks295.keys u)) u) (List.getElem?_eq_some_iff.mp px1).1
        have := kk _ _ (by rw [e]; exact ⟨_, X6.at, r3⟩) (f5.trans (Frame.upd (x := a) (by simp)))
        rw [e] at this
        have el : ((wv (Ks295.keys u)).length : Int) = (u.length : Int) := by rw [wv_len, keys_len]
        show Q (.int ((wv (Ks295.keys u)).length : Int)) _
        rw [el]
        exact this
end
end Wk
namespace Wk
open PySem PySem.Spec PyProof.Rows L2
open Ks297 (Abs act)
section
variable {P : Program} {w : World} {K : PySem.W.Frag} {mg : Str → Option Value} {base : Heap}
def spLearn (K : PySem.W.Frag) (C T : Addr) : Sp := fun vs H Q _ => ∃ (a b : Addr) (fp : List Addr) (s : Abs) (n : Nat) (v : List Nat), vs = [.ref a, .int (n : Int), .ref b] ∧ SqL K H b (wv v) ∧ Does C T H a fp s (.learn v n) Q
theorem scLearn : FnScope ["self", "count", "signs", "word"] ["self", "count", "signs"] (defScope sLearn) := ⟨rfl, rfl, rfl, by decide +kernel, rfl, by decide +kernel, by decide +kernel⟩
theorem ok_learn {f C T fW fC : Addr} {fd fdW fdC : FuncData} (F : Fun K "learn" "Desk.learn" sLearn f fd) (W : TxW K mg) (D : TxD K mg C) (GW : FnOk P w K mg base CX0 2 fW fdW ["signs"] (spWord K)) (kW : PySem.W.keepIn K (.ref fW) = true) (mW : mg "is_word" = some (.ref fW)) (bW : Binds K fdW ["signs"] [])
    (GC : FnOk P w K mg base CX0 1 fC fdC ["number"] (spBetween 1 1000000)) (kC : PySem.W.keepIn K (.ref fC) = true) (mC : mg "is_count" = some (.ref fC)) (bC : Binds K fdC ["number"] []) : FnOk P w K mg base CX0 3 f fd ["self", "count", "signs"] (spLearn K C T) := by
  refine F.ok scLearn (fun vs H Q E h => ?_) (fun cdv A outer s H vs Q E hr h => ?_)
  · obtain ⟨a, b, fp, s, n, v, rfl, _⟩ := h
    rfl
  · obtain ⟨a, b, fp, s, n, v, rfl, hs, ⟨st, dk, r⟩, kk⟩ := h
    obtain ⟨dx, d, tl, pl, tas, rfl, X⟩ := dk.x
    have line : sizeLine = 16777216 := sizeLine_eq
    have hu := hu_of hr
    have hr1 : Room 1 _ := hr.mono (by decide)
    refine ⟨_, pss_cons (ps_if (PW.pt (pw_or (pt_not (pt_val (pe_call GW hr rfl mW kW bW .nil pass0 (pa_cons (pv 2) pa_nil)))) (pw_or1 (pt_not (pt_val (pe_call GC hr1 rfl mC kC bC .nil pass0 (pa_cons (pv 1) pa_nil))))))) (pss_one (ps_ret (pe_gv D.valid))) pss_nil)
      (pss_cons (ps_if (pt_cmpR op_gt (pe_callB call_len_seq (by rfl) W.len PySem.boot_len (pa_cons (pe_fld (pv 0) rfl) pa_nil)) pe_int (nomark _)) (pss_one (ps_ret (pe_gv D.pressed))) pss_nil)
      (pss_cons (ps_set (i := 3) scLearn.nd rfl (Or.inl rfl) (pe_callTy call_tuple_of (by rfl) W.tuple PyProof.Rows.boot_tuple (pa_cons (pv 2) pa_nil)))
      (pss_cons (ps_if (pt_cmp (pc_din hu (pv 3) (pe_fld (pv 0) rfl))) (pss_cons (ps_dput hu (pe_fld (pv 0) rfl) (pv 3) (pv 1) rfl) (pss_one (ps_ret pe_int))) pss_nil)
      (pss_cons (ps_if (pt_cmpR op_eq (pe_callB call_lenT (by rfl) W.len PySem.boot_len (pa_cons (pe_fld (pv 0) rfl) pa_nil)) (pe_gv W.mostW) (nomark _)) (pss_one (ps_ret (pe_gv D.room))) pss_nil)
      (pss_cons (ps_dput hu (pe_fld (pv 0) rfl) (pv 3) (pv 1) rfl)
      (pss_one (ps_ret pe_int))))))), ?_⟩
    have bad : ∀ H1, Same H H1 → (Ks295.isWord v = false ∨ n = 0 ∨ 1000000 < n) → Q (.int (-22)) H1 := fun H1 s1 z => by
      have e : act s (.learn v n) = (s, Ks297.no (-22)) := if_pos z
      have := kk H1 _ (by rw [e]; exact ⟨_, (X.same s1).at, r⟩) (Frame.same s1)
      rw [e] at this
      exact this
    refine ⟨_, rfl, b, v, rfl, .inl hs, fun H1 s1 => ?_⟩
    refine ⟨_, rfl, ite2 (fun h1 => iteT (bad H1 s1 (.inl (by simpa using h1)))) fun h1 => ?_⟩
    have hw : Ks295.isWord v = true := by simpa using h1
    refine ⟨_, rfl, _, rfl, _, rfl, ite2 (fun h2 => bad H1 s1 (.inr ?_)) fun h2 => ?_⟩
    · rw [Bool.not_eq_true', decide_eq_false_iff_not] at h2
      omega
    have hn : 1 ≤ n ∧ n ≤ 1000000 := by
      rw [Bool.not_eq_true', decide_eq_false_iff_not, Classical.not_not] at h2
      omega
    have hgo : ¬ (Ks295.isWord v = false ∨ n = 0 ∨ Ks295.MOST < n) := by
      rintro (z | z | z)
      · rw [hw] at z; cases z
      · omega
      · have : 1000000 < n := z
        omega
    have X1 := X.same s1
    refine ⟨_, rfl, a, C, dx, _, _, rfl, X1.ins, D.cl, D.nPressed, deskF_pressed _ _ _ _, pl, _, rfl, .inl (SqL.of X1.ks), _, _, rfl, rfl, _, rfl, ite2 (fun h3 => ?_) fun h3 => ?_⟩
    · have hne : s.keys ≠ [] := fun z => by
        have := of_decide_eq_true h3
        rw [wv_len, ← r.keys, z] at this
        simp at this
      have e : act s (.learn v n) = (s, Ks297.no (-11)) := (if_neg hgo).trans (if_pos hne)
      have := kk H1 _ (by rw [e]; exact ⟨_, X1.at, r⟩) (Frame.same s1)
      rw [e] at this
      exact this
    have hk : st.keys = [] := by
      cases q : st.keys with
      | nil => rfl
      | cons x l => exact absurd (decide_eq_true (by rw [wv_len, q]; simp)) h3
    have hkn : ¬ s.keys ≠ [] := fun z => z (by rw [r.keys, hk])
    refine ⟨_, rfl, b, _, rfl, .inl ⟨s1.seq hs, fun q hq => ?_⟩⟩
    have sq : Same H1 (upd H1 q (.tup (wv v))) := same_new hq
    have hq2 : (upd H1 q (.tup (wv v))) q = some (.tup (wv v)) := upd_same
    have X2 := X1.same sq
    have f2 : Frame [a, d, tl, pl, T] [a, d, tl, pl, T] H (upd H1 q (.tup (wv v))) := Frame.same (s1.trans sq)
    generalize upd H1 q (.tup (wv v)) = H2 at sq hq2 X2 f2
    refine ⟨_, rfl, _, rfl, a, C, dx, _, _, rfl, X2.ins, D.cl, D.nCounts, deskF_counts _ _ _ _, d, _, rfl, DGet.t X2.dict (by rw [kw_kV]; exact hq2), _, rfl, ?_⟩
    rw [dv_val, Option.isSome_map, lookE_has]
    have l64 := r.l64
    refine ite2 (fun h4 => ?_) fun h4 => ?_
    · have hl : Ks295.has s.list v = true := by rw [r.rel.has]; exact h4
      have e : act s (.learn v n) = ({ s with list := Ks297.counted s.list v fun _ => n }, Ks297.no 1) := (if_neg hgo).trans ((if_neg hkn).trans (if_pos hl))
      refine ⟨_, rfl, _, rfl, a, C, dx, _, _, rfl, X2.ins, D.cl, D.nCounts, deskF_counts _ _ _ _, _, rfl, d, _, rfl, DPut.t X2.dict (by rw [kw_kV]; exact hq2) (by rw [dv_len]; show st.D.length < sizeLine; omega), ?_⟩
      rw [dv_put_old h4]
      have := kk _ _ (by rw [e]; exact ⟨_, (X2.dictTo _).at, r.learnOld hk (look_has h4) hw hn.1 hn.2⟩) (f2.trans (Frame.upd (x := d) (by simp)))
      rw [e] at this
      exact this
    · have h4' : Ks295.has st.D v = false := by simpa using h4
      have hl : ¬ Ks295.has s.list v = true := by rw [r.rel.has, h4']; simp
      refine ⟨_, rfl, a, C, dx, _, _, rfl, X2.ins, D.cl, D.nCounts, deskF_counts _ _ _ _, d, _, rfl, X2.dict, rfl, _, rfl, ite2 (fun h5 => ?_) fun h5 => ?_⟩
      · have h6 : st.D.length = 64 := by
          have := of_decide_eq_true h5
          injection this with h7
          rw [dv_len] at h7
          omega
        have e : act s (.learn v n) = (s, Ks297.no (-12)) := (if_neg hgo).trans ((if_neg hkn).trans ((if_neg hl).trans (if_pos (by rw [r.rel.len, h6]; decide))))
        have := kk H2 _ (by rw [e]; exact ⟨_, X2.at, r⟩) f2
        rw [e] at this
        exact this
      · have h6 : st.D.length < 64 := by
          have h7 : st.D.length ≠ 64 := fun z => h5 (decide_eq_true (by rw [dv_len, z] <;> rfl))
          omega
        have e : act s (.learn v n) = ({ s with list := Ks295.insert ⟨v, n⟩ s.list }, Ks297.no 0) := (if_neg hgo).trans ((if_neg hkn).trans ((if_neg hl).trans (if_neg (by rw [r.rel.len]; show ¬ 64 ≤ st.D.length; omega))))
        refine ⟨_, rfl, _, rfl, a, C, dx, _, _, rfl, X2.ins, D.cl, D.nCounts, deskF_counts _ _ _ _, _, rfl, d, _, rfl, DPut.t X2.dict (by rw [kw_kV]; exact hq2) (by rw [dv_len]; show st.D.length < sizeLine; omega), ?_⟩
        rw [dv_put_new h4']
        have := kk _ _ (by rw [e]; exact ⟨_, (X2.dictTo _).at, r.learnNew hk h4' hw hn.1 hn.2 h6⟩) (f2.trans (Frame.upd (x := d) (by simp)))
        rw [e] at this
        exact this
def spTText (C T : Addr) : Sp := fun vs H Q _ => ∃ (a : Addr) (fp : List Addr) (s : Abs), vs = [.ref a] ∧ DoesL C T H a fp s .text Q
theorem scTText : FnScope ["self"] ["self"] (defScope sText) := ⟨rfl, rfl, rfl, by decide +kernel, rfl, by decide +kernel, by decide +kernel⟩
theorem ok_ttext {f C T fX fL : Addr} {fd fdX fdL : FuncData} (F : Fun K "tell_text" "Desk.tell_text" sText f fd) (D : TxD K mg C) (GX : FnOk P w K mg base CX0 1 fX fdX ["words"] (spWText K)) (kX : PySem.W.keepIn K (.ref fX) = true) (mX : mg "write_text" = some (.ref fX)) (bX : Binds K fdX ["words"] [])
    (GL : FnOk P w K mg base CX0 1 fL fdL ["signs"] (spWithLen K)) (kL : PySem.W.keepIn K (.ref fL) = true) (mL : mg "with_length" = some (.ref fL)) (bL : Binds K fdL ["signs"] []) : FnOk P w K mg base CX0 2 f fd ["self"] (spTText C T) := by
  refine F.ok scTText (fun vs H Q E h => ?_) (fun cdv A outer s H vs Q E hr h => ?_)
  · obtain ⟨p, fp, s, rfl, _⟩ := h
    rfl
  · obtain ⟨a, fp, s, rfl, ⟨st, dk, r⟩, kk⟩ := h
    obtain ⟨dx, d, tl, pl, tas, rfl, X⟩ := dk.x
    refine ⟨_, pss_one (ps_ret (pe_call GL hr rfl mL kL bL .nil pass0 (pa_cons (pe_call GX hr rfl mX kX bX .nil pass0 (pa_cons (pe_fld (pv 0) rfl) pa_nil)) pa_nil))), ?_⟩
    have hlen : ∀ v ∈ st.text, 1 ≤ v.length ∧ v.length ≤ 12 := fun v hv => by
      obtain ⟨e0, he0, ew0⟩ := List.mem_map.mp (has_iff.mp (r.tin v hv))
      have := word_len (r.good e0 he0).1
      rw [ew0] at this
      exact this
    refine ⟨_, rfl, a, C, dx, _, _, rfl, X.ins, D.cl, D.nText, deskF_text _ _ _ _, tl, tas, st.text, rfl, SqL.of X.tx, X.words, r.t100, hlen, fun H1 p s1 hp hp1 => ?_⟩
    have jl := joined_len (ws := st.text) fun v hv => (hlen v hv).2
    have t100 := r.t100
    refine ⟨p, _, rfl, .inl (SqL.of hp1), (by rw [wv_len]; omega), fun H2 q s2 hq hq2 => ?_⟩
    have e : act s .text = (s, Ks297.told (Ks296.joined s.text)) := rfl
    have := kk H2 q (by rw [e]; exact ⟨_, (X.same (s1.trans s2)).at, r⟩) (Frame.same (s1.trans s2)) (s1.free hq)
    rw [e, r.text] at this
    rw [wv_len] at hq2
    exact this hq2
def spTList (C T : Addr) : Sp := fun vs H Q _ => ∃ (a : Addr) (fp : List Addr) (s : Abs), vs = [.ref a] ∧ DoesL C T H a fp s .list Q
theorem scTList : FnScope ["self"] ["self"] (defScope sList) := ⟨rfl, rfl, rfl, by decide +kernel, rfl, by decide +kernel, by decide +kernel⟩
theorem SameT.freeT {T : Addr} {H H' : Hp} {p : Addr} (e : SameT T H H') (t : Tab T H') (h : H' p = none) : H p = none := by
  cases q : H p with
  | none => rfl
  | some o =>
    by_cases y : p = T
    · subst y
      rcases t with w' | ⟨_, w', _⟩
      · rw [w'] at h; cases h
      · rw [w'] at h; cases h
    · rw [e _ _ q y] at h; cases h
theorem ok_tlist {f C T fX fL : Addr} {fd fdX fdL : FuncData} (F : Fun K "tell_list" "Desk.tell_list" sList f fd) (D : TxD K mg C) (GX : FnOk P w K mg base CX0 6 fX fdX ["counts"] (spWList T)) (kX : PySem.W.keepIn K (.ref fX) = true) (mX : mg "write_list" = some (.ref fX)) (bX : Binds K fdX ["counts"] [])
    (GL : FnOk P w K mg base CX0 1 fL fdL ["signs"] (spWithLen K)) (kL : PySem.W.keepIn K (.ref fL) = true) (mL : mg "with_length" = some (.ref fL)) (bL : Binds K fdL ["signs"] []) : FnOk P w K mg base CX0 7 f fd ["self"] (spTList C T) := by
  refine F.ok scTList (fun vs H Q E h => ?_) (fun cdv A outer s H vs Q E hr h => ?_)
  · obtain ⟨p, fp, s, rfl, _⟩ := h
    rfl
  · obtain ⟨a, fp, s, rfl, ⟨st, dk, r⟩, kk⟩ := h
    obtain ⟨dx, d, tl, pl, tas, rfl, X⟩ := dk.x
    have hr1 : Room 1 _ := hr.mono (by decide)
    refine ⟨_, pss_one (ps_ret (pe_call GL hr1 rfl mL kL bL .nil pass0 (pa_cons (pe_call GX hr rfl mX kX bX .nil pass0 (pa_cons (pe_fld (pv 0) rfl) pa_nil)) pa_nil))), ?_⟩
    refine ⟨_, rfl, a, C, dx, _, _, rfl, X.ins, D.cl, D.nCounts, deskF_counts _ _ _ _, d, st.D, s.list, rfl, X.dict, r.rel, r.good, r.l64, X.tab, fun H1 p t1 t2 hp hp1 => ?_⟩
    have wl := lines_len (l := s.list) fun e he => (word_len (r.good e (r.rel.pe.mem_iff.mp he)).1).2
    have l64 := r.l64
    have rl := r.rel.len
    refine ⟨p, _, rfl, .inl (SqL.of hp1), (by rw [wv_len, written_eq]; omega), fun H2 q s2 hq hq2 => ?_⟩
    have e : act s .list = (s, Ks297.told (Ks295.written s.list)) := rfl
    have := kk H2 q (by rw [e]; exact ⟨_, ((X.sameT t1 t2).same s2).at, r⟩) ((Frame.sameT t1 (by simp)).trans (Frame.same s2)) (SameT.freeT t1 t2 hq)
    rw [e] at this
    rw [wv_len] at hq2
    exact this hq2
theorem R.row {st : DSt} {s : Abs} (r : R st s) (hk : st.keys = []) {ws : List (List Nat)} (hin : ∀ v ∈ ws, Ks295.has st.D v = true) (hroom : Roomy st ws) :
    R { st with D := ws.foldl incE st.D, text := st.text ++ ws } { s with list := ws.foldl Ks297.used s.list, text := s.text ++ ws } := by
  have rel := Rel.fold ws r.rel hin
  have g := good_fold r.rel r.good hin hroom.2
  refine ⟨rel, by show s.text ++ ws = st.text ++ ws; rw [r.text], r.keys, r.place, g, by show (ws.foldl incE st.D).length ≤ 64; rw [fold_len]; exact r.l64, fun v hv => ?_, ?_, r.k12, .inr ⟨r.place0 hk, ?_⟩⟩
  · show Ks295.has (ws.foldl incE st.D) v = true
    rw [has_fold]
    rcases List.mem_append.mp hv with z | z
    · exact r.tin v z
    · exact hin v z
  · show (st.text ++ ws).length ≤ 100
    rw [List.length_append]; exact hroom.1
  · show Ks295.meant _ s.keys = []
    rw [r.keys, hk]
    exact meant_nil rel g
def keyB (k : Nat) : Bool := decide (2 ≤ k) && decide (k ≤ 9)
theorem keyB_z (b : Nat) : decide ((2 : Int) ≤ (b : Int) ∧ (b : Int) ≤ 9) = keyB b := by
  unfold keyB
  rw [← Bool.decide_and]
  exact decide_eq_decide.mpr (by omega)
def spRow (K : PySem.W.Frag) (C T : Addr) : Sp := fun vs H Q _ => ∃ (a b : Addr) (fp : List Addr) (s : Abs) (ks : List Nat), vs = [.ref a, .ref b] ∧ SqL K H b (wv ks) ∧ Does C T H a fp s (.row ks) Q
theorem scRow : FnScope ["self", "row", "words", "key"] ["self", "row"] (defScope sRow) := ⟨rfl, rfl, rfl, by decide +kernel, rfl, by decide +kernel, by decide +kernel⟩
theorem ok_row {f C T fI fL fR fA : Addr} {fd fdI fdL fdR fdA : FuncData} (F : Fun K "part_row" "Desk.part_row" sRow f fd) (W : TxW K mg) (D : TxD K mg C) (GI : FnOk P w K mg base CX0 1 fI fdI ["number"] (spBetween 2 9)) (kI : PySem.W.keepIn K (.ref fI) = true) (mI : mg "is_key" = some (.ref fI)) (bI : Binds K fdI ["number"] [])
    (GL : FnOk P w K mg base CX0 3 fL fdL ["row", "counts"] (spLikely K)) (kL : PySem.W.keepIn K (.ref fL) = true) (mL : mg "likeliest_way" = some (.ref fL)) (bL : Binds K fdL ["row", "counts"] [])
    (GR : FnOk P w K mg base CX0 1 fR fdR ["self", "words"] (spRoom K C T)) (mR : Meth K C "has_room_for" fR) (bR : Binds K fdR ["self", "words"] []) (GA : FnOk P w K mg base CX0 1 fA fdA ["self", "words"] (spAddT K C T)) (mA : Meth K C "add_to_text" fA) (bA : Binds K fdA ["self", "words"] []) :
    FnOk P w K mg base CX0 4 f fd ["self", "row"] (spRow K C T) := by
  refine F.ok scRow (fun vs H Q E h => ?_) (fun cdv A outer s H vs Q E hr h => ?_)
  · obtain ⟨a, b, fp, s, ks, rfl, _⟩ := h
    rfl
  · obtain ⟨a, b, fp, s, ks, rfl, hs, ⟨st, dk, r⟩, kk⟩ := h
    obtain ⟨dx, d, tl, pl, tas, rfl, X⟩ := dk.x
    have line : sizeLine = 16777216 := sizeLine_eq
    have hr1 : Room 1 _ := hr.mono (by decide)
    refine ⟨_, pss_cons (ps_if (PW.pt (pw_or (pt_cmpR op_gt (pe_callB call_len_seq (by rfl) W.len PySem.boot_len (pa_cons (pv 1) pa_nil)) (pe_gv D.mostR) (nomark _)) (pw_or1 (pt_not (pt_val (pe_callB (cr_all rfl) (by rfl) W.all boot_all (pa_cons
        (pe_lc (own := [("key", 3)]) rfl scRow.nd (pi_list (pv 1)) (show BlkOk ["self", "row", "words", "key"] (defScope sRow) _ [("key", 3)] from blkOk_by (by decide +kernel)) (fun s H C cl fp => pg_name (i := 3) scRow.nd rfl (Or.inl rfl)) (fun s H C cl fp => pts_nil)
          (fun s H C cl fp => pe_call GI hr1 rfl mI kI bI .nil pass0 (pa_cons (pv 3) pa_nil))) pa_nil))))))) (pss_one (ps_ret (pe_gv D.valid))) pss_nil)
      (pss_cons (ps_if (pt_cmpR op_gt (pe_callB call_len_seq (by rfl) W.len PySem.boot_len (pa_cons (pe_fld (pv 0) rfl) pa_nil)) pe_int (nomark _)) (pss_one (ps_ret (pe_gv D.pressed))) pss_nil)
      (pss_cons (ps_set (i := 2) scRow.nd rfl (Or.inl rfl) (pe_call GL hr rfl mL kL bL .nil pass0 (pa_cons (pv 1) (pa_cons (pe_fld (pv 0) rfl) pa_nil))))
      (pss_cons (ps_if (pt_cmpR op_isN (pv 2) pe_non (nomark _)) (pss_one (ps_ret (pe_gv D.noWay))) pss_nil)
      (pss_cons (ps_if (pt_not (pt_val (pe_meth (pv 0) D.cl mR GR hr1 bR .nil pass0 (pa_cons (pv 2) pa_nil)))) (pss_one (ps_ret (pe_gv D.room))) pss_nil)
      (pss_cons (ps_expr (pe_meth (pv 0) D.cl mA GA hr1 bA .nil pass0 (pa_cons (pv 2) pa_nil)))
      (pss_one (ps_ret (pe_callB call_len_seq (by rfl) W.len PySem.boot_len (pa_cons (pv 2) pa_nil))))))))), ?_⟩
    have bad : ∀ H1, Same H H1 → Ks296.okKeys ks = false → Q (.int (-22)) H1 := fun H1 s1 z => by
      have e : act s (.row ks) = (s, Ks297.no (-22)) := if_pos z
      have := kk H1 _ (by rw [e]; exact ⟨_, (X.same s1).at, r⟩) (Frame.same s1)
      rw [e] at this
      exact this
    have eok : Ks296.okKeys ks = (decide (ks.length ≤ 40) && ks.all keyB) := rfl
    refine ⟨_, rfl, b, _, rfl, .inl hs, _, _, rfl, rfl, _, rfl, ite2 (fun h1 => iteT (bad H (Same.refl H) ?_)) fun h1 => ?_⟩
    · have := of_decide_eq_true h1
      rw [wv_len] at this
      rw [eok, decide_eq_false (by omega), Bool.false_and]
    have h40 : ks.length ≤ 40 := by
      have : ¬ (((wv ks).length : Int) > 40) := fun z => h1 (decide_eq_true z)
      rw [wv_len] at this
      omega
    refine ⟨_, rfl, b, rfl, ⟨_, hs⟩, fun L hL => lc_list (K := K) (a := b) (xs := wv ks) (fun i H' => Same H H' ∧ H' L = some (.lst (((ks.take i).map keyB).map V.bl))) ⟨same_new hL, upd_same⟩ (fun i H' _ p => p.1.seq hs) ?_ ?_⟩
    · rintro i x H' hi ⟨e, hd⟩
      obtain ⟨k, hk, rfl⟩ := wv_at hi
      refine ⟨rfl, yes_of ⟨_, rfl, _, rfl, ?_⟩⟩
      refine ⟨_, hd, ?_, same_upd e hL, ?_⟩
      · rw [List.length_map, List.length_map, List.length_take]; omega
      · rw [upd_same, take_one hk, keyB_z, List.map_append, List.map_append]
        rfl
    rintro H1 ⟨s1, hd⟩
    rw [wv_len, List.take_length] at hd
    refine ⟨L, _, rfl, SqL.of hd, _, rfl, ite2 (fun h2 => bad H1 s1 ?_) fun h2 => ?_⟩
    · rw [Bool.not_eq_true', List.all_map] at h2
      have h3 : ks.all keyB = false := h2
      rw [eok, h3, Bool.and_false]
    have hall : ks.all keyB = true := by
      rw [Bool.not_eq_true', List.all_map] at h2
      cases z : ks.all keyB with
      | true => rfl
      | false => exact absurd z h2
    have hok : ¬ Ks296.okKeys ks = false := by rw [eok, decide_eq_true h40, hall]; simp
    have X1 := X.same s1
    refine ⟨_, rfl, a, C, dx, _, _, rfl, X1.ins, D.cl, D.nPressed, deskF_pressed _ _ _ _, pl, _, rfl, .inl (SqL.of X1.ks), _, _, rfl, rfl, _, rfl, ite2 (fun h3 => ?_) fun h3 => ?_⟩
    · have hne : s.keys ≠ [] := fun z => by
        have := of_decide_eq_true h3
        rw [wv_len, ← r.keys, z] at this
        simp at this
      have e : act s (.row ks) = (s, Ks297.no (-11)) := (if_neg hok).trans (if_pos hne)
      have := kk H1 _ (by rw [e]; exact ⟨_, X1.at, r⟩) (Frame.same s1)
      rw [e] at this
      exact this
    have hk : st.keys = [] := by
      cases q : st.keys with
      | nil => rfl
      | cons x l => exact absurd (decide_eq_true (by rw [wv_len, q]; simp)) h3
    have hkn : ¬ s.keys ≠ [] := fun z => z (by rw [r.keys, hk])
    refine ⟨_, rfl, _, rfl, a, C, dx, _, _, rfl, X1.ins, D.cl, D.nCounts, deskF_counts _ _ _ _, b, d, ks, st.D, s.list, rfl, s1.seq hs, h40, X1.dict, r.rel, r.good, r.l64, fun H2 v s2 n1 n2 => ?_⟩
    have X2 := X1.same s2
    have s12 := s1.trans s2
    cases hp : Ks296.parted s.list ks with
    | none =>
      have ev := n1 hp
      subst ev
      have e : act s (.row ks) = (s, Ks297.no (-33)) := by
        refine (if_neg hok).trans ((if_neg hkn).trans ?_)
        rw [hp]
      refine ⟨_, rfl, rfl, _, rfl, iteT ?_⟩
      have := kk H2 _ (by rw [e]; exact ⟨_, X2.at, r⟩) (Frame.same s12)
      rw [e] at this
      exact this
    | some u =>
      obtain ⟨q, ev, as, hq, hwa, hnd⟩ := n2 u hp
      subst ev
      obtain ⟨pt1, pt2, pt3, tle⟩ := r.rel.parts r.good r.l64
      have ok := bestOf_ok pt1 pt2 pt3 ks.length ks (Nat.le_refl _) u hp
      have hle := ok.le
      have hlen := ok.len
      have hin : ∀ v ∈ u.words, Ks295.has st.D v = true := fun v hv => by
        rw [← r.rel.has]
        exact has_iff.mpr (ok.mem v hv)
      have hroom := room_iff r.rel r.good hin
      refine ⟨_, rfl, rfl, _, rfl, iteF ?_⟩
      refine ⟨_, rfl, a, dx, _, rfl, X2.ins, rfl, _, rfl, a, q, _, st, as, u.words, rfl, X2.at, hq, hnd, hwa, (by omega), hin, fun hy H3 s3 => ?_, fun hy H3 s3 => ?_⟩
      · refine ⟨_, rfl, iteF ?_⟩
        have X3 := X2.same s3
        have e : act s (.row ks) = ({ s with list := u.words.foldl Ks297.used s.list, text := s.text ++ u.words }, Ks297.no u.many) := by
          refine (if_neg hok).trans ((if_neg hkn).trans ?_)
          rw [hp]
          refine if_neg ?_
          rintro (z | z)
          · have z' : 100 < s.text.length + u.many := z
            rw [r.text, hlen] at z'
            have := hy.1
            omega
          · exact hroom.mp z hy.2
        refine ⟨_, rfl, a, dx, _, rfl, X3.ins, rfl, _, rfl, a, q, _, st, as, u.words, rfl, X3.at, s3.tupl hq, (hwa.mono fun b v z => s3 _ _ z), (by omega), r.t100, r.l64, hin, fun H4 dk4 f4 => ?_⟩
        have hq4 : SqT K H4 q (as.map V.ref) := by
          have hq3 := s3.tupl hq
          have nq : ∀ {o : HO}, H3 q = some o → (∀ ys, o ≠ .lst ys) → (∀ ys, o ≠ .dT ys) → (∀ c x fs, o ≠ .ins c x fs) → (∀ x, o ≠ .tbl x) → q ∉ [a, d, tl, pl, T] := fun {o} z n1 n2 n3 n4 m => by
            simp only [List.mem_cons, List.not_mem_nil, or_false] at m
            rcases m with y | y | y | y | y
            · rw [y, X3.ins] at z; exact n3 _ _ _ (Option.some.inj z).symm
            · rw [y, X3.dict] at z; exact n2 _ (Option.some.inj z).symm
            · rw [y, X3.tx] at z; exact n1 _ (Option.some.inj z).symm
            · rw [y, X3.ks] at z; exact n1 _ (Option.some.inj z).symm
            · rcases X3.tab with w' | ⟨_, w', _⟩
              · rw [y, w'] at z; exact n4 _ (Option.some.inj z).symm
              · rw [y, w'] at z; exact n4 _ (Option.some.inj z).symm
          rcases hq3 with (z | ⟨o, z⟩) | z
          · exact .inl (.inl (f4.keep _ _ z (nq z (fun _ y => nomatch y) (fun _ y => nomatch y) (fun _ _ _ y => nomatch y) fun _ y => nomatch y)))
          · exact .inl (.inr ⟨o, f4.keep _ _ z (nq z (fun _ y => nomatch y) (fun _ y => nomatch y) (fun _ _ _ y => nomatch y) fun _ y => nomatch y)⟩)
          · exact .inr z
        refine ⟨_, rfl, q, _, rfl, .inr hq4, ?_⟩
        have := kk H4 _ (by rw [e]; exact ⟨_, dk4, r.row hk hin hy⟩) ((Frame.same (s12.trans s3)).trans f4)
        rw [e] at this
        have el : ((as.map V.ref).length : Int) = (u.many : Int) := by rw [List.length_map, hwa.1, hlen]
        show Q (.int ((as.map V.ref).length : Int)) H4
        rw [el]
        exact this
      · refine ⟨_, rfl, iteT ?_⟩
        have e : act s (.row ks) = (s, Ks297.no (-12)) := by
          refine (if_neg hok).trans ((if_neg hkn).trans ?_)
          rw [hp]
          refine if_pos ?_
          by_cases z : s.text.length + u.many ≤ 100
          · right
            refine hroom.mpr fun y => hy ⟨?_, y⟩
            rw [← r.text, ← hlen]; exact z
          · left
            show 100 < s.text.length + u.many
            omega
        have := kk H3 _ (by rw [e]; exact ⟨_, (X2.same s3).at, r⟩) (Frame.same (s12.trans s3))
        rw [e] at this
        exact this
end
end Wk
namespace Wk
open PySem PySem.Spec PyProof.Rows L2
open Ks297 (Abs act)
theorem act_begin (s : Abs) (bs : List Nat) : act s (.begin (some bs)) = match Ks295.read bs with
    | .error k => (s, Ks297.no (-1000 - (k : Int)))
    | .ok l => ({ list := l }, Ks297.no l.length) := rfl
theorem addLine_len {t : List Nat} {D D' : List Ks295.Entry} (h : addLine t D = some D') (h64 : D.length ≤ 64) : D'.length ≤ 64 := by
  unfold addLine at h
  by_cases c1 : D.length = 64 ∨ 32 ∉ t
  · rw [if_pos c1] at h; cases h
  · rw [if_neg c1] at h
    by_cases c2 : Ks295.isWord (t.take (blankAt t)) = false ∨ Ks295.has D (t.take (blankAt t)) = true ∨ readCount (t.drop (blankAt t + 1)) = 0
    · rw [if_pos c2] at h; cases h
    · rw [if_neg c2] at h
      rw [← Option.some.inj h, List.length_append]
      have : D.length ≠ 64 := fun z => c1 (.inl z)
      simp
      omega
section
variable {P : Program} {w : World} {K : PySem.W.Frag} {mg : Str → Option Value} {base : Heap}
def spBegin (K : PySem.W.Frag) (C T : Addr) : Sp := fun vs H Q _ => ∃ (a b : Addr) (fp : List Addr) (s : Abs) (bs : List Nat), vs = [.ref a, .ref b] ∧ SqL K H b (wv bs) ∧ bs.length ≤ 100000 ∧ Does C T H a fp s (.begin (if Ks295.LONG < bs.length then none else some bs)) Q
theorem scBegin : FnScope ["self", "signs", "counts", "number", "line"] ["self", "signs"] (defScope sBegin) := ⟨rfl, rfl, rfl, by decide +kernel, rfl, by decide +kernel, by decide +kernel⟩
theorem ok_begin {f C T fL fA fP : Addr} {fd fdL fdA fdP : FuncData} (F : Fun K "begin" "Desk.begin" sBegin f fd) (W : TxW K mg) (D : TxD K mg C) (GL : FnOk P w K mg base CX0 1 fL fdL ["signs"] (spLines K)) (kL : PySem.W.keepIn K (.ref fL) = true) (mL : mg "lines_of" = some (.ref fL)) (bL : Binds K fdL ["signs"] [])
    (GA : FnOk P w K mg base CX0 3 fA fdA ["line", "counts"] (spAdd K)) (kA : PySem.W.keepIn K (.ref fA) = true) (mA : mg "add_line" = some (.ref fA)) (bA : Binds K fdA ["line", "counts"] [])
    (GP : FnOk P w K mg base CX0 1 fP fdP ["self"] (spDrop C T)) (mP : Meth K C "drop_keys" fP) (bP : Binds K fdP ["self"] []) : FnOk P w K mg base CX0 4 f fd ["self", "signs"] (spBegin K C T) := by
  refine F.ok scBegin (fun vs H Q E h => ?_) (fun cdv A outer s H vs Q E hr h => ?_)
  · obtain ⟨a, b, fp, s, bs, rfl, _⟩ := h
    rfl
  · obtain ⟨a, b, fp, s, bs, rfl, hs, hbl, ⟨st, dk, r⟩, kk⟩ := h
    obtain ⟨dx, d, tl, pl, tas, rfl, X⟩ := dk.x
    have line : sizeLine = 16777216 := sizeLine_eq
    have hr1 : Room 1 _ := hr.mono (by decide)
    refine ⟨_, pss_cons (ps_if (pt_cmpR op_gt (pe_callB call_len_seq (by rfl) W.len PySem.boot_len (pa_cons (pv 1) pa_nil)) (pe_gv D.mostB) (nomark _)) (pss_one (ps_ret (pe_gv D.valid))) pss_nil)
      (pss_cons (ps_set (i := 2) scBegin.nd rfl (Or.inl rfl) pe_dnewT)
      (pss_cons (ps_for PassesOwn.never rfl (pi_enum1 (by rfl) W.enumerate (pe_call GL hr1 rfl mL kL bL .nil pass0 (pa_cons (pv 1) pa_nil))) (pg_tup rfl (pgs_cons (pg_name (i := 3) scBegin.nd rfl (Or.inl rfl)) (pgs_cons (pg_name (i := 4) scBegin.nd rfl (Or.inl rfl)) pgs_nil)))
        (pss_one (ps_if (pt_not (pt_val (pe_call GA hr rfl mA kA bA .nil pass0 (pa_cons (pv 4) (pa_cons (pv 2) pa_nil))))) (pss_one (ps_ret (pe_op op_sub (pe_gv D.wrong) (pv 3)))) pss_nil)))
      (pss_cons (ps_fld (pv 0) (pv 2) rfl)
      (pss_cons (ps_fld (pv 0) (pe_lst pa_nil) rfl)
      (pss_cons (ps_expr (pe_meth0 (pv 0) D.cl mP GP hr1 bP .nil pass0))
      (pss_one (ps_ret (pe_callB call_lenT (by rfl) W.len PySem.boot_len (pa_cons (pv 2) pa_nil))))))))), ?_⟩
    refine ⟨_, rfl, b, _, rfl, .inl hs, _, _, rfl, rfl, _, rfl, ite2 (fun h1 => ?_) fun h1 => ?_⟩
    · have hlong : Ks295.LONG < bs.length := by
        have := of_decide_eq_true h1
        rw [wv_len] at this
        show 2048 < bs.length
        omega
      rw [if_pos hlong] at kk
      exact kk H _ ⟨st, dk, r⟩ (Frame.refl _ H)
    have hshort : ¬ Ks295.LONG < bs.length := fun z => h1 (decide_eq_true (by rw [wv_len]; have z' : 2048 < bs.length := z; omega))
    rw [if_neg hshort] at kk
    have eread : Ks295.read bs = Ks295.readFrom 1 (linesM bs) [] := by unfold Ks295.read; rw [linesM_eq]
    intro c hc
    have s0 : Same H (upd H c (.dT [])) := same_new hc
    have hc0 : (upd H c (.dT [])) c = some (.dT (dv [])) := upd_same
    generalize upd H c (.dT []) = H0 at s0 hc0
    refine ⟨_, rfl, b, bs, rfl, s0.seq hs, hbl, fun H1 p as s1 hp1 hla => ?_⟩
    have hc1 := s1 _ _ hc0
    have np : p ≠ c := ne_of hp1 hc1 fun z => nomatch z
    refine ⟨p, _, rfl, SqL.of hp1, for_enum1 (K := K) (a := p) (xs := as.map V.ref) (fun i σ H' => ∃ (u3 u4 : Option V) (Di : List Ks295.Entry), σ = [some (.ref a), some (.ref b), some (.ref c), u3, u4] ∧ (∀ x o, H1 x = some o → x ≠ c → H' x = some o) ∧ H' c = some (.dT (dv Di)) ∧
        addLines 1 (linesM bs) [] = addLines (i + 1) ((linesM bs).drop i) Di ∧ Di.length ≤ 64) ⟨none, none, [], rfl, fun x o z _ => z, hc1, rfl, by simp⟩ (fun i σ H' _ ⟨_, _, _, _, e, _⟩ => SqL.of (e _ _ hp1 np)) ?_ ?_⟩
    · rintro i y T0 σ H' hi hT0 ⟨u3, u4, Di, rfl, e1, hcd, hadd, h64⟩
      obtain ⟨la, hlai, rfl⟩ := refs_at hi
      have hil : i < (linesM bs).length := by rw [← hla.1]; exact (List.getElem?_eq_some_iff.mp hlai).1
      have ht : (linesM bs)[i]? = some (linesM bs)[i] := List.getElem?_eq_getElem hil
      have hlaH := hla.2 i la _ hlai ht
      have edrop : (linesM bs).drop i = (linesM bs)[i] :: (linesM bs).drop (i + 1) := List.drop_eq_getElem_cons hil
      generalize (linesM bs)[i] = t at hlaH edrop
      have nla : la ≠ c := ne_of hlaH hc1 fun z => nomatch z
      have sT : Same H' (upd H' T0 (.tup [.int ((i + 1 : Nat) : Int), .ref la])) := same_new hT0
      have hT2 : (upd H' T0 (.tup [.int ((i + 1 : Nat) : Int), .ref la])) T0 = some (.tup [.int ((i + 1 : Nat) : Int), .ref la]) := upd_same
      generalize upd H' T0 (.tup [.int ((i + 1 : Nat) : Int), .ref la]) = H2 at sT hT2
      refine ⟨T0, _, rfl, SqT.of hT2, rfl, _, _, rfl, _, _, rfl, rfl, ?_⟩
      have keepH : ∀ {H3 : Hp}, (∀ x o, H2 x = some o → x ≠ c → H3 x = some o) → Same H H3 := fun {H3} k3 x o z => by
        have nx : x ≠ c := ne_of_none z hc
        exact k3 _ _ (sT _ _ (e1 _ _ (s1 _ _ (s0 _ _ z)) nx)) nx
      refine ⟨_, rfl, _, rfl, la, c, t, Di, rfl, SqL.of (sT _ _ (e1 _ _ hlaH nla)), sT _ _ hcd, h64, fun hn H3 s3 => ?_, fun D' hsome H3 k3 hc3 => ?_⟩
      · refine ⟨_, rfl, iteT ?_⟩
        have sH : Same H H3 := keepH fun x o z _ => s3 _ _ z
        have eadd : addLines 1 (linesM bs) [] = .inl (i + 1) := by
          rw [hadd, edrop]
          show (match addLine t Di with | none => _ | some d' => _) = _
          rw [hn]
        rcases addLines_eq (linesM bs) 1 [] [] Rel.nil (by simp) (fun e he => by cases he) with ⟨j, j1, j2⟩ | ⟨d', l', j1, _⟩
        · rw [eadd] at j1
          have ej : i + 1 = j := Sum.inl.inj j1
          have e : act s (.begin (some bs)) = (s, Ks297.no (-1000 - (j : Int))) := by rw [act_begin, eread, j2]
          refine ⟨_, rfl, _, _, rfl, rfl, ?_⟩
          have := kk H3 _ (by rw [e]; exact ⟨_, (X.same sH).at, r⟩) (Frame.same sH)
          rw [e, ← ej] at this
          exact this
        · rw [eadd] at j1; cases j1
      · refine ⟨_, rfl, iteF ⟨_, _, D', rfl, fun x o z n => k3 _ _ (sT _ _ (e1 _ _ z n)) n, hc3, ?_, addLine_len hsome h64⟩⟩
        rw [hadd, edrop]
        show (match addLine t Di with | none => _ | some d' => _) = _
        rw [hsome]
    · rintro σ H' ⟨u3, u4, Di, rfl, e1, hcd, hadd, h64⟩
      rw [List.length_map, hla.1, List.drop_length] at hadd
      have sH : ∀ x o, H x = some o → H' x = some o := fun x o z => e1 _ _ (s1 _ _ (s0 _ _ z)) (ne_of_none z hc)
      have X1 := X.same sH
      rcases addLines_eq (linesM bs) 1 [] [] Rel.nil (by simp) (fun e he => by cases he) with ⟨j, j1, j2⟩ | ⟨d', l', j1, j2, rel, j64, good⟩
      · rw [hadd] at j1; cases j1
      rw [hadd] at j1
      have ed : Di = d' := Sum.inr.inj j1
      subst ed
      have e : act s (.begin (some bs)) = ({ list := l' }, Ks297.no l'.length) := by rw [act_begin, eread, j2]
      refine ⟨_, rfl, _, rfl, a, C, dx, _, rfl, X1.ins, D.cl, D.nCounts, (by show 4 < 1000; decide), ?_⟩
      rw [putF_counts]
      refine ⟨Nat.zero_le _, fun tl' htl' => ?_⟩
      have na : a ≠ tl' := fun z => by rw [← z, upd_same] at htl'; cases htl'
      have htl0 : H' tl' = none := by rw [upd_ne (Ne.symm na)] at htl'; exact htl'
      refine ⟨_, rfl, a, C, dx, _, rfl, by rw [upd_ne na, upd_same], D.cl, D.nText, (by show 4 < 1000; decide), ?_⟩
      rw [putF_text]
      have kp : ∀ {x : Addr} {o : HO}, H' x = some o → x ≠ a → (upd (upd (upd H' a (.ins C dx (deskF c tl pl st.place))) tl' (.lst [])) a (.ins C dx (deskF c tl' pl st.place))) x = some o := fun z n => by
        rw [upd_ne n, upd_ne (ne_of_none z htl0), upd_ne n]; exact z
      have X2 : DeskX C T (upd (upd (upd H' a (.ins C dx (deskF c tl pl st.place))) tl' (.lst [])) a (.ins C dx (deskF c tl' pl st.place))) a dx c tl' pl [] ⟨Di, [], st.keys, st.place⟩ := by
        refine ⟨upd_same, kp hcd (ne_of hcd X1.ins fun z => nomatch z), by rw [upd_ne (Ne.symm na), upd_same] <;> rfl, WordsAt.nil, kp X1.ks (ne_of X1.ks X1.ins fun z => nomatch z), (fun z => by rw [z, X1.ks] at htl0; cases htl0), ?_⟩
        have tne : T ≠ a := Ne.symm (SameT.ne X1.tab X1.ins fun q z => nomatch z)
        rcases X1.tab with q | ⟨c', q, q'⟩
        · exact .inl (kp q tne)
        · exact .inr ⟨c', kp q tne, kp q' (ne_of q' X1.ins fun z => nomatch z)⟩
      have hc2 : (upd (upd (upd H' a (.ins C dx (deskF c tl pl st.place))) tl' (.lst [])) a (.ins C dx (deskF c tl' pl st.place))) c = some (.dT (dv Di)) := X2.dict
      have f2 : Frame [a, d, tl, pl, T] [a, c, tl', pl, T] H (upd (upd (upd H' a (.ins C dx (deskF c tl pl st.place))) tl' (.lst [])) a (.ins C dx (deskF c tl' pl st.place))) := by
        refine ⟨fun x o z m => kp (sH x o z) fun y => m (by rw [y]; simp), fun x hx => ?_⟩
        simp only [List.mem_cons, List.not_mem_nil, or_false] at hx ⊢
        rcases hx with z | z | z | z | z
        · exact .inl (.inl z)
        · exact .inr (by rw [z]; exact hc)
        · refine .inr ?_
          rw [z]
          cases qq : H tl' with
          | none => rfl
          | some o => rw [sH _ _ qq] at htl0; cases htl0
        · exact .inl (.inr (.inr (.inr (.inl z))))
        · exact .inl (.inr (.inr (.inr (.inr z))))
      generalize upd (upd (upd H' a (.ins C dx (deskF c tl pl st.place))) tl' (.lst [])) a (.ins C dx (deskF c tl' pl st.place)) = H2 at X2 f2 hc2
      refine ⟨_, rfl, a, dx, _, rfl, X2.ins, rfl, a, _, _, rfl, X2.at, fun H3 fp3 dk3 f3 keep3 => ?_⟩
      have hc3 : H3 c = some (.dT (dv Di)) := keep3 _ _ hc2 (ne_of hc2 X2.ins fun z => nomatch z)
      refine ⟨_, rfl, c, _, rfl, hc3, ?_⟩
      have := kk H3 _ (by rw [e]; exact ⟨_, dk3, R.clear rel good j64 (fun v hv => by cases hv) (by simp)⟩) (f2.trans f3)
      rw [e] at this
      have el : ((dv Di).length : Int) = (l'.length : Int) := by rw [dv_len, rel.len]
      show Q (.int ((dv Di).length : Int)) H3
      rw [el]
      exact this
end
end Wk
namespace Wk
open PySem PySem.Spec PyProof.Rows L2
open Ks297 (Abs act)
abbrev sRInit : Stmt := inClass sReader 0
abbrev sRMore : Stmt := inClass sReader 1
abbrev sRNum : Stmt := inClass sReader 2
abbrev sRRow : Stmt := inClass sReader 3
def rdF (nb : Addr) (p : Int) : List (Str × V) := [("numbers", .ref nb), ("position", .int p)]
theorem rdF_nums (nb : Addr) (p : Int) : (rdF nb p).lookup ("numbers" : Str) = some (.ref nb) := rfl
theorem rdF_pos (nb : Addr) (p : Int) : (rdF nb p).lookup ("position" : Str) = some (.int p) := rfl
theorem putF_pos (nb : Addr) (p q : Int) : putF "position" (.int q) (rdF nb p) = rdF nb q := rfl
def RdAt (CR : Addr) (H : Hp) (a nb : Addr) (p : Nat) : Prop := ∃ dx, H a = some (.ins CR dx (rdF nb p))
theorem zv_len (l : List Int) : (zv l).length = l.length := List.length_map ..
structure TxR (K : PySem.W.Frag) (mg : Str → Option Value) (CR : Addr) : Prop where
  cl : Cls K CR
  nNums : NoAttr K CR "numbers"
  nPos : NoAttr K CR "position"
section
variable {P : Program} {w : World} {K : PySem.W.Frag} {mg : Str → Option Value} {base : Heap}
def spRInit (CR : Addr) : Sp := fun vs H Q _ => ∃ (p dx nb : Addr), vs = [.ref p, .ref nb] ∧ H p = some (.ins CR dx []) ∧ ∀ H' : Hp, RdAt CR H' p nb 0 → (∀ b o, H b = some o → b ≠ p → H' b = some o) → Q .non H'
theorem scRInit : FnScope ["self", "numbers"] ["self", "numbers"] (defScope sRInit) := ⟨rfl, rfl, rfl, by decide +kernel, rfl, by decide +kernel, by decide +kernel⟩
theorem ok_rinit {f CR : Addr} {fd : FuncData} (F : Fun K "__init__" "Reader.__init__" sRInit f fd) (D : TxR K mg CR) : FnOk P w K mg base CX0 1 f fd ["self", "numbers"] (spRInit CR) := by
  refine F.ok scRInit (fun vs H Q E h => ?_) (fun cdv A outer s H vs Q E hr h => ?_)
  · obtain ⟨p, dx, nb, rfl, _⟩ := h
    rfl
  · obtain ⟨p, dx, nb, rfl, hp, k⟩ := h
    refine ⟨_, pss_cons (ps_fld (pv 0) (pv 1) rfl) (pss_one (ps_fld (pv 0) pe_int rfl)), ?_⟩
    refine ⟨_, rfl, _, rfl, p, CR, dx, _, rfl, hp, D.cl, D.nNums, (by show 0 < 1000; decide), ?_⟩
    refine ⟨_, rfl, p, CR, dx, _, rfl, upd_same, D.cl, D.nPos, (by show 1 < 1000; decide), ?_⟩
    exact k _ ⟨dx, upd_same⟩ fun b o e n => by rw [upd_ne n, upd_ne n]; exact e
def spRMore (K : PySem.W.Frag) (CR : Addr) : Sp := fun vs H Q _ => ∃ (a nb : Addr) (p : Nat) (all : List Int), vs = [.ref a] ∧ RdAt CR H a nb p ∧ SqL K H nb (zv all) ∧ Q (.bl (decide (p < all.length))) H
theorem scRMore : FnScope ["self"] ["self"] (defScope sRMore) := ⟨rfl, rfl, rfl, by decide +kernel, rfl, by decide +kernel, by decide +kernel⟩
theorem ok_rmore {f CR : Addr} {fd : FuncData} (F : Fun K "has_more" "Reader.has_more" sRMore f fd) (W : TxW K mg) (D : TxR K mg CR) : FnOk P w K mg base CX0 1 f fd ["self"] (spRMore K CR) := by
  refine F.ok scRMore (fun vs H Q E h => ?_) (fun cdv A outer s H vs Q E hr h => ?_)
  · obtain ⟨a, nb, p, all, rfl, _⟩ := h
    rfl
  · obtain ⟨a, nb, p, all, rfl, ⟨dx, ha⟩, hs, k⟩ := h
    refine ⟨_, pss_one (ps_ret (pe_cmpR op_lt (pe_fld (pv 0) rfl) (pe_callB call_len_seq (by rfl) W.len PySem.boot_len (pa_cons (pe_fld (pv 0) rfl) pa_nil)) (nomark _))), ?_⟩
    refine ⟨_, rfl, a, CR, dx, _, _, rfl, ha, D.cl, D.nPos, rdF_pos _ _, _, rfl, a, CR, dx, _, _, rfl, ha, D.cl, D.nNums, rdF_nums _ _, nb, _, rfl, .inl hs, _, _, rfl, rfl, ?_⟩
    have e : decide ((p : Int) < ((zv all).length : Int)) = decide (p < all.length) := decide_eq_decide.mpr (by rw [zv_len]; omega)
    show Q (.bl (decide ((p : Int) < ((zv all).length : Int)))) H
    rw [e]
    exact k
def spRNum (K : PySem.W.Frag) (CR : Addr) : Sp := fun vs H Q _ => ∃ (a nb : Addr) (p : Nat) (all : List Int) (z : Int), vs = [.ref a] ∧ RdAt CR H a nb p ∧ SqL K H nb (zv all) ∧ all[p]? = some z ∧ ∀ H' : Hp, RdAt CR H' a nb (p + 1) → (∀ b o, H b = some o → b ≠ a → H' b = some o) → (∀ b, H' b = none → H b = none) → Q (.int z) H'
theorem scRNum : FnScope ["self", "number"] ["self"] (defScope sRNum) := ⟨rfl, rfl, rfl, by decide +kernel, rfl, by decide +kernel, by decide +kernel⟩
theorem ok_rnum {f CR : Addr} {fd : FuncData} (F : Fun K "read_number" "Reader.read_number" sRNum f fd) (D : TxR K mg CR) : FnOk P w K mg base CX0 1 f fd ["self"] (spRNum K CR) := by
  refine F.ok scRNum (fun vs H Q E h => ?_) (fun cdv A outer s H vs Q E hr h => ?_)
  · obtain ⟨a, nb, p, all, z, rfl, _⟩ := h
    rfl
  · obtain ⟨a, nb, p, all, z, rfl, ⟨dx, ha⟩, hs, hz, k⟩ := h
    refine ⟨_, pss_cons (ps_set (i := 1) scRNum.nd rfl (Or.inl rfl) (pe_ix ix_list (pe_fld (pv 0) rfl) (pe_fld (pv 0) rfl) (fun _ _ => rfl))) (pss_cons (ps_fldaug (pv 0) pe_int in_add) (pss_one (ps_ret (pv 1)))), ?_⟩
    refine ⟨_, rfl, a, CR, dx, _, _, rfl, ha, D.cl, D.nNums, rdF_nums _ _, _, rfl, a, CR, dx, _, _, rfl, ha, D.cl, D.nPos, rdF_pos _ _, nb, _, _, _, rfl, rfl, hs, at_of (j := p) (v := V.int z) rfl (by unfold zv; rw [List.getElem?_map, hz]; rfl), ?_⟩
    refine ⟨_, rfl, a, CR, dx, _, _, rfl, ha, D.cl, D.nPos, rdF_pos _ _, _, _, rfl, rfl, dx, _, ha, (by show 2 < 1000; decide), _, rfl, ?_⟩
    have e : (p : Int) + 1 = ((p + 1 : Nat) : Int) := by omega
    rw [e, putF_pos]
    refine k _ ⟨dx, upd_same⟩ (fun b o q n => by rw [upd_ne n]; exact q) fun b q => ?_
    by_cases y : b = a
    · rw [y, upd_same] at q; cases q
    · rw [upd_ne y] at q; exact q
theorem sq_but {H H' : Hp} {a nb CR dx : Addr} {fs : List (Str × V)} {xs : List V} (ha : H a = some (.ins CR dx fs)) (e : ∀ b o, H b = some o → b ≠ a → H' b = some o) (h : SqL K H nb xs) : SqL K H' nb xs := by
  rcases h with (h | ⟨o, h⟩) | h
  · exact .inl (.inl (e _ _ h (ne_of h ha fun z => nomatch z)))
  · exact .inl (.inr ⟨o, e _ _ h (ne_of h ha fun z => nomatch z)⟩)
  · exact .inr h
theorem zcut (l : List Int) {a b : Nat} (h1 : a ≤ b) (h2 : b ≤ l.length) : cutV (zv l) (some (a : Int)) (some (b : Int)) = zv ((l.drop a).take (b - a)) := by
  unfold cutV
  rw [HT.sIx_nat, HT.sIx_nat, zv_len, Nat.min_eq_left (show a ≤ l.length by omega), Nat.min_eq_left h2]
  unfold zv
  rw [List.map_take, List.map_drop]
def spRRow (K : PySem.W.Frag) (CR : Addr) : Sp := fun vs H Q _ => ∃ (a nb : Addr) (p n : Nat) (all : List Int), vs = [.ref a] ∧ RdAt CR H a nb p ∧ SqL K H nb (zv all) ∧ all[p]? = some (n : Int) ∧ p + 1 + n ≤ all.length ∧
  ∀ (H' : Hp) (q : Addr), RdAt CR H' a nb (p + 1 + n) → (∀ b o, H b = some o → b ≠ a → H' b = some o) → H q = none → H' q = some (.lst (zv ((all.drop (p + 1)).take n))) → Q (.ref q) H'
theorem scRRow : FnScope ["self", "length", "start"] ["self"] (defScope sRRow) := ⟨rfl, rfl, rfl, by decide +kernel, rfl, by decide +kernel, by decide +kernel⟩
theorem ok_rrow {f CR fN : Addr} {fd fdN : FuncData} (F : Fun K "read_row" "Reader.read_row" sRRow f fd) (D : TxR K mg CR) (GN : FnOk P w K mg base CX0 1 fN fdN ["self"] (spRNum K CR)) (mN : Meth K CR "read_number" fN) (bN : Binds K fdN ["self"] []) : FnOk P w K mg base CX0 2 f fd ["self"] (spRRow K CR) := by
  refine F.ok scRRow (fun vs H Q E h => ?_) (fun cdv A outer s H vs Q E hr h => ?_)
  · obtain ⟨a, nb, p, n, all, rfl, _⟩ := h
    rfl
  · obtain ⟨a, nb, p, n, all, rfl, ⟨dx, ha⟩, hs, hz, hle, k⟩ := h
    refine ⟨_, pss_cons (ps_set (i := 1) scRRow.nd rfl (Or.inl rfl) (pe_meth0 (pv 0) D.cl mN GN hr bN .nil pass0)) (pss_cons (ps_set (i := 2) scRRow.nd rfl (Or.inl rfl) (pe_fld (pv 0) rfl))
      (pss_cons (ps_fld (pv 0) (pe_op op_add (pv 2) (pv 1)) rfl) (pss_one (ps_ret (pe_slice sl_list (pe_fld (pv 0) rfl) (po_some (pv 2)) (po_some (pe_op op_add (pv 2) (pv 1)))))))), ?_⟩
    refine ⟨_, rfl, a, dx, _, rfl, ha, rfl, a, nb, p, all, _, rfl, ⟨dx, ha⟩, hs, hz, fun H1 ⟨dx1, ha1⟩ e1 free1 => ?_⟩
    have hs1 := sq_but ha e1 hs
    refine ⟨_, rfl, a, CR, dx1, _, _, rfl, ha1, D.cl, D.nPos, rdF_pos _ _, ?_⟩
    refine ⟨_, rfl, _, rfl, _, _, rfl, rfl, _, rfl, a, CR, dx1, _, rfl, ha1, D.cl, D.nPos, (by show 2 < 1000; decide), ?_⟩
    have e : ((p + 1 : Nat) : Int) + (n : Int) = ((p + 1 + n : Nat) : Int) := by omega
    dsimp only
    rw [e, putF_pos]
    have ha2 : (upd H1 a (.ins CR dx1 (rdF nb ((p + 1 + n : Nat) : Int)))) a = some (.ins CR dx1 (rdF nb ((p + 1 + n : Nat) : Int))) := upd_same
    have e2 : ∀ b o, H1 b = some o → b ≠ a → (upd H1 a (.ins CR dx1 (rdF nb ((p + 1 + n : Nat) : Int)))) b = some o := fun b o q n => by rw [upd_ne n]; exact q
    have free2 : ∀ b, (upd H1 a (.ins CR dx1 (rdF nb ((p + 1 + n : Nat) : Int)))) b = none → H1 b = none := fun b q => by
      by_cases y : b = a
      · rw [y, upd_same] at q; cases q
      · rw [upd_ne y] at q; exact q
    have hs2 := sq_but ha1 e2 hs1
    generalize upd H1 a (.ins CR dx1 (rdF nb ((p + 1 + n : Nat) : Int))) = H2 at ha2 e2 free2 hs2
    refine ⟨_, rfl, a, CR, dx1, _, _, rfl, ha2, D.cl, D.nNums, rdF_nums _ _, _, rfl, _, rfl, _, rfl, _, rfl, _, _, rfl, rfl, _, rfl, nb, _, rfl, hs2, fun q hq => ?_⟩
    dsimp only
    rw [e, zcut all (by omega) hle, Nat.add_sub_cancel_left]
    have hq1 := free2 _ hq
    have hq0 := free1 _ hq1
    refine k _ q ⟨dx1, by rw [upd_ne (ne_of_none ha2 hq)]; exact ha2⟩ (fun b o z m => ?_) hq0 upd_same
    have z2 := e2 _ _ (e1 _ _ z m) m
    rw [upd_ne (ne_of_none z2 hq)]; exact z2
end
end Wk
namespace Wk
open PySem PySem.Spec PyProof.Rows L2
open Ks297 (Abs act)
theorem out_begin (s : Abs) (t : Option (List Nat)) : (act s (.begin t)).2.out = [] := by
  cases t with
  | none => rfl
  | some t =>
    rw [act_begin]
    cases Ks295.read t <;> rfl
theorem out_learn (s : Abs) (v : List Nat) (n : Nat) : (act s (.learn v n)).2.out = [] := by
  unfold Ks297.act
  dsimp only
  repeat' split
  all_goals rfl
theorem out_key (s : Abs) (k : Nat) : (act s (.key k)).2.out = [] := by
  unfold Ks297.act
  dsimp only
  repeat' split
  all_goals rfl
theorem out_next (s : Abs) : (act s .next).2.out = [] := by
  unfold Ks297.act
  dsimp only
  repeat' split
  all_goals rfl
theorem out_take (s : Abs) : (act s .take).2.out = [] := by
  unfold Ks297.act
  dsimp only
  repeat' split
  all_goals rfl
theorem out_back (s : Abs) : (act s .back).2.out = [] := by
  unfold Ks297.act
  dsimp only
  repeat' split
  all_goals rfl
theorem out_row (s : Abs) (ks : List Nat) : (act s (.row ks)).2.out = [] := by
  unfold Ks297.act
  dsimp only
  repeat' split
  all_goals rfl
theorem sa_one {x : Abs × Ks297.Ans} (h : x.2.out = []) : Ks297Neutral.sa x = (x.1, [x.2.ret]) := by
  unfold Ks297Neutral.sa
  rw [h]; rfl
theorem zv_nats {bs : List Int} (h : ∀ z ∈ bs, 0 ≤ z ∧ z < 256) : zv bs = wv (Ks297Neutral.nats bs) := by
  unfold zv wv Ks297Neutral.nats
  rw [List.map_map]
  refine List.map_congr_left fun z hz => ?_
  show V.int z = V.int ((z.toNat : Nat) : Int)
  rw [Int.toNat_of_nonneg (h z hz).1]
def NumsAt (K : PySem.W.Frag) (H : Hp) (nb : Addr) (all : List Int) : Prop := (∃ o, H nb = some (.frz o (.lst (zv all)))) ∨ ∀ H', SqL K H' nb (zv all)
section
variable {K : PySem.W.Frag}
theorem NumsAt.seq {H : Hp} {nb : Addr} {all : List Int} (h : NumsAt K H nb all) : SqL K H nb (zv all) := by
  rcases h with ⟨o, h⟩ | h
  · exact .inl (.inr ⟨o, h⟩)
  · exact h H
theorem NumsAt.keep {H H' : Hp} {nb : Addr} {all : List Int} (h : NumsAt K H nb all) (e : ∀ o u, H nb = some (.frz o u) → H' nb = some (.frz o u)) : NumsAt K H' nb all := by
  rcases h with ⟨o, h⟩ | h
  · exact .inl ⟨o, e _ _ h⟩
  · exact .inr h
end
theorem DeskX.held {C T : Addr} {H : Hp} {a dx d tl pl : Addr} {tas : List Addr} {st : DSt} (X : DeskX C T H a dx d tl pl tas st) : ∀ b ∈ [a, d, tl, pl, T], ∃ o, H b = some o ∧ ∀ q u, o ≠ .frz q u := fun b hb => by
  simp only [List.mem_cons, List.not_mem_nil, or_false] at hb
  rcases hb with z | z | z | z | z
  · rw [z]; exact ⟨_, X.ins, fun q u y => nomatch y⟩
  · rw [z]; exact ⟨_, X.dict, fun q u y => nomatch y⟩
  · rw [z]; exact ⟨_, X.tx, fun q u y => nomatch y⟩
  · rw [z]; exact ⟨_, X.ks, fun q u y => nomatch y⟩
  · rw [z]
    rcases X.tab with q | ⟨_, q, _⟩
    · exact ⟨_, q, fun q u y => nomatch y⟩
    · exact ⟨_, q, fun q u y => nomatch y⟩
theorem Desk.held {C T : Addr} {H : Hp} {a : Addr} {fp : List Addr} {s : Abs} (h : Desk C T H a fp s) : ∀ b ∈ fp, ∃ o, H b = some o ∧ ∀ q u, o ≠ .frz q u := by
  obtain ⟨st, dk, _⟩ := h
  obtain ⟨dx, d, tl, pl, tas, rfl, X⟩ := dk.x
  exact X.held
theorem DeskX.but {C T : Addr} {H H' : Hp} {a dx d tl pl : Addr} {tas : List Addr} {st : DSt} (X : DeskX C T H a dx d tl pl tas st) {rd CR dxr : Addr} {fs : List (Str × V)} (hrd : H rd = some (.ins CR dxr fs)) (n : rd ∉ [a, d, tl, pl, T]) (e : ∀ b o, H b = some o → b ≠ rd → H' b = some o) : DeskX C T H' a dx d tl pl tas st := by
  have na : a ≠ rd := fun z => n (by rw [← z]; simp)
  have nT : T ≠ rd := fun z => n (by rw [← z]; simp)
  refine ⟨e _ _ X.ins na, e _ _ X.dict (ne_of X.dict hrd fun z => nomatch z), e _ _ X.tx (ne_of X.tx hrd fun z => nomatch z), X.words.mono (fun b v z => e _ _ z (ne_of z hrd fun y => nomatch y)), e _ _ X.ks (ne_of X.ks hrd fun z => nomatch z), X.ne, ?_⟩
  rcases X.tab with q | ⟨c, q, q'⟩
  · exact .inl (e _ _ q nT)
  · exact .inr ⟨c, e _ _ q nT, e _ _ q' (ne_of q' hrd fun z => nomatch z)⟩
theorem Frame.rd {fp : List Addr} {rd : Addr} {H H' : Hp} (e : ∀ b o, H b = some o → b ≠ rd → H' b = some o) : Frame (rd :: fp) (rd :: fp) H H' := ⟨fun b o h n => e b o h fun z => n (by rw [z]; exact List.mem_cons_self), fun _ h => .inl h⟩
theorem Frame.cons {fp fp' : List Addr} {rd : Addr} {H H' : Hp} (f : Frame fp fp' H H') : Frame (rd :: fp) (rd :: fp') H H' := by
  refine ⟨fun b o h n => f.keep b o h fun z => n (List.mem_cons_of_mem _ z), fun b hb => ?_⟩
  rcases List.mem_cons.mp hb with z | z
  · exact .inl (by rw [z]; exact List.mem_cons_self)
  · exact (f.new b z).imp (fun y => List.mem_cons_of_mem _ y) id
theorem Frame.out {fp fp' : List Addr} {H H' : Hp} (f : Frame fp fp' H H') {b : Addr} {o : HO} (h : H b = some o) (n : b ∉ fp) : b ∉ fp' := fun z => by
  rcases f.new b z with y | y
  · exact n y
  · rw [h] at y; cases y
structure TxT (mg : Str → Option Value) : Prop where
  c0 : GV mg "BEGIN" (.int 0)
  c1 : GV mg "LEARN" (.int 1)
  c2 : GV mg "KEY" (.int 2)
  c3 : GV mg "NEXT" (.int 3)
  c4 : GV mg "TAKE" (.int 4)
  c5 : GV mg "BACK" (.int 5)
  c6 : GV mg "GUESS" (.int 6)
  c7 : GV mg "ROW" (.int 7)
  c8 : GV mg "TEXT" (.int 8)
  c9 : GV mg "LIST" (.int 9)
section
variable {P : Program} {w : World} {K : PySem.W.Frag} {mg : Str → Option Value} {base : Heap}
def spCall (K : PySem.W.Frag) (C CR T : Addr) : Sp := fun vs H Q _ => ∃ (a rd nb : Addr) (fp : List Addr) (s : Abs) (all : List Int) (p p' : Nat) (c : List (List Int)), vs = [.ref a, .ref rd] ∧ Desk C T H a fp s ∧ RdAt CR H rd nb p ∧ rd ∉ fp ∧ NumsAt K H nb all ∧ all.length ≤ 30000 ∧ CallAt all p c p' ∧
  ∀ (H' : Hp) (fp' : List Addr) (q : Addr), Desk C T H' a fp' (stepC s c).1 → RdAt CR H' rd nb p' → rd ∉ fp' → Frame (rd :: fp) (rd :: fp') H H' → (∀ b o, H b = some o → b ∉ rd :: fp → b ≠ q) → H' q = some (.lst (zv (stepC s c).2)) → Q (.ref q) H'
theorem scCall : FnScope ["desk", "reader", "call", "count"] ["desk", "reader"] (defScope sCall) := ⟨rfl, rfl, rfl, by decide +kernel, rfl, by decide +kernel, by decide +kernel⟩
theorem hit {k m : Int} {A B : Prop} (e : k = m) (h : A) : if decide (V.int k = V.int m) = true then A else B := by rw [e, decide_eq_true rfl]; exact h
theorem miss {k m : Int} {A B : Prop} (e : k ≠ m) (h : B) : if decide (V.int k = V.int m) = true then A else B := by
  rw [decide_eq_false (fun z => e (by injection z))]; exact h
theorem ok_call {f C CR T fN fW fB fL fP fX fT fK fG fR fS fI : Addr} {fd fdN fdW fdB fdL fdP fdX fdT fdK fdG fdR fdS fdI : FuncData} (F : Fun K "answer_call" "answer_call" sCall f fd) (D : TxD K mg C) (R : TxR K mg CR) (VC : TxT mg)
    (GN : FnOk P w K mg base CX0 1 fN fdN ["self"] (spRNum K CR)) (mN : Meth K CR "read_number" fN) (bN : Binds K fdN ["self"] []) (GW : FnOk P w K mg base CX0 2 fW fdW ["self"] (spRRow K CR)) (mW : Meth K CR "read_row" fW) (bW : Binds K fdW ["self"] [])
    (GB : FnOk P w K mg base CX0 4 fB fdB ["self", "signs"] (spBegin K C T)) (mB : Meth K C "begin" fB) (bB : Binds K fdB ["self", "signs"] []) (GL : FnOk P w K mg base CX0 3 fL fdL ["self", "count", "signs"] (spLearn K C T)) (mL : Meth K C "learn" fL) (bL : Binds K fdL ["self", "count", "signs"] [])
    (GP : FnOk P w K mg base CX0 7 fP fdP ["self", "key"] (spPress C T)) (mP : Meth K C "press_key" fP) (bP : Binds K fdP ["self", "key"] []) (GX : FnOk P w K mg base CX0 7 fX fdX ["self"] (spNext C T)) (mX : Meth K C "show_next" fX) (bX : Binds K fdX ["self"] [])
    (GT : FnOk P w K mg base CX0 8 fT fdT ["self"] (spTake C T)) (mT : Meth K C "take" fT) (bT : Binds K fdT ["self"] []) (GK : FnOk P w K mg base CX0 7 fK fdK ["self"] (spBack C T)) (mK : Meth K C "go_back" fK) (bK : Binds K fdK ["self"] [])
    (GG : FnOk P w K mg base CX0 8 fG fdG ["self"] (spGuess C T)) (mG : Meth K C "guess" fG) (bG : Binds K fdG ["self"] []) (GR : FnOk P w K mg base CX0 4 fR fdR ["self", "row"] (spRow K C T)) (mR : Meth K C "part_row" fR) (bR : Binds K fdR ["self", "row"] [])
    (GS : FnOk P w K mg base CX0 2 fS fdS ["self"] (spTText C T)) (mS : Meth K C "tell_text" fS) (bS : Binds K fdS ["self"] []) (GI : FnOk P w K mg base CX0 7 fI fdI ["self"] (spTList C T)) (mI : Meth K C "tell_list" fI) (bI : Binds K fdI ["self"] []) :
    FnOk P w K mg base CX0 9 f fd ["desk", "reader"] (spCall K C CR T) := by
  refine F.ok scCall (fun vs H Q E h => ?_) (fun cdv A outer s H vs Q E hr h => ?_)
  · obtain ⟨a, rd, nb, fp, s, all, p, p', c, rfl, _⟩ := h
    rfl
  · obtain ⟨a, rd, nb, fp, s, all, p, p', c, rfl, ⟨st, dk, r⟩, ⟨dxr, hrd⟩, nrd, hnum, h30, hcall, kk⟩ := h
    obtain ⟨dx, d, tl, pl, tas, rfl, X⟩ := dk.x
    have line : sizeLine = 16777216 := sizeLine_eq
    have r1 : Room 1 _ := hr.mono (by decide)
    have r2 : Room 2 _ := hr.mono (by decide)
    have r3 : Room 3 _ := hr.mono (by decide)
    have r4 : Room 4 _ := hr.mono (by decide)
    have r7 : Room 7 _ := hr.mono (by decide)
    refine ⟨_, pss_cons (ps_set (i := 2) scCall.nd rfl (Or.inl rfl) (pe_meth0 (pv 1) R.cl mN GN r1 bN .nil pass0))
      (pss_cons (ps_if (pt_cmpR op_eq (pv 2) (pe_gv VC.c0) (nomark _)) (pss_one (ps_ret (pe_lst (pa_cons (pe_meth (pv 0) D.cl mB GB r4 bB .nil pass0 (pa_cons (pe_meth0 (pv 1) R.cl mW GW r2 bW .nil pass0) pa_nil)) pa_nil)))) pss_nil)
      (pss_cons (ps_if (pt_cmpR op_eq (pv 2) (pe_gv VC.c1) (nomark _)) (pss_cons (ps_set (i := 3) scCall.nd rfl (Or.inl rfl) (pe_meth0 (pv 1) R.cl mN GN r1 bN .nil pass0)) (pss_one (ps_ret (pe_lst (pa_cons (pe_meth (pv 0) D.cl mL GL r3 bL .nil pass0 (pa_cons (pv 3) (pa_cons (pe_meth0 (pv 1) R.cl mW GW r2 bW .nil pass0) pa_nil))) pa_nil))))) pss_nil)
      (pss_cons (ps_if (pt_cmpR op_eq (pv 2) (pe_gv VC.c2) (nomark _)) (pss_one (ps_ret (pe_lst (pa_cons (pe_meth (pv 0) D.cl mP GP r7 bP .nil pass0 (pa_cons (pe_meth0 (pv 1) R.cl mN GN r1 bN .nil pass0) pa_nil)) pa_nil)))) pss_nil)
      (pss_cons (ps_if (pt_cmpR op_eq (pv 2) (pe_gv VC.c3) (nomark _)) (pss_one (ps_ret (pe_lst (pa_cons (pe_meth0 (pv 0) D.cl mX GX r7 bX .nil pass0) pa_nil)))) pss_nil)
      (pss_cons (ps_if (pt_cmpR op_eq (pv 2) (pe_gv VC.c4) (nomark _)) (pss_one (ps_ret (pe_lst (pa_cons (pe_meth0 (pv 0) D.cl mT GT hr bT .nil pass0) pa_nil)))) pss_nil)
      (pss_cons (ps_if (pt_cmpR op_eq (pv 2) (pe_gv VC.c5) (nomark _)) (pss_one (ps_ret (pe_lst (pa_cons (pe_meth0 (pv 0) D.cl mK GK r7 bK .nil pass0) pa_nil)))) pss_nil)
      (pss_cons (ps_if (pt_cmpR op_eq (pv 2) (pe_gv VC.c6) (nomark _)) (pss_one (ps_ret (pe_meth0 (pv 0) D.cl mG GG hr bG .nil pass0))) pss_nil)
      (pss_cons (ps_if (pt_cmpR op_eq (pv 2) (pe_gv VC.c7) (nomark _)) (pss_one (ps_ret (pe_lst (pa_cons (pe_meth (pv 0) D.cl mR GR r4 bR .nil pass0 (pa_cons (pe_meth0 (pv 1) R.cl mW GW r2 bW .nil pass0) pa_nil)) pa_nil)))) pss_nil)
      (pss_cons (ps_if (pt_cmpR op_eq (pv 2) (pe_gv VC.c8) (nomark _)) (pss_one (ps_ret (pe_meth0 (pv 0) D.cl mS GS r2 bS .nil pass0))) pss_nil)
      (pss_cons (ps_if (pt_cmpR op_eq (pv 2) (pe_gv VC.c9) (nomark _)) (pss_one (ps_ret (pe_meth0 (pv 0) D.cl mI GI r7 bI .nil pass0))) pss_nil)
      (pss_one ps_never))))))))))), ?_⟩
    have fin : ∀ (cl : Ks297.Call) (H2 H3 : Hp) (fp3 : List Addr) (dx2 : Addr), stepC s c = ((act s cl).1, [(act s cl).2.ret]) → Desk C T H3 a fp3 (act s cl).1 → Frame [a, d, tl, pl, T] fp3 H2 H3 → H2 rd = some (.ins CR dx2 (rdF nb p')) → Frame (rd :: [a, d, tl, pl, T]) (rd :: [a, d, tl, pl, T]) H H2 →
        ∀ l, H3 l = none → Q (.ref l) (upd H3 l (.lst [.int (act s cl).2.ret])) := fun cl H2 H3 fp3 dx2 e dk3 f3 hr2 f2 l hl => by
      have sl : Same H3 (upd H3 l (.lst [.int (act s cl).2.ret])) := same_new hl
      obtain ⟨st3, dk3', r3'⟩ := dk3
      obtain ⟨dx3, d3, tl3, pl3, tas3, rfl, X3⟩ := dk3'.x
      have f4 := (f2.trans f3.cons).trans (Frame.same (fp := rd :: [a, d3, tl3, pl3, T]) sl)
      refine kk _ [a, d3, tl3, pl3, T] l (by rw [e]; exact ⟨_, (X3.same sl).at, r3'⟩) ⟨dx2, sl _ _ (f3.keep _ _ hr2 nrd)⟩ (f3.out hr2 nrd) f4 (fun b o h n => ?_) (by rw [upd_same, e] <;> rfl)
      exact ne_of_none (f3.keep _ _ (f2.keep b o h n) fun z => n (List.mem_cons_of_mem _ z)) hl
    have finL : ∀ (cl : Ks297.Call) (H2 H3 : Hp) (dx2 l : Addr), stepC s c = Ks297Neutral.sa (act s cl) → Desk C T H3 a [a, d, tl, pl, T] (act s cl).1 → Frame [a, d, tl, pl, T] [a, d, tl, pl, T] H2 H3 → H2 rd = some (.ins CR dx2 (rdF nb p')) → Frame (rd :: [a, d, tl, pl, T]) (rd :: [a, d, tl, pl, T]) H H2 → H2 l = none →
        H3 l = some (.lst (.int (act s cl).2.ret :: wv (act s cl).2.out)) → Q (.ref l) H3 := fun cl H2 H3 dx2 l e dk3 f3 hr2 f2 hl hl3 => by
      refine kk H3 [a, d, tl, pl, T] l (by rw [e]; exact dk3) ⟨dx2, f3.keep _ _ hr2 nrd⟩ nrd (f2.trans f3.cons) (fun b o h n => ?_) ?_
      · exact ne_of_none (f2.keep b o h n) hl
      · rw [hl3, e]
        unfold Ks297Neutral.sa
        show _ = some (HO.lst (V.int _ :: zv (Ks297Neutral.ints _)))
        rw [zv_ints]
    have moved : ∀ {H1 : Hp}, (∀ b o, H b = some o → b ≠ rd → H1 b = some o) → DeskX C T H1 a dx d tl pl tas st ∧ NumsAt K H1 nb all ∧ Frame (rd :: [a, d, tl, pl, T]) (rd :: [a, d, tl, pl, T]) H H1 := fun {H1} e1 =>
      ⟨X.but hrd nrd e1, hnum.keep fun o u z => e1 _ _ z (ne_of z hrd fun y => nomatch y), Frame.rd e1⟩
    cases hcall with
    | begin n bs h0 h1 hbs hlen hby hle =>
      refine ⟨_, rfl, rd, dxr, _, rfl, hrd, rfl, rd, nb, p, all, _, rfl, ⟨dxr, hrd⟩, hnum.seq, h0, fun H1 ⟨dx1, hr1⟩ e1 _ => ?_⟩
      obtain ⟨X1, num1, _⟩ := moved e1
      refine ⟨_, rfl, rfl, _, rfl, hit rfl ?_⟩
      refine ⟨_, rfl, a, dx, _, rfl, X1.ins, rfl, _, rfl, rd, dx1, _, rfl, hr1, rfl, rd, nb, p + 1, n, all, rfl, ⟨dx1, hr1⟩, num1.seq, h1, (by omega), fun H2 q ⟨dx2, hr2⟩ e2 hq hq2 => ?_⟩
      obtain ⟨X2, num2, f2⟩ := moved (H1 := H2) fun b o z m => e2 _ _ (e1 _ _ z m) m
      have eb : zv ((all.drop (p + 1 + 1)).take n) = wv (Ks297Neutral.nats bs) := by
        rw [← zv_nats hby, hbs]
      rw [eb] at hq2
      have hl : (Ks297Neutral.nats bs).length = n := by unfold Ks297Neutral.nats; rw [List.length_map, hlen]
      have ep : ((p + 1 + 1 + n : Nat) : Int) = ((p + 2 + n : Nat) : Int) := by omega
      rw [ep] at hr2
      refine ⟨a, q, _, s, Ks297Neutral.nats bs, rfl, SqL.of hq2, (by omega), ⟨st, X2.at, r⟩, fun H3 fp3 dk3 f3 => ⟨(by show 1 ≤ sizeLine; rw [line]; decide), fun l hl => ?_⟩⟩
      exact fin _ H2 H3 fp3 dx2 (sa_one (out_begin _ _)) dk3 f3 hr2 f2 l hl
    | learn x n bs h0 h1 h2 hbs hlen hby hx0 hx1 hle =>
      refine ⟨_, rfl, rd, dxr, _, rfl, hrd, rfl, rd, nb, p, all, _, rfl, ⟨dxr, hrd⟩, hnum.seq, h0, fun H1 ⟨dx1, hr1⟩ e1 _ => ?_⟩
      obtain ⟨X1, num1, _⟩ := moved e1
      refine ⟨_, rfl, rfl, _, rfl, miss (by decide) ⟨_, rfl, rfl, _, rfl, hit rfl ?_⟩⟩
      refine ⟨_, rfl, rd, dx1, _, rfl, hr1, rfl, rd, nb, p + 1, all, _, rfl, ⟨dx1, hr1⟩, num1.seq, h1, fun H2 ⟨dx2, hr2⟩ e2 _ => ?_⟩
      have e12 : ∀ b o, H b = some o → b ≠ rd → H2 b = some o := fun b o z m => e2 _ _ (e1 _ _ z m) m
      obtain ⟨X2, num2, _⟩ := moved e12
      refine ⟨_, rfl, a, dx, _, rfl, X2.ins, rfl, _, rfl, _, rfl, rd, dx2, _, rfl, hr2, rfl, rd, nb, p + 1 + 1, n, all, rfl, ⟨dx2, hr2⟩, num2.seq, h2, (by omega), fun H3 q ⟨dx3, hr3⟩ e3 hq hq3 => ?_⟩
      obtain ⟨X3, num3, f3⟩ := moved (H1 := H3) fun b o z m => e3 _ _ (e12 _ _ z m) m
      have eb : zv ((all.drop (p + 1 + 1 + 1)).take n) = wv (Ks297Neutral.nats bs) := by
        rw [← zv_nats hby, hbs]
      rw [eb] at hq3
      have ep : ((p + 1 + 1 + 1 + n : Nat) : Int) = ((p + 3 + n : Nat) : Int) := by omega
      rw [ep] at hr3
      have ex : x = ((x.toNat : Nat) : Int) := (Int.toNat_of_nonneg hx0).symm
      refine ⟨a, q, _, s, x.toNat, Ks297Neutral.nats bs, (by rw [Int.toNat_of_nonneg hx0] <;> rfl), SqL.of hq3, ⟨st, X3.at, r⟩, fun H4 fp4 dk4 f4 => ⟨(by show 1 ≤ sizeLine; rw [line]; decide), fun l hl => ?_⟩⟩
      exact fin _ H3 H4 fp4 dx3 (sa_one (out_learn _ _ _)) dk4 f4 hr3 f3 l hl
    | key x h0 h1 hx0 hx1 hle =>
      refine ⟨_, rfl, rd, dxr, _, rfl, hrd, rfl, rd, nb, p, all, _, rfl, ⟨dxr, hrd⟩, hnum.seq, h0, fun H1 ⟨dx1, hr1⟩ e1 _ => ?_⟩
      obtain ⟨X1, num1, _⟩ := moved e1
      refine ⟨_, rfl, rfl, _, rfl, miss (by decide) ⟨_, rfl, rfl, _, rfl, miss (by decide) ⟨_, rfl, rfl, _, rfl, hit rfl ?_⟩⟩⟩
      refine ⟨_, rfl, a, dx, _, rfl, X1.ins, rfl, _, rfl, rd, dx1, _, rfl, hr1, rfl, rd, nb, p + 1, all, _, rfl, ⟨dx1, hr1⟩, num1.seq, h1, fun H2 ⟨dx2, hr2⟩ e2 _ => ?_⟩
      obtain ⟨X2, num2, f2⟩ := moved (H1 := H2) fun b o z m => e2 _ _ (e1 _ _ z m) m
      have ex : x = ((x.toNat : Nat) : Int) := (Int.toNat_of_nonneg hx0).symm
      refine ⟨a, _, s, x.toNat, (by rw [Int.toNat_of_nonneg hx0] <;> rfl), ⟨st, X2.at, r⟩, fun H3 fp3 dk3 f3 => ⟨(by show 1 ≤ sizeLine; rw [line]; decide), fun l hl => ?_⟩⟩
      exact fin _ H2 H3 fp3 dx2 (sa_one (out_key _ _)) dk3 f3 hr2 f2 l hl
    | row n bs h0 h1 hbs hlen hby hle =>
      refine ⟨_, rfl, rd, dxr, _, rfl, hrd, rfl, rd, nb, p, all, _, rfl, ⟨dxr, hrd⟩, hnum.seq, h0, fun H1 ⟨dx1, hr1⟩ e1 _ => ?_⟩
      obtain ⟨X1, num1, _⟩ := moved e1
      refine ⟨_, rfl, rfl, _, rfl, miss (by decide) ⟨_, rfl, rfl, _, rfl, miss (by decide) ⟨_, rfl, rfl, _, rfl, miss (by decide) ⟨_, rfl, rfl, _, rfl, miss (by decide) ⟨_, rfl, rfl, _, rfl, miss (by decide) ⟨_, rfl, rfl, _, rfl, miss (by decide) ⟨_, rfl, rfl, _, rfl, miss (by decide) ⟨_, rfl, rfl, _, rfl, hit rfl ?_⟩⟩⟩⟩⟩⟩⟩⟩
      refine ⟨_, rfl, a, dx, _, rfl, X1.ins, rfl, _, rfl, rd, dx1, _, rfl, hr1, rfl, rd, nb, p + 1, n, all, rfl, ⟨dx1, hr1⟩, num1.seq, h1, (by omega), fun H2 q ⟨dx2, hr2⟩ e2 hq hq2 => ?_⟩
      obtain ⟨X2, num2, f2⟩ := moved (H1 := H2) fun b o z m => e2 _ _ (e1 _ _ z m) m
      have eb : zv ((all.drop (p + 1 + 1)).take n) = wv (Ks297Neutral.nats bs) := by
        rw [← zv_nats hby, hbs]
      rw [eb] at hq2
      have ep : ((p + 1 + 1 + n : Nat) : Int) = ((p + 2 + n : Nat) : Int) := by omega
      rw [ep] at hr2
      refine ⟨a, q, _, s, Ks297Neutral.nats bs, rfl, SqL.of hq2, ⟨st, X2.at, r⟩, fun H3 fp3 dk3 f3 => ⟨(by show 1 ≤ sizeLine; rw [line]; decide), fun l hl => ?_⟩⟩
      exact fin _ H2 H3 fp3 dx2 (sa_one (out_row _ _)) dk3 f3 hr2 f2 l hl
    | plain k hk h0 hle =>
      refine ⟨_, rfl, rd, dxr, _, rfl, hrd, rfl, rd, nb, p, all, _, rfl, ⟨dxr, hrd⟩, hnum.seq, h0, fun H1 ⟨dx1, hr1⟩ e1 _ => ?_⟩
      obtain ⟨X1, num1, f1⟩ := moved e1
      rcases hk with rfl | rfl | rfl | rfl | rfl | rfl
      · refine ⟨_, rfl, rfl, _, rfl, miss (by decide) ⟨_, rfl, rfl, _, rfl, miss (by decide) ⟨_, rfl, rfl, _, rfl, miss (by decide) ⟨_, rfl, rfl, _, rfl, hit rfl ?_⟩⟩⟩⟩
        refine ⟨_, rfl, a, dx, _, rfl, X1.ins, rfl, a, _, s, rfl, ⟨st, X1.at, r⟩, fun H3 fp3 dk3 f3 => ⟨(by show 1 ≤ sizeLine; rw [line]; decide), fun l hl => ?_⟩⟩
        exact fin _ H1 H3 fp3 dx1 (sa_one (out_next _)) dk3 f3 hr1 f1 l hl
      · refine ⟨_, rfl, rfl, _, rfl, miss (by decide) ⟨_, rfl, rfl, _, rfl, miss (by decide) ⟨_, rfl, rfl, _, rfl, miss (by decide) ⟨_, rfl, rfl, _, rfl, miss (by decide) ⟨_, rfl, rfl, _, rfl, hit rfl ?_⟩⟩⟩⟩⟩
        refine ⟨_, rfl, a, dx, _, rfl, X1.ins, rfl, a, _, s, rfl, ⟨st, X1.at, r⟩, fun H3 fp3 dk3 f3 => ⟨(by show 1 ≤ sizeLine; rw [line]; decide), fun l hl => ?_⟩⟩
        exact fin _ H1 H3 fp3 dx1 (sa_one (out_take _)) dk3 f3 hr1 f1 l hl
      · refine ⟨_, rfl, rfl, _, rfl, miss (by decide) ⟨_, rfl, rfl, _, rfl, miss (by decide) ⟨_, rfl, rfl, _, rfl, miss (by decide) ⟨_, rfl, rfl, _, rfl, miss (by decide) ⟨_, rfl, rfl, _, rfl, miss (by decide) ⟨_, rfl, rfl, _, rfl, hit rfl ?_⟩⟩⟩⟩⟩⟩
        refine ⟨_, rfl, a, dx, _, rfl, X1.ins, rfl, a, _, s, rfl, ⟨st, X1.at, r⟩, fun H3 fp3 dk3 f3 => ⟨(by show 1 ≤ sizeLine; rw [line]; decide), fun l hl => ?_⟩⟩
        exact fin _ H1 H3 fp3 dx1 (sa_one (out_back _)) dk3 f3 hr1 f1 l hl
      · refine ⟨_, rfl, rfl, _, rfl, miss (by decide) ⟨_, rfl, rfl, _, rfl, miss (by decide) ⟨_, rfl, rfl, _, rfl, miss (by decide) ⟨_, rfl, rfl, _, rfl, miss (by decide) ⟨_, rfl, rfl, _, rfl, miss (by decide) ⟨_, rfl, rfl, _, rfl, miss (by decide) ⟨_, rfl, rfl, _, rfl, hit rfl ?_⟩⟩⟩⟩⟩⟩⟩
        refine ⟨_, rfl, a, dx, _, rfl, X1.ins, rfl, a, _, s, rfl, ⟨st, X1.at, r⟩, fun H3 l dk3 f3 hl hl3 => ?_⟩
        exact finL _ H1 H3 dx1 l rfl dk3 f3 hr1 f1 hl hl3
      · refine ⟨_, rfl, rfl, _, rfl, miss (by decide) ⟨_, rfl, rfl, _, rfl, miss (by decide) ⟨_, rfl, rfl, _, rfl, miss (by decide) ⟨_, rfl, rfl, _, rfl, miss (by decide) ⟨_, rfl, rfl, _, rfl, miss (by decide) ⟨_, rfl, rfl, _, rfl, miss (by decide) ⟨_, rfl, rfl, _, rfl, miss (by decide) ⟨_, rfl, rfl, _, rfl, miss (by decide) ⟨_, rfl, rfl, _, rfl, hit rfl ?_⟩⟩⟩⟩⟩⟩⟩⟩⟩
        refine ⟨_, rfl, a, dx, _, rfl, X1.ins, rfl, a, _, s, rfl, ⟨st, X1.at, r⟩, fun H3 l dk3 f3 hl hl3 => ?_⟩
        exact finL _ H1 H3 dx1 l rfl dk3 f3 hr1 f1 hl hl3
      · refine ⟨_, rfl, rfl, _, rfl, miss (by decide) ⟨_, rfl, rfl, _, rfl, miss (by decide) ⟨_, rfl, rfl, _, rfl, miss (by decide) ⟨_, rfl, rfl, _, rfl, miss (by decide) ⟨_, rfl, rfl, _, rfl, miss (by decide) ⟨_, rfl, rfl, _, rfl, miss (by decide) ⟨_, rfl, rfl, _, rfl, miss (by decide) ⟨_, rfl, rfl, _, rfl, miss (by decide) ⟨_, rfl, rfl, _, rfl, miss (by decide) ⟨_, rfl, rfl, _, rfl, hit rfl ?_⟩⟩⟩⟩⟩⟩⟩⟩⟩⟩
        refine ⟨_, rfl, a, dx, _, rfl, X1.ins, rfl, a, _, s, rfl, ⟨st, X1.at, r⟩, fun H3 l dk3 f3 hl hl3 => ?_⟩
        exact finL _ H1 H3 dx1 l rfl dk3 f3 hr1 f1 hl hl3
end
end Wk
namespace Wk
open PySem PySem.Spec PyProof.Rows L2
open Ks297 (Abs act)
theorem DeskX.butL {C T : Addr} {H : Hp} {a dx d tl pl : Addr} {tas : List Addr} {st : DSt} (X : DeskX C T H a dx d tl pl tas st) {q : Addr} {ys : List V} {o : HO} (hq : H q = some (.lst ys)) (n : q ∉ [a, d, tl, pl, T]) : DeskX C T (L2.upd H q o) a dx d tl pl tas st := by
  have nt : tl ≠ q := fun z => n (by rw [← z]; simp)
  have np : pl ≠ q := fun z => n (by rw [← z]; simp)
  refine ⟨?_, ?_, by rw [upd_ne nt]; exact X.tx, X.words.mono (fun b v z => by rw [upd_ne (ne_of z hq fun y => nomatch y)]; exact z), by rw [upd_ne np]; exact X.ks, X.ne, X.tab.keep hq (fun q z => nomatch z) fun q z => nomatch z⟩
  · rw [upd_ne (ne_of X.ins hq fun y => nomatch y)]; exact X.ins
  · rw [upd_ne (ne_of X.dict hq fun y => nomatch y)]; exact X.dict
section
variable {P : Program} {w : World} {K : PySem.W.Frag} {mg : Str → Option Value} {base : Heap}
def spAns (K : PySem.W.Frag) (T : Addr) : Sp := fun vs H Q _ => ∃ (nb : Addr) (all : List Int), vs = [.ref nb] ∧ NumsAt K H nb all ∧ all.length ≤ 30000 ∧ PyKs297.answers_asked all = true ∧ Tab T H ∧ ∀ (H' : Hp) (p : Addr), H' p = some (.lst (zv (PyKs297.answers all))) → Q (.ref p) H'
theorem scAns : FnScope ["calls", "desk", "reader", "told", "answer"] ["calls"] (defScope sAnswers) := ⟨rfl, rfl, rfl, by decide +kernel, rfl, by decide +kernel, by decide +kernel⟩
structure LoopAt (K : PySem.W.Frag) (C CR T : Addr) (nb x0 x1 q : Addr) (all : List Int) (H : Hp) (p : Nat) (out : List Int) : Prop where
  ex : ∃ (cs : List (List (List Int))) (s : Abs) (fp : List Addr), Desk C T H x0 fp s ∧ x1 ∉ fp ∧ Run all p cs s out ∧ q ∉ x1 :: fp
  rd : RdAt CR H x1 nb p
  num : NumsAt K H nb all
  told : H q = some (.lst (zv out))
theorem ok_ans {f C CR T fI fJ fM fC : Addr} {fd fdI fdJ fdM fdC : FuncData} (F : Fun K "answers" "answers" sAnswers f fd) (W : TxW K mg) (D : TxD K mg C) (R : TxR K mg CR) (MD : Mk K C fI) (GI : FnOk P w K mg base CX0 1 fI fdI ["self"] (spInit C T)) (gD : mg "Desk" = some (.ref C)) (bI : Binds K fdI ["self"] [])
    (MR : Mk K CR fJ) (GJ : FnOk P w K mg base CX0 1 fJ fdJ ["self", "numbers"] (spRInit CR)) (gR : mg "Reader" = some (.ref CR)) (bJ : Binds K fdJ ["self", "numbers"] []) (GM : FnOk P w K mg base CX0 1 fM fdM ["self"] (spRMore K CR)) (mM : Meth K CR "has_more" fM) (bM : Binds K fdM ["self"] [])
    (GC : FnOk P w K mg base CX0 9 fC fdC ["desk", "reader"] (spCall K C CR T)) (kC : PySem.W.keepIn K (.ref fC) = true) (mC : mg "answer_call" = some (.ref fC)) (bC : Binds K fdC ["desk", "reader"] []) : FnOk P w K mg base CX0 10 f fd ["calls"] (spAns K T) := by
  refine F.ok scAns (fun vs H Q E h => ?_) (fun cdv A outer s H vs Q E hr h => ?_)
  · obtain ⟨nb, all, rfl, _⟩ := h
    rfl
  · obtain ⟨nb, all, rfl, hnum, h30, hask, tab, kk⟩ := h
    have line : sizeLine = 16777216 := sizeLine_eq
    have r1 : Room 1 _ := hr.mono (by decide)
    have r2 : Room 2 _ := hr.mono (by decide)
    obtain ⟨⟨cs0, run0⟩, hbig⟩ := Run.start hask
    refine ⟨_, pss_cons (ps_set (i := 1) scAns.nd rfl (Or.inl rfl) (pe_make0 MD GI r2 rfl gD bI .nil pass0))
      (pss_cons (ps_set (i := 2) scAns.nd rfl (Or.inl rfl) (pe_make MR GJ r2 rfl gR bJ .nil pass0 (pa_cons (pv 0) pa_nil)))
      (pss_cons (ps_set (i := 3) scAns.nd rfl (Or.inl rfl) (pe_lst pa_nil))
      (pss_cons (ps_while PassesOwn.never (pt_val (pe_meth0 (pv 2) R.cl mM GM r1 bM .nil pass0))
        (pss_cons (ps_set (i := 4) scAns.nd rfl (Or.inl rfl) (pe_call GC hr rfl mC kC bC .nil pass0 (pa_cons (pv 1) (pa_cons (pv 2) pa_nil))))
        (pss_cons (ps_expr (pe_bm PySem.F.plainAttrs_list PySem.F.slot_list_append PySem.F.type_list_append mt_append (pv 3) (pa_cons (pe_callB call_len_seq (by rfl) W.len PySem.boot_len (pa_cons (pv 4) pa_nil)) pa_nil)))
        (pss_one (ps_expr (pe_bm PySem.F.plainAttrs_list PySem.F.slot_list_extend PySem.F.type_list_extend mt_extend (pv 3) (pa_cons (pv 4) pa_nil)))))))
      (pss_one (ps_ret (pv 3)))))), ?_⟩
    intro x0 d0 n0 m0 ne0
    have sN : Same H (upd (upd H d0 (.own x0)) x0 (.ins C d0 [])) := same_upd (same_new m0) n0
    refine ⟨x0, d0, rfl, upd_same, tab.same sN, fun H1 fp dk1 keep1 new1 => ⟨rfl, ?_⟩⟩
    have s1 : Same H H1 := Same.made n0 m0 keep1
    refine ⟨_, rfl, ?_⟩
    intro x1 d1 n1 m1 ne1
    refine ⟨x1, d1, nb, rfl, upd_same, fun H2 rd2 keep2 => ⟨rfl, ?_⟩⟩
    have s2 : Same H1 H2 := Same.made n1 m1 keep2
    have nx1 : x1 ∉ fp := fun z => by
      obtain ⟨o, ho, _⟩ := dk1.held x1 z
      rw [ho] at n1; cases n1
    refine ⟨Nat.zero_le _, fun q hq => ?_⟩
    have s3 : Same H2 (upd H2 q (.lst [])) := same_new hq
    have L0 : LoopAt K C CR T nb x0 x1 q all (upd H2 q (.lst [])) 0 [] := by
      obtain ⟨st, dk, r⟩ := dk1
      obtain ⟨dx, d, tl, pl, tas, rfl, X⟩ := dk.x
      have X3 := X.same (s2.trans s3)
      obtain ⟨dxr, hr2⟩ := rd2
      refine ⟨⟨cs0, _, _, ⟨st, X3.at, r⟩, nx1, run0, fun z => ?_⟩, ⟨dxr, s3 _ _ hr2⟩, hnum.keep (fun o u z => s3 _ _ (s2 _ _ (s1 _ _ z))), upd_same⟩
      rcases List.mem_cons.mp z with y | y
      · rw [y, hr2] at hq; cases hq
      · obtain ⟨o, ho, _⟩ := (X.same s2).held q y
        rw [ho] at hq; cases hq
    generalize upd H2 q (.lst []) = H3 at L0
    refine ⟨fun m σ H' => ∃ (p : Nat) (out : List Int) (u : Option L2.V), σ = [some (.ref nb), some (.ref x0), some (.ref x1), some (.ref q), u] ∧ LoopAt K C CR T nb x0 x1 q all H' p out ∧ m = all.length - p, ⟨all.length - 0, 0, [], none, rfl, L0, rfl⟩, ?_⟩
    rintro m σ H' ⟨p, out, u, rfl, LA, rfl⟩
    obtain ⟨cs, s', fp', dk', nrd, run, nq⟩ := LA.ex
    obtain ⟨dxr, hrd⟩ := LA.rd
    refine ⟨_, rfl, x1, dxr, _, rfl, hrd, rfl, x1, nb, p, all, rfl, ⟨dxr, hrd⟩, LA.num.seq, _, rfl, ite2 (fun h1 => ?_) fun h1 => ?_⟩
    · have hp : p < all.length := of_decide_eq_true h1
      obtain ⟨c, cs', p', hcall, hlt, run'⟩ := run.turn hp
      refine ⟨fun σ' H' => ∃ (out : List Int) (u : Option L2.V), σ' = [some (.ref nb), some (.ref x0), some (.ref x1), some (.ref q), u] ∧ LoopAt K C CR T nb x0 x1 q all H' p' out, fun σ' H4 ⟨out', u', e, L'⟩ => ⟨all.length - p', by omega, p', out', u', e, L', rfl⟩, ?_⟩
      refine ⟨_, rfl, _, rfl, x0, x1, nb, fp', s', all, p, p', c, rfl, dk', ⟨dxr, hrd⟩, nrd, LA.num, h30, hcall, fun H4 fp4 l dk4 rd4 nrd4 f4 hne hl4 => ?_⟩
      have hq4 := f4.keep _ _ LA.told nq
      have nql : q ≠ l := hne _ _ LA.told nq
      have nq4 := f4.out LA.told nq
      have num4 : NumsAt K H4 nb all := LA.num.keep fun o u z => f4.keep _ _ z fun y => by
        rcases List.mem_cons.mp y with y | y
        · rw [y, hrd] at z; cases z
        · obtain ⟨o', ho', no'⟩ := dk'.held _ y
          rw [ho'] at z
          exact no' _ _ (Option.some.inj z)
      have tot := congrArg List.length run'.ans
      rw [List.length_append, List.length_append, List.length_cons] at tot
      refine ⟨_, rfl, .inl ⟨rfl, _, SqL.of hq4⟩, _, rfl, l, _, rfl, .inl (SqL.of hl4), q, _, _, rfl, rfl, hq4, (by rw [zv_len]; omega), ?_⟩
      have hq5 : (upd H4 q (.lst (zv out ++ [.int ((zv (stepC s' c).2).length : Nat)]))) q = some (.lst (zv out ++ [.int ((zv (stepC s' c).2).length : Nat)])) := upd_same
      have hl5 : (upd H4 q (.lst (zv out ++ [.int ((zv (stepC s' c).2).length : Nat)]))) l = some (.lst (zv (stepC s' c).2)) := by rw [upd_ne (Ne.symm nql)]; exact hl4
      refine ⟨_, rfl, .inl ⟨rfl, _, SqL.of hq5⟩, _, rfl, q, l, _, _, rfl, rfl, hq5, hl5, (by rw [List.length_append, zv_len, zv_len]; simp only [List.length_cons, List.length_nil]; omega), ?_⟩
      obtain ⟨st4, dk4', r4⟩ := dk4
      obtain ⟨dx4, d4, tl4, pl4, tas4, rfl, X4⟩ := dk4'.x
      have nq4' : q ∉ [x0, d4, tl4, pl4, T] := fun z => nq4 (List.mem_cons_of_mem _ z)
      have X5 := X4.butL (o := .lst (zv out ++ [.int ((zv (stepC s' c).2).length : Nat)])) hq4 nq4'
      have X6 := X5.butL (o := .lst (zv out ++ [.int ((zv (stepC s' c).2).length : Nat)] ++ zv (stepC s' c).2)) hq5 nq4'
      obtain ⟨dx7, hr7⟩ := rd4
      refine ⟨out ++ (((stepC s' c).2.length : Int) :: (stepC s' c).2), _, rfl, ⟨cs', _, _, ⟨_, X6.at, r4⟩, nrd4, run', nq4⟩, ⟨dx7, ?_⟩, num4.keep (fun o u z => ?_), ?_⟩
      · rw [upd_ne (ne_of hr7 hq4 fun y => nomatch y), upd_ne (ne_of hr7 hq4 fun y => nomatch y)]; exact hr7
      · rw [upd_ne (ne_of z hq4 fun y => nomatch y), upd_ne (ne_of z hq4 fun y => nomatch y)]; exact z
      · rw [upd_same]
        unfold zv
        rw [List.map_append, List.map_cons, List.append_assoc, List.length_map]
        rfl
    · have hp : all.length ≤ p := by
        have : ¬ p < all.length := fun z => h1 (decide_eq_true z)
        omega
      have := run.done hp
      refine ⟨_, rfl, kk H' q ?_⟩
      rw [this]
      exact LA.told
end
end Wk
namespace L2
open PySem PySem.Spec PyProof.Rows
open PySem.W (WData Codec OpenSpec Well WellAll ReadsW ReadsAllW)
theorem walk_specT {r : OpenSpec} {k : Nat} {q : Program} {loose : List Str} {XP : (Str → Option Value) → Heap → Prop} {YP : World → Heap → Prop} {d : DefRec} {K : Params → PySem.W.Frag} {ps : List Str} {sp : PySem.W.Frag → Addr → Sp} {x : Str}
    (hwell : r.wellSaid = true) (hlen : r.args.length = ps.length) (hr : Room k callerA) (hY : ∀ (w : World) (h : Heap), YP w h → (K w.params).In h) (hrec : ((recsOf q).find? (fun e => e.name == x)).isSome = true)
    (F : ∀ (w : World) (mg : Str → Option Value) (fa : Addr) (h : Heap), YP w h → (K w.params).In h → h.Ns mainGlobals mg → mg d.name = some (.ref fa) →
      ∃ (fd : FuncData) (c0 T : Addr), PySem.W.tabIn (K w.params) x = some (c0, T) ∧ PySem.W.noTabs (K w.params) = true ∧ (∀ (s : Shared) (us : List Value), us.length = ps.length → BindsTo s fd ⟨us, []⟩ (ps.zip us)) ∧
        ∀ base : Heap, (K w.params).In base → base.Ns mainGlobals mg → base.BuiltinsAt mg T → FnOk r.prog w (K w.params) mg base CX0 k fa fd ps (sp (K w.params) T))
    (hsp : ∀ (K : PySem.W.Frag) (T : Addr) (H : Hp) (xs : List V) (a : Codec.denoteAll r.args), OnlyT T H → Codec.withinAll r.args a = true → Codec.app r.args r.asked a = true → DwAll K H xs (Codec.encAll r.args a) →
      sp K T xs H (fun v H' => Dw K H' v (r.ret.enc (Codec.app r.args r.f a))) fun _ _ _ => False) :
    PySem.W.WalkOS q loose XP YP r d [] (fun f vs => PySem.call f vs) := by
  intro w s_0 s₁ mg mb G Y fa o pm cd doc dV kV ho hd hcd hD hmg hg args vals as hpre hlay hrd hwl hlo
  obtain ⟨a, e1, e2⟩ := PySem.W.os_pre_some hpre
  obtain ⟨e3, hwi⟩ := Codec.encAll_of_decAll r.args args a e1
  subst e3
  have KX := hY w _ Y
  obtain ⟨fd, c0, T, ht, hTK, hb, hF⟩ := F w mg fa _ Y KX G.T.g hmg
  obtain ⟨dI, hrec⟩ := Option.isSome_iff_exists.mp hrec
  obtain ⟨hC, hT⟩ := PySem.W.tab_of G.T KX hrec ht
  have hBm : s₁.heap.BuiltinsAt mg T := by
    obtain ⟨bm, ob, b1, b2, b3, b4, b5, b6⟩ := G.T.bmain
    refine ⟨bm, ob, b1, b2, fun z => ?_, fun z => ?_, b3, b4, b5, b6⟩
    · obtain ⟨og, es, ep, g1, g2, _⟩ := G.T.g
      rw [z, g1] at b3
      cases b3
      rw [g2] at b6; cases b6
    · rw [z, hT] at b3
      cases b3
      cases b6
  refine PySem.W.enter_call (codeAny_mono (spec_callT (R := []) (cl := classAt s_0.heap) (d0 := r.ret.enc (Codec.app r.args r.f a)) (CX := CX0) KX G.T.g G.T.b G.T.builtins G.T.nolimit hg hC hT hTK hwl (pl_encAll _ _) (layable_weight hlay) hr hBm hF hb (by rw [encAll_len]; exact hlen)
    (fun H xs hO hS => hsp _ T H xs a hO hwi e2 hS) fun H e s' z => z) fun r' s' hq => ?_)
  obtain ⟨u, as', rfl, h1, h2, h3, h4⟩ := hq
  exact ⟨.inl ⟨u, _, as', rfl, fun _ => rfl, h1, (OpenSpec.post_iff hwell hwi _ _).mpr rfl, fun z => Bool.noConfusion (show false = true from z)⟩, h2, h3, h4⟩
end L2
namespace Wk
open PySem PySem.Spec PyProof.Rows L2
structure GFn (K : PySem.W.Frag) (x : Str) (st : Stmt) (f : Addr) (fd : FuncData) : Prop where
  at_ : PySem.W.nsIn K mainGlobals x = some (some (.ref f))
  fn : Fun K x x st f fd
theorem gfn_mk {K : PySem.W.Frag} {x : Str} {st : Stmt} {f : Addr} {oc : Value} {od an : Option Addr} {osl : Array (Option Value)} {kV doc pm cdv ct : Value} (a : PySem.W.nsIn K mainGlobals x = some (some (.ref f))) (l : K.lookup f = some ⟨oc, od, .func (PySem.W.fnOf x x (defArgs st) (defBody st) (defScope st) .none kV doc pm an cdv ct), osl⟩)
    (c : PySem.W.codeIn K cdv x = true) (k : PySem.W.keepIn K (.ref f) = true) : GFn K x st f (PySem.W.fnOf x x (defArgs st) (defBody st) (defScope st) .none kV doc pm an cdv ct) := ⟨a, fun_mk l c k⟩
structure MFn (K : PySem.W.Frag) (C : Addr) (m qual : Str) (st : Stmt) (f : Addr) (fd : FuncData) : Prop where
  me : Meth K C m f
  fn : Fun K m qual st f fd
theorem mfn_mk {K : PySem.W.Frag} {C : Addr} {m qual : Str} {st : Stmt} {f : Addr} {oc : Value} {od an : Option Addr} {osl : Array (Option Value)} {kV doc pm cdv ct : Value} (a : PySem.W.findIn K (.ref C) m = some (some (.ref f))) (i : PySem.W.isFn K (.ref f) = true)
    (l : K.lookup f = some ⟨oc, od, .func (PySem.W.fnOf m qual (defArgs st) (defBody st) (defScope st) .none kV doc pm an cdv ct), osl⟩) (c : PySem.W.codeIn K cdv qual = true) (k : PySem.W.keepIn K (.ref f) = true) : MFn K C m qual st f (PySem.W.fnOf m qual (defArgs st) (defBody st) (defScope st) .none kV doc pm an cdv ct) := ⟨⟨a, i, k⟩, fun_mk l c k⟩
structure OFn (K : PySem.W.Frag) (f : Addr) (fd : FuncData) (c0 T : Addr) : Prop where
  at_ : PySem.W.nsIn K mainGlobals "in_order" = some (some (.ref f))
  fn : FunC K "in_order" "in_order" sOrder f fd c0 T
  tab : PySem.W.tabIn K "in_order" = some (c0, T)
theorem ofn_mk {K : PySem.W.Frag} {f c0 T : Addr} {oc : Value} {od an : Option Addr} {osl : Array (Option Value)} {kV doc pm ct : Value} {cdd : Option Addr} {vs : Array Value} {csl : Array (Option Value)} (a : PySem.W.nsIn K mainGlobals "in_order" = some (some (.ref f)))
    (l : K.lookup f = some ⟨oc, od, .func (PySem.W.fnOf "in_order" "in_order" (defArgs sOrder) (defBody sOrder) (defScope sOrder) .none kV doc pm an (.ref c0) ct), osl⟩) (c : PySem.W.codeIn K (.ref c0) "in_order" = true) (k : PySem.W.keepIn K (.ref f) = true) (lc : K.lookup c0 = some ⟨.type "code", cdd, .fields vs, csl⟩) (h11 : (vs[11]? : Option Value) = some (.ref T))
    (hk : PySem.W.codeHdIn [(c0, ⟨.type "code", cdd, .fields vs, csl⟩)] c0 T = true) :
    OFn K f (PySem.W.fnOf "in_order" "in_order" (defArgs sOrder) (defBody sOrder) (defScope sOrder) .none kV doc pm an (.ref c0) ct) c0 T := by
  refine ⟨a, ⟨⟨oc, od, kV, doc, pm, an, ct, osl, rfl, l, c⟩, k, ?_⟩, ?_⟩
  · unfold PySem.W.codeHdIn
    unfold PySem.W.codeHdIn at hk
    have e : List.lookup c0 [(c0, (⟨.type "code", cdd, .fields vs, csl⟩ : Obj))] = some ⟨.type "code", cdd, .fields vs, csl⟩ := by rw [List.lookup_cons, beq_self_eq_true]
    rw [e] at hk
    rw [lc]
    exact hk
  · unfold PySem.W.tabIn
    rw [a]
    simp only [l]
    simp only [lc, h11]
structure ClsK (K : PySem.W.Frag) (x : Str) (C : Addr) : Prop where
  at_ : PySem.W.nsIn K mainGlobals x = some (some (.ref C))
  cl : Cls K C
  makes : PySem.W.makesIn K C = true
  kc : PySem.W.keepIn K (.ref C) = true
theorem clsk_mk {K : PySem.W.Frag} {x : Str} {C : Addr} (a : PySem.W.nsIn K mainGlobals x = some (some (.ref C))) (pg : PySem.W.plainGet K C Str.empty = true) (hd : PySem.W.hasDictIn K C = true) (po : PySem.W.plainOver K C = true) (sa : PySem.W.findIn K (.ref C) "__setattr__" = some (some (.builtin "object.__setattr__")))
    (mk : PySem.W.makesIn K C = true) (kc : PySem.W.keepIn K (.ref C) = true) : ClsK K x C := ⟨a, ⟨pg, hd, po, sa⟩, mk, kc⟩
def IntK (K : PySem.W.Frag) (x : Str) (i : Int) : Prop := ∃ t, PySem.W.nsIn K mainGlobals x = some (some (.int i t))
theorem intk_mk {K : PySem.W.Frag} {x : Str} {i : Int} {t : Tok} (a : PySem.W.nsIn K mainGlobals x = some (some (.int i t))) : IntK K x i := ⟨t, a⟩
def intsV (us : List Value) : List (Option Int) := us.map fun u => match u with
  | .int i _ => some i
  | _ => none
theorem vals_of : ∀ {us : List Value} {ns : List Int}, intsV us = ns.map some → Vals (ns.map L2.V.int) us
  | [], [], _ => .nil
  | [], _ :: _, h => by simp [intsV] at h
  | _ :: _, [], h => by simp [intsV] at h
  | u :: us, n :: ns, h => by
    cases u with
    | int i t =>
      have h' : some i :: intsV us = some n :: ns.map some := h
      injection h' with h1 h2
      have e : i = n := Option.some.inj h1
      subst e
      exact .cons ⟨t, rfl⟩ (vals_of h2)
    | _ => simp [intsV] at h
structure KeysK (K : PySem.W.Frag) (p : Addr) : Prop where
  at_ : PySem.W.nsIn K mainGlobals "LETTER_KEYS" = some (some (.ref p))
  sq : ∀ H, SqT K H p (wv letterKeys)
theorem keysk_mk {K : PySem.W.Frag} {p : Addr} {od : Option Addr} {its : Array Value} {n : Nat} {osl : Array (Option Value)} (a : PySem.W.nsIn K mainGlobals "LETTER_KEYS" = some (some (.ref p))) (l : K.lookup p = some ⟨.type "tuple", od, .seq its n, osl⟩)
    (z : its.size ≤ 100) (v : intsV its.toList = ([2, 2, 2, 3, 3, 3, 4, 4, 4, 5, 5, 5, 6, 6, 6, 7, 7, 7, 7, 8, 8, 8, 9, 9, 9, 9] : List Int).map some) : KeysK K p :=
  ⟨a, fun H => .inr ⟨_, its, n, l, rfl, rfl, by rw [sizeLine_eq]; omega, vals_of (ns := [2, 2, 2, 3, 3, 3, 4, 4, 4, 5, 5, 5, 6, 6, 6, 7, 7, 7, 7, 8, 8, 8, 9, 9, 9, 9]) v⟩⟩
structure WayK (K : PySem.W.Frag) (p q : Addr) : Prop where
  at_ : PySem.W.nsIn K mainGlobals "WAY_OF_NO_WORDS" = some (some (.ref p))
  sq : ∀ H, SqT K H p [.int (-1), .int 0, .ref q] ∧ SqT K H q []
  nd : ∃ o : Obj, K.lookup q = some o ∧ o.dict = none
theorem wayk_mk {K : PySem.W.Frag} {p q : Addr} {od : Option Addr} {t1 t2 : Tok} {n n2 : Nat} {osl osl2 : Array (Option Value)} (a : PySem.W.nsIn K mainGlobals "WAY_OF_NO_WORDS" = some (some (.ref p))) (l : K.lookup p = some ⟨.type "tuple", od, .seq #[.int (-1) t1, .int 0 t2, .ref q] n, osl⟩)
    (l2 : K.lookup q = some ⟨.type "tuple", none, .seq #[] n2, osl2⟩) : WayK K p q :=
  ⟨a, fun H => ⟨.inr ⟨_, _, n, l, rfl, rfl, by rw [sizeLine_eq]; show 3 ≤ 16777216; decide, .cons ⟨_, rfl⟩ (.cons ⟨_, rfl⟩ (.cons rfl .nil))⟩, .inr ⟨_, _, n2, l2, rfl, rfl, by rw [sizeLine_eq]; show 0 ≤ 16777216; decide, .nil⟩⟩, ⟨_, l2, rfl⟩⟩
end Wk
namespace Wk
open PySem PySem.Spec PyProof.Rows L2
theorem all_mk {P : Program} {w : World} {K : PySem.W.Frag} {h : Heap} {mg : Str → Option Value} {fg0 fg1 fg2 fg3 fg4 fg5 fg6 fg7 fg8 fg9 fg10 fg11 fg12 fg13 fg14 fg15 fg16 fg17 fm0 fm1 fm2 fm3 fm4 fm5 fm6 fm7 fm8 fm9 fm10 fm11 fm12 fm13 fm14 fm15 fm16 fm17 fm18 fm19 fo c0 T C CR pk pw qw fa : Addr} {dg0 dg1 dg2 dg3 dg4 dg5 dg6 dg7 dg8 dg9 dg10 dg11 dg12 dg13 dg14 dg15 dg16 dg17 do_ dm0 dm1 dm2 dm3 dm4 dm5 dm6 dm7 dm8 dm9 dm10 dm11 dm12 dm13 dm14 dm15 dm16 dm17 dm18 dm19 : FuncData} (X : K.In h) (G : h.Ns mainGlobals mg) (hfa : mg "answers" = some (.ref fa))
    (cD : ClsK K "Desk" C) (cR : ClsK K "Reader" CR) (g0 : GFn K "is_letter" sLetter fg0 dg0)
    (g1 : GFn K "is_digit" sDigit fg1 dg1) (g2 : GFn K "is_word" sWord fg2 dg2) (g3 : GFn K "is_count" sCount fg3 dg3)
    (g4 : GFn K "keys_of" sKeys fg4 dg4) (g5 : GFn K "lines_of" sLines fg5 dg5) (g6 : GFn K "read_count" sRead fg6 dg6)
    (g7 : GFn K "add_line" sAdd fg7 dg7) (g8 : GFn K "write_text" sWText fg8 dg8) (g9 : GFn K "write_list" sWList fg9 dg9)
    (g10 : GFn K "weight_of" sWeight fg10 dg10) (g11 : GFn K "weighted" sWeighted fg11 dg11) (g12 : GFn K "with_first_word" sFirst fg12 dg12)
    (g13 : GFn K "likeliest_way" sLikely fg13 dg13) (g14 : GFn K "is_key" sIsKey fg14 dg14) (g15 : GFn K "with_length" sWithLen fg15 dg15)
    (g16 : GFn K "answer_call" sCall fg16 dg16) (g17 : GFn K "answers" sAnswers fg17 dg17) (go : OFn K fo do_ c0 T)
    (m0 : MFn K C "__init__" "Desk.__init__" sInit fm0 dm0) (m1 : MFn K C "meant" "Desk.meant" sMeant fm1 dm1) (m2 : MFn K C "shown" "Desk.shown" sShown fm2 dm2)
    (m3 : MFn K C "begin" "Desk.begin" sBegin fm3 dm3) (m4 : MFn K C "learn" "Desk.learn" sLearn fm4 dm4) (m5 : MFn K C "press_key" "Desk.press_key" sPress fm5 dm5)
    (m6 : MFn K C "show_next" "Desk.show_next" sNext fm6 dm6) (m7 : MFn K C "take" "Desk.take" sTake fm7 dm7) (m8 : MFn K C "go_back" "Desk.go_back" sBack fm8 dm8)
    (m9 : MFn K C "guess" "Desk.guess" sGuess fm9 dm9) (m10 : MFn K C "part_row" "Desk.part_row" sRow fm10 dm10) (m11 : MFn K C "tell_text" "Desk.tell_text" sText fm11 dm11)
    (m12 : MFn K C "tell_list" "Desk.tell_list" sList fm12 dm12) (m13 : MFn K C "has_room_for" "Desk.has_room_for" sRoom fm13 dm13) (m14 : MFn K C "add_to_text" "Desk.add_to_text" sAddT fm14 dm14)
    (m15 : MFn K C "drop_keys" "Desk.drop_keys" sDrop fm15 dm15) (m16 : MFn K CR "__init__" "Reader.__init__" sRInit fm16 dm16) (m17 : MFn K CR "has_more" "Reader.has_more" sRMore fm17 dm17)
    (m18 : MFn K CR "read_number" "Reader.read_number" sRNum fm18 dm18) (m19 : MFn K CR "read_row" "Reader.read_row" sRRow fm19 dm19) (i0 : IntK K "LINE_END" 10)
    (i1 : IntK K "BLANK" 32) (i2 : IntK K "DIGIT_ZERO" 48) (i3 : IntK K "LETTER_A" 97)
    (i4 : IntK K "MOST_LETTERS" 12) (i5 : IntK K "MOST_COUNT" 1000000) (i6 : IntK K "MOST_COUNT_DIGITS" 7)
    (i7 : IntK K "MOST_WORDS" 64) (i8 : IntK K "FIRST_KEY" 2) (i9 : IntK K "LAST_KEY" 9)
    (i10 : IntK K "MOST_LIST_BYTES" 2048) (i11 : IntK K "MOST_KEYS" 12) (i12 : IntK K "MOST_TEXT_WORDS" 100)
    (i13 : IntK K "MOST_ROW_KEYS" 40) (i14 : IntK K "NO_TEXT" (-2)) (i15 : IntK K "NO_WAY" (-33))
    (i16 : IntK K "KEYS_ARE_PRESSED" (-11)) (i17 : IntK K "NO_ROOM" (-12)) (i18 : IntK K "NOT_VALID" (-22))
    (i19 : IntK K "NO_WORD" (-61)) (i20 : IntK K "WRONG_LINE" (-1000)) (i21 : IntK K "BEGIN" 0)
    (i22 : IntK K "LEARN" 1) (i23 : IntK K "KEY" 2) (i24 : IntK K "NEXT" 3)
    (i25 : IntK K "TAKE" 4) (i26 : IntK K "BACK" 5) (i27 : IntK K "GUESS" 6)
    (i28 : IntK K "ROW" 7) (i29 : IntK K "TEXT" 8) (i30 : IntK K "LIST" 9)
    (n0 : PySem.W.nsIn K mainGlobals "len" = some none) (n1 : PySem.W.nsIn K mainGlobals "all" = some none) (n2 : PySem.W.nsIn K mainGlobals "sorted" = some none)
    (n3 : PySem.W.nsIn K mainGlobals "tuple" = some none) (n4 : PySem.W.nsIn K mainGlobals "enumerate" = some none) (n5 : PySem.W.nsIn K mainGlobals "list" = some none)
    (n6 : PySem.W.nsIn K mainGlobals "str" = some none) (n7 : PySem.W.nsIn K mainGlobals "ord" = some none) (n8 : PySem.W.nsIn K mainGlobals "sum" = some none)
    (n9 : PySem.W.nsIn K mainGlobals "min" = some none) (n10 : PySem.W.nsIn K mainGlobals "max" = some none) (n11 : PySem.W.nsIn K mainGlobals "range" = some none)
    (a0 : PySem.W.findIn K (.ref C) "counts" = some none) (a1 : PySem.W.findIn K (.ref C) "text" = some none) (a2 : PySem.W.findIn K (.ref C) "pressed" = some none)
    (a3 : PySem.W.findIn K (.ref C) "place" = some none) (a4 : PySem.W.findIn K (.ref CR) "numbers" = some none) (a5 : PySem.W.findIn K (.ref CR) "position" = some none)
    (kk : KeysK K pk) (kw : WayK K pw qw) (nt : PySem.W.noTabs K = true) :
    ∃ (fd : FuncData) (c0 T : Addr), PySem.W.tabIn K "in_order" = some (c0, T) ∧ PySem.W.noTabs K = true ∧ (∀ (s : Shared) (us : List Value), us.length = (["calls"] : List Str).length → BindsTo s fd ⟨us, []⟩ ((["calls"] : List Str).zip us)) ∧
      ∀ base : Heap, K.In base → base.Ns mainGlobals mg → base.BuiltinsAt mg T → FnOk P w K mg base CX0 10 fa fd ["calls"] (spAns K T) := by
  have e := hfa.symm.trans (PySem.W.mg_of X G g17.at_)
  cases e
  have mG : ∀ {x : Str} {f : Addr}, PySem.W.nsIn K mainGlobals x = some (some (.ref f)) → mg x = some (.ref f) := fun z => PySem.W.mg_of X G z
  have mI : ∀ {x : Str} {i : Int}, IntK K x i → GV mg x (.int i) := fun ⟨t, z⟩ => ⟨_, PySem.W.mg_of X G z, t, rfl⟩
  have mN : ∀ {x : Str}, PySem.W.nsIn K mainGlobals x = some none → mg x = none := fun z => PySem.W.mg_none_of X G z
  have W : TxW K mg := { lineEnd := mI i0, blank := mI i1, zero := mI i2, a := mI i3, mostL := mI i4, mostC := mI i5, mostD := mI i6, mostW := mI i7, keys := ⟨pk, ⟨_, mG kk.at_, rfl⟩, kk.sq⟩, len := mN n0, all := mN n1, sorted := mN n2, tuple := mN n3, enumerate := mN n4, list := mN n5, str := mN n6, ord := mN n7, sum := mN n8, min := mN n9, max := mN n10, range := mN n11, way0 := ⟨pw, qw, ⟨_, mG kw.at_, rfl⟩, kw.sq, kw.nd⟩ }
  have D : TxD K mg C := { firstK := mI i8, lastK := mI i9, mostB := mI i10, mostK := mI i11, mostT := mI i12, mostR := mI i13, noText := mI i14, noWay := mI i15, pressed := mI i16, room := mI i17, valid := mI i18, noWord := mI i19, wrong := mI i20, cl := cD.cl, nCounts := a0, nText := a1, nPressed := a2, nPlace := a3 }
  have R : TxR K mg CR := ⟨cR.cl, a4, a5⟩
  have VC : TxT mg := ⟨mI i21, mI i22, mI i23, mI i24, mI i25, mI i26, mI i27, mI i28, mI i29, mI i30⟩
  have bg0 := g0.fn.binds (ps := ["sign"]) fun _ _ _ _ _ _ us hl => match us, hl with | [_], _ => rfl
  have bg1 := g1.fn.binds (ps := ["sign"]) fun _ _ _ _ _ _ us hl => match us, hl with | [_], _ => rfl
  have bg2 := g2.fn.binds (ps := ["signs"]) fun _ _ _ _ _ _ us hl => match us, hl with | [_], _ => rfl
  have bg3 := g3.fn.binds (ps := ["number"]) fun _ _ _ _ _ _ us hl => match us, hl with | [_], _ => rfl
  have bg4 := g4.fn.binds (ps := ["word"]) fun _ _ _ _ _ _ us hl => match us, hl with | [_], _ => rfl
  have bg5 := g5.fn.binds (ps := ["signs"]) fun _ _ _ _ _ _ us hl => match us, hl with | [_], _ => rfl
  have bg6 := g6.fn.binds (ps := ["digits"]) fun _ _ _ _ _ _ us hl => match us, hl with | [_], _ => rfl
  have bg7 := g7.fn.binds (ps := ["line", "counts"]) fun _ _ _ _ _ _ us hl => match us, hl with | [_, _], _ => rfl
  have bg8 := g8.fn.binds (ps := ["words"]) fun _ _ _ _ _ _ us hl => match us, hl with | [_], _ => rfl
  have bg9 := g9.fn.binds (ps := ["counts"]) fun _ _ _ _ _ _ us hl => match us, hl with | [_], _ => rfl
  have bg10 := g10.fn.binds (ps := ["word", "count", "total"]) fun _ _ _ _ _ _ us hl => match us, hl with | [_, _, _], _ => rfl
  have bg11 := g11.fn.binds (ps := ["counts"]) fun _ _ _ _ _ _ us hl => match us, hl with | [_], _ => rfl
  have bg12 := g12.fn.binds (ps := ["word", "weight", "rest"]) fun _ _ _ _ _ _ us hl => match us, hl with | [_, _, _], _ => rfl
  have bg13 := g13.fn.binds (ps := ["row", "counts"]) fun _ _ _ _ _ _ us hl => match us, hl with | [_, _], _ => rfl
  have bg14 := g14.fn.binds (ps := ["number"]) fun _ _ _ _ _ _ us hl => match us, hl with | [_], _ => rfl
  have bg15 := g15.fn.binds (ps := ["signs"]) fun _ _ _ _ _ _ us hl => match us, hl with | [_], _ => rfl
  have bg16 := g16.fn.binds (ps := ["desk", "reader"]) fun _ _ _ _ _ _ us hl => match us, hl with | [_, _], _ => rfl
  have bg17 := g17.fn.binds (ps := ["calls"]) fun _ _ _ _ _ _ us hl => match us, hl with | [_], _ => rfl
  have bo := go.fn.binds (ps := ["words", "counts"]) fun _ _ _ _ _ _ us hl => match us, hl with | [_, _], _ => rfl
  have bm0 := m0.fn.binds (ps := ["self"]) fun _ _ _ _ _ _ us hl => match us, hl with | [_], _ => rfl
  have bm1 := m1.fn.binds (ps := ["self"]) fun _ _ _ _ _ _ us hl => match us, hl with | [_], _ => rfl
  have bm2 := m2.fn.binds (ps := ["self"]) fun _ _ _ _ _ _ us hl => match us, hl with | [_], _ => rfl
  have bm3 := m3.fn.binds (ps := ["self", "signs"]) fun _ _ _ _ _ _ us hl => match us, hl with | [_, _], _ => rfl
  have bm4 := m4.fn.binds (ps := ["self", "count", "signs"]) fun _ _ _ _ _ _ us hl => match us, hl with | [_, _, _], _ => rfl
  have bm5 := m5.fn.binds (ps := ["self", "key"]) fun _ _ _ _ _ _ us hl => match us, hl with | [_, _], _ => rfl
  have bm6 := m6.fn.binds (ps := ["self"]) fun _ _ _ _ _ _ us hl => match us, hl with | [_], _ => rfl
  have bm7 := m7.fn.binds (ps := ["self"]) fun _ _ _ _ _ _ us hl => match us, hl with | [_], _ => rfl
  have bm8 := m8.fn.binds (ps := ["self"]) fun _ _ _ _ _ _ us hl => match us, hl with | [_], _ => rfl
  have bm9 := m9.fn.binds (ps := ["self"]) fun _ _ _ _ _ _ us hl => match us, hl with | [_], _ => rfl
  have bm10 := m10.fn.binds (ps := ["self", "row"]) fun _ _ _ _ _ _ us hl => match us, hl with | [_, _], _ => rfl
  have bm11 := m11.fn.binds (ps := ["self"]) fun _ _ _ _ _ _ us hl => match us, hl with | [_], _ => rfl
  have bm12 := m12.fn.binds (ps := ["self"]) fun _ _ _ _ _ _ us hl => match us, hl with | [_], _ => rfl
  have bm13 := m13.fn.binds (ps := ["self", "words"]) fun _ _ _ _ _ _ us hl => match us, hl with | [_, _], _ => rfl
  have bm14 := m14.fn.binds (ps := ["self", "words"]) fun _ _ _ _ _ _ us hl => match us, hl with | [_, _], _ => rfl
  have bm15 := m15.fn.binds (ps := ["self"]) fun _ _ _ _ _ _ us hl => match us, hl with | [_], _ => rfl
  have bm16 := m16.fn.binds (ps := ["self", "numbers"]) fun _ _ _ _ _ _ us hl => match us, hl with | [_, _], _ => rfl
  have bm17 := m17.fn.binds (ps := ["self"]) fun _ _ _ _ _ _ us hl => match us, hl with | [_], _ => rfl
  have bm18 := m18.fn.binds (ps := ["self"]) fun _ _ _ _ _ _ us hl => match us, hl with | [_], _ => rfl
  have bm19 := m19.fn.binds (ps := ["self"]) fun _ _ _ _ _ _ us hl => match us, hl with | [_], _ => rfl
  obtain ⟨oc, od, kV, doc, pm, an, cdv, ct, osl, efd, lk, hcd⟩ := g17.fn.ex
  refine ⟨dg17, c0, T, go.tab, nt, fun s us hu => ?_, fun base kb _ hB => ?_⟩
  · rw [efd]; exact match us, hu with | [_], _ => .of_eq rfl
  · have Gword : FnOk P w K mg base CX0 2 fg2 dg2 ["signs"] (spWord K) := ok_word g2.fn W g0.fn (mG g0.at_) bg0
    have Gcount : FnOk P w K mg base CX0 1 fg3 dg3 ["number"] (spBetween 1 1000000) := ok_count g3.fn W
    have Gkeys : FnOk P w K mg base CX0 1 fg4 dg4 ["word"] (spKeys K) := ok_keys g4.fn W
    have Gorder : FnOk P w K mg base CX0 5 fo do_ ["words", "counts"] (spOrder K T) := ok_order go.fn W kb hB
    have Glines : FnOk P w K mg base CX0 1 fg5 dg5 ["signs"] (spLines K) := ok_lines g5.fn W
    have Gread : FnOk P w K mg base CX0 2 fg6 dg6 ["digits"] (spRead K) := ok_read g6.fn W g1.fn (mG g1.at_) bg1 g3.fn (mG g3.at_) bg3
    have Gadd : FnOk P w K mg base CX0 3 fg7 dg7 ["line", "counts"] (spAdd K) := ok_add g7.fn W Gword g2.fn.kp (mG g2.at_) bg2 Gread g6.fn.kp (mG g6.at_) bg6
    have Gwt : FnOk P w K mg base CX0 1 fg8 dg8 ["words"] (spWText K) := ok_wtext g8.fn W
    have Gwl : FnOk P w K mg base CX0 6 fg9 dg9 ["counts"] (spWList T) := ok_wlist g9.fn W Gorder go.fn.kp (mG go.at_) bo
    have Gwei : FnOk P w K mg base CX0 1 fg10 dg10 ["word", "count", "total"] (spWeight K) := ok_weight g10.fn
    have Gwed : FnOk P w K mg base CX0 2 fg11 dg11 ["counts"] (spWeighted) := ok_weighted g11.fn W Gkeys g4.fn.kp (mG g4.at_) bg4 Gwei g10.fn.kp (mG g10.at_) bg10
    have Gfst : FnOk P w K mg base CX0 1 fg12 dg12 ["word", "weight", "rest"] (spFirst K) := ok_first g12.fn
    have Glik : FnOk P w K mg base CX0 3 fg13 dg13 ["row", "counts"] (spLikely K) := ok_likely g13.fn W Gwed g11.fn.kp (mG g11.at_) bg11 Gfst g12.fn.kp (mG g12.at_) bg12
    have Gkey : FnOk P w K mg base CX0 1 fg14 dg14 ["number"] (spBetween 2 9) := ok_isKey g14.fn D
    have Glen : FnOk P w K mg base CX0 1 fg15 dg15 ["signs"] (spWithLen K) := ok_withLen g15.fn W
    have Dini : FnOk P w K mg base CX0 1 fm0 dm0 ["self"] (spInit C T) := ok_init m0.fn D
    have Dmea : FnOk P w K mg base CX0 6 fm1 dm1 ["self"] (spMeant C T) := ok_meant m1.fn D Gkeys g4.fn.kp (mG g4.at_) bg4 Gorder go.fn.kp (mG go.at_) bo
    have Dsho : FnOk P w K mg base CX0 7 fm2 dm2 ["self"] (spShown C T) := ok_shown m2.fn W D Dmea m1.me bm1
    have Ddro : FnOk P w K mg base CX0 1 fm15 dm15 ["self"] (spDrop C T) := ok_drop m15.fn D
    have Dbeg : FnOk P w K mg base CX0 4 fm3 dm3 ["self", "signs"] (spBegin K C T) := ok_begin m3.fn W D Glines g5.fn.kp (mG g5.at_) bg5 Gadd g7.fn.kp (mG g7.at_) bg7 Ddro m15.me bm15
    have Dlea : FnOk P w K mg base CX0 3 fm4 dm4 ["self", "count", "signs"] (spLearn K C T) := ok_learn m4.fn W D Gword g2.fn.kp (mG g2.at_) bg2 Gcount g3.fn.kp (mG g3.at_) bg3
    have Dpre : FnOk P w K mg base CX0 7 fm5 dm5 ["self", "key"] (spPress C T) := ok_press m5.fn W D Dmea m1.me bm1 Gkey g14.fn.kp (mG g14.at_) bg14
    have Dnex : FnOk P w K mg base CX0 7 fm6 dm6 ["self"] (spNext C T) := ok_next m6.fn W D Dmea m1.me bm1
    have Droo : FnOk P w K mg base CX0 1 fm13 dm13 ["self", "words"] (spRoom K C T) := ok_room m13.fn W D
    have Dadd : FnOk P w K mg base CX0 1 fm14 dm14 ["self", "words"] (spAddT K C T) := ok_addT m14.fn W D
    have Dtak : FnOk P w K mg base CX0 8 fm7 dm7 ["self"] (spTake C T) := ok_take m7.fn W D Dsho m2.me bm2 Droo m13.me bm13 Dadd m14.me bm14 Ddro m15.me bm15
    have Dbac : FnOk P w K mg base CX0 7 fm8 dm8 ["self"] (spBack C T) := ok_back m8.fn W D Dmea m1.me bm1 Gkeys g4.fn.kp (mG g4.at_) bg4
    have Dgue : FnOk P w K mg base CX0 8 fm9 dm9 ["self"] (spGuess C T) := ok_guess m9.fn D Dsho m2.me bm2 Glen g15.fn.kp (mG g15.at_) bg15
    have Drow : FnOk P w K mg base CX0 4 fm10 dm10 ["self", "row"] (spRow K C T) := ok_row m10.fn W D Gkey g14.fn.kp (mG g14.at_) bg14 Glik g13.fn.kp (mG g13.at_) bg13 Droo m13.me bm13 Dadd m14.me bm14
    have Dtxt : FnOk P w K mg base CX0 2 fm11 dm11 ["self"] (spTText C T) := ok_ttext m11.fn D Gwt g8.fn.kp (mG g8.at_) bg8 Glen g15.fn.kp (mG g15.at_) bg15
    have Dlst : FnOk P w K mg base CX0 7 fm12 dm12 ["self"] (spTList C T) := ok_tlist m12.fn D Gwl g9.fn.kp (mG g9.at_) bg9 Glen g15.fn.kp (mG g15.at_) bg15
    have Rini : FnOk P w K mg base CX0 1 fm16 dm16 ["self", "numbers"] (spRInit CR) := ok_rinit m16.fn R
    have Rmor : FnOk P w K mg base CX0 1 fm17 dm17 ["self"] (spRMore K CR) := ok_rmore m17.fn W R
    have Rnum : FnOk P w K mg base CX0 1 fm18 dm18 ["self"] (spRNum K CR) := ok_rnum m18.fn R
    have Rrow : FnOk P w K mg base CX0 2 fm19 dm19 ["self"] (spRRow K CR) := ok_rrow m19.fn R Rnum m18.me bm18
    have Gcal : FnOk P w K mg base CX0 9 fg16 dg16 ["desk", "reader"] (spCall K C CR T) := ok_call g16.fn D R VC Rnum m18.me bm18 Rrow m19.me bm19 Dbeg m3.me bm3 Dlea m4.me bm4 Dpre m5.me bm5 Dnex m6.me bm6 Dtak m7.me bm7 Dbac m8.me bm8 Dgue m9.me bm9 Drow m10.me bm10 Dtxt m11.me bm11 Dlst m12.me bm12
    exact ok_ans g17.fn W D R ⟨cD.makes, m0.me.at_, m0.me.fn, cD.kc⟩ Dini (mG cD.at_) bm0 ⟨cR.makes, m16.me.at_, m16.me.fn, cR.kc⟩ Rini (mG cR.at_) bm16 Rmor m17.me bm17 Gcal g16.fn.kp (mG g16.at_) bg16
end Wk
def PySem.W.Fast.tw1430798996752721714 : Unit := ()
def PySem.W.Fast.tw3746836963383627933 : Unit := ()
def PySem.W.Fast.tw13641806521052749278 : Unit := ()
def PySem.W.Fast.tw12761065257033037212 : Unit := ()
def PySem.W.Fast.tw12221192980176157800 : Unit := ()
def PySem.W.Fast.tw7526203720862060809 : Unit := ()
def PySem.W.Fast.tw6486200940899522496 : Unit := ()
def PySem.W.Fast.tw12349920130668064602 : Unit := ()
open PySem PySem.W PyProof.Rows
set_option maxRecDepth 100000 in
set_option maxHeartbeats 0 in
theorem PySem.Challenge.cw_wordkeysdesk_s01_answers_holds : PySem.Challenge.rw_wordkeysdesk_s01_answers.Holds := by
  w_on; k_headS; (case hw => exact ⟨[.list [.int 3]], by decide +kernel, by decide +kernel⟩)
  k_fillS
  refine L2.walk_specT (r := PySem.Challenge.rw_wordkeysdesk_s01_answers) (k := 10) (ps := ["calls"]) (sp := Wk.spAns) (x := "in_order") (by decide +kernel) rfl ⟨rfl, by decide, by decide⟩ (fun w h Y => PySem.W.kIn_of Y) ?R ?F ?S
  case R => decide +kernel
  case F =>
    intro w mg fa h Y KX G hmg
    refine' Wk.all_mk KX G hmg ?wk_cD ?wk_cR ?wk_g0 ?wk_g1 ?wk_g2 ?wk_g3 ?wk_g4 ?wk_g5 ?wk_g6 ?wk_g7 ?wk_g8 ?wk_g9 ?wk_g10 ?wk_g11 ?wk_g12 ?wk_g13 ?wk_g14 ?wk_g15 ?wk_g16 ?wk_g17 ?wk_go ?wk_m0 ?wk_m1 ?wk_m2 ?wk_m3 ?wk_m4 ?wk_m5 ?wk_m6 ?wk_m7 ?wk_m8 ?wk_m9 ?wk_m10 ?wk_m11 ?wk_m12 ?wk_m13 ?wk_m14 ?wk_m15 ?wk_m16 ?wk_m17 ?wk_m18 ?wk_m19 ?wk_i0 ?wk_i1 ?wk_i2 ?wk_i3 ?wk_i4 ?wk_i5 ?wk_i6 ?wk_i7 ?wk_i8 ?wk_i9 ?wk_i10 ?wk_i11 ?wk_i12 ?wk_i13 ?wk_i14 ?wk_i15 ?wk_i16 ?wk_i17 ?wk_i18 ?wk_i19 ?wk_i20 ?wk_i21 ?wk_i22 ?wk_i23 ?wk_i24 ?wk_i25 ?wk_i26 ?wk_i27 ?wk_i28 ?wk_i29 ?wk_i30 ?wk_n0 ?wk_n1 ?wk_n2 ?wk_n3 ?wk_n4 ?wk_n5 ?wk_n6 ?wk_n7 ?wk_n8 ?wk_n9 ?wk_n10 ?wk_n11 ?wk_a0 ?wk_a1 ?wk_a2 ?wk_a3 ?wk_a4 ?wk_a5 ?wk_kk ?wk_kw ?wk_nt
    case wk_cD => refine' Wk.clsk_mk ?wk_cD_1 ?wk_cD_2 ?wk_cD_3 ?wk_cD_4 ?wk_cD_5 ?wk_cD_6 ?wk_cD_7; (case wk_cD_1 => k_is); (case wk_cD_2 => k_is); (case wk_cD_3 => k_is); (case wk_cD_4 => k_is); (case wk_cD_5 => k_is); (case wk_cD_6 => k_is); (case wk_cD_7 => k_is)
    case wk_cR => refine' Wk.clsk_mk ?wk_cR_1 ?wk_cR_2 ?wk_cR_3 ?wk_cR_4 ?wk_cR_5 ?wk_cR_6 ?wk_cR_7; (case wk_cR_1 => k_is); (case wk_cR_2 => k_is); (case wk_cR_3 => k_is); (case wk_cR_4 => k_is); (case wk_cR_5 => k_is); (case wk_cR_6 => k_is); (case wk_cR_7 => k_is)
    case wk_g0 => refine' Wk.gfn_mk ?wk_g0_1 ?wk_g0_2 ?wk_g0_3 ?wk_g0_4; (case wk_g0_1 => k_is); (case wk_g0_2 => k_is); (case wk_g0_3 => k_is); (case wk_g0_4 => k_is)
    case wk_g1 => refine' Wk.gfn_mk ?wk_g1_1 ?wk_g1_2 ?wk_g1_3 ?wk_g1_4; (case wk_g1_1 => k_is); (case wk_g1_2 => k_is); (case wk_g1_3 => k_is); (case wk_g1_4 => k_is)
    case wk_g2 => refine' Wk.gfn_mk ?wk_g2_1 ?wk_g2_2 ?wk_g2_3 ?wk_g2_4; (case wk_g2_1 => k_is); (case wk_g2_2 => k_is); (case wk_g2_3 => k_is); (case wk_g2_4 => k_is)
    case wk_g3 => refine' Wk.gfn_mk ?wk_g3_1 ?wk_g3_2 ?wk_g3_3 ?wk_g3_4; (case wk_g3_1 => k_is); (case wk_g3_2 => k_is); (case wk_g3_3 => k_is); (case wk_g3_4 => k_is)
    case wk_g4 => refine' Wk.gfn_mk ?wk_g4_1 ?wk_g4_2 ?wk_g4_3 ?wk_g4_4; (case wk_g4_1 => k_is); (case wk_g4_2 => k_is); (case wk_g4_3 => k_is); (case wk_g4_4 => k_is)
    case wk_g5 => refine' Wk.gfn_mk ?wk_g5_1 ?wk_g5_2 ?wk_g5_3 ?wk_g5_4; (case wk_g5_1 => k_is); (case wk_g5_2 => k_is); (case wk_g5_3 => k_is); (case wk_g5_4 => k_is)
    case wk_g6 => refine' Wk.gfn_mk ?wk_g6_1 ?wk_g6_2 ?wk_g6_3 ?wk_g6_4; (case wk_g6_1 => k_is); (case wk_g6_2 => k_is); (case wk_g6_3 => k_is); (case wk_g6_4 => k_is)
    case wk_g7 => refine' Wk.gfn_mk ?wk_g7_1 ?wk_g7_2 ?wk_g7_3 ?wk_g7_4; (case wk_g7_1 => k_is); (case wk_g7_2 => k_is); (case wk_g7_3 => k_is); (case wk_g7_4 => k_is)
    case wk_g8 => refine' Wk.gfn_mk ?wk_g8_1 ?wk_g8_2 ?wk_g8_3 ?wk_g8_4; (case wk_g8_1 => k_is); (case wk_g8_2 => k_is); (case wk_g8_3 => k_is); (case wk_g8_4 => k_is)
    case wk_g9 => refine' Wk.gfn_mk ?wk_g9_1 ?wk_g9_2 ?wk_g9_3 ?wk_g9_4; (case wk_g9_1 => k_is); (case wk_g9_2 => k_is); (case wk_g9_3 => k_is); (case wk_g9_4 => k_is)
    case wk_g10 => refine' Wk.gfn_mk ?wk_g10_1 ?wk_g10_2 ?wk_g10_3 ?wk_g10_4; (case wk_g10_1 => k_is); (case wk_g10_2 => k_is); (case wk_g10_3 => k_is); (case wk_g10_4 => k_is)
    case wk_g11 => refine' Wk.gfn_mk ?wk_g11_1 ?wk_g11_2 ?wk_g11_3 ?wk_g11_4; (case wk_g11_1 => k_is); (case wk_g11_2 => k_is); (case wk_g11_3 => k_is); (case wk_g11_4 => k_is)
    case wk_g12 => refine' Wk.gfn_mk ?wk_g12_1 ?wk_g12_2 ?wk_g12_3 ?wk_g12_4; (case wk_g12_1 => k_is); (case wk_g12_2 => k_is); (case wk_g12_3 => k_is); (case wk_g12_4 => k_is)
    case wk_g13 => refine' Wk.gfn_mk ?wk_g13_1 ?wk_g13_2 ?wk_g13_3 ?wk_g13_4; (case wk_g13_1 => k_is); (case wk_g13_2 => k_is); (case wk_g13_3 => k_is); (case wk_g13_4 => k_is)
    case wk_g14 => refine' Wk.gfn_mk ?wk_g14_1 ?wk_g14_2 ?wk_g14_3 ?wk_g14_4; (case wk_g14_1 => k_is); (case wk_g14_2 => k_is); (case wk_g14_3 => k_is); (case wk_g14_4 => k_is)
    case wk_g15 => refine' Wk.gfn_mk ?wk_g15_1 ?wk_g15_2 ?wk_g15_3 ?wk_g15_4; (case wk_g15_1 => k_is); (case wk_g15_2 => k_is); (case wk_g15_3 => k_is); (case wk_g15_4 => k_is)
    case wk_g16 => refine' Wk.gfn_mk ?wk_g16_1 ?wk_g16_2 ?wk_g16_3 ?wk_g16_4; (case wk_g16_1 => k_is); (case wk_g16_2 => k_is); (case wk_g16_3 => k_is); (case wk_g16_4 => k_is)
    case wk_g17 => refine' Wk.gfn_mk ?wk_g17_1 ?wk_g17_2 ?wk_g17_3 ?wk_g17_4; (case wk_g17_1 => k_is); (case wk_g17_2 => k_is); (case wk_g17_3 => k_is); (case wk_g17_4 => k_is)
    case wk_go => refine' Wk.ofn_mk ?wk_go_1 ?wk_go_2 ?wk_go_3 ?wk_go_4 ?wk_go_5 ?wk_go_6 ?wk_go_7; (case wk_go_1 => k_is); (case wk_go_2 => k_is); (case wk_go_3 => k_is); (case wk_go_4 => k_is); (case wk_go_5 => k_is); (case wk_go_6 => rfl); (case wk_go_7 => rfl)
    case wk_m0 => refine' Wk.mfn_mk ?wk_m0_1 ?wk_m0_2 ?wk_m0_3 ?wk_m0_4 ?wk_m0_5; (case wk_m0_1 => k_is); (case wk_m0_2 => k_is); (case wk_m0_3 => k_is); (case wk_m0_4 => k_is); (case wk_m0_5 => k_is)
    case wk_m1 => refine' Wk.mfn_mk ?wk_m1_1 ?wk_m1_2 ?wk_m1_3 ?wk_m1_4 ?wk_m1_5; (case wk_m1_1 => k_is); (case wk_m1_2 => k_is); (case wk_m1_3 => k_is); (case wk_m1_4 => k_is); (case wk_m1_5 => k_is)
    case wk_m2 => refine' Wk.mfn_mk ?wk_m2_1 ?wk_m2_2 ?wk_m2_3 ?wk_m2_4 ?wk_m2_5; (case wk_m2_1 => k_is); (case wk_m2_2 => k_is); (case wk_m2_3 => k_is); (case wk_m2_4 => k_is); (case wk_m2_5 => k_is)
    case wk_m3 => refine' Wk.mfn_mk ?wk_m3_1 ?wk_m3_2 ?wk_m3_3 ?wk_m3_4 ?wk_m3_5; (case wk_m3_1 => k_is); (case wk_m3_2 => k_is); (case wk_m3_3 => k_is); (case wk_m3_4 => k_is); (case wk_m3_5 => k_is)
    case wk_m4 => refine' Wk.mfn_mk ?wk_m4_1 ?wk_m4_2 ?wk_m4_3 ?wk_m4_4 ?wk_m4_5; (case wk_m4_1 => k_is); (case wk_m4_2 => k_is); (case wk_m4_3 => k_is); (case wk_m4_4 => k_is); (case wk_m4_5 => k_is)
    case wk_m5 => refine' Wk.mfn_mk ?wk_m5_1 ?wk_m5_2 ?wk_m5_3 ?wk_m5_4 ?wk_m5_5; (case wk_m5_1 => k_is); (case wk_m5_2 => k_is); (case wk_m5_3 => k_is); (case wk_m5_4 => k_is); (case wk_m5_5 => k_is)
    case wk_m6 => refine' Wk.mfn_mk ?wk_m6_1 ?wk_m6_2 ?wk_m6_3 ?wk_m6_4 ?wk_m6_5; (case wk_m6_1 => k_is); (case wk_m6_2 => k_is); (case wk_m6_3 => k_is); (case wk_m6_4 => k_is); (case wk_m6_5 => k_is)
    case wk_m7 => refine' Wk.mfn_mk ?wk_m7_1 ?wk_m7_2 ?wk_m7_3 ?wk_m7_4 ?wk_m7_5; (case wk_m7_1 => k_is); (case wk_m7_2 => k_is); (case wk_m7_3 => k_is); (case wk_m7_4 => k_is); (case wk_m7_5 => k_is)
    case wk_m8 => refine' Wk.mfn_mk ?wk_m8_1 ?wk_m8_2 ?wk_m8_3 ?wk_m8_4 ?wk_m8_5; (case wk_m8_1 => k_is); (case wk_m8_2 => k_is); (case wk_m8_3 => k_is); (case wk_m8_4 => k_is); (case wk_m8_5 => k_is)
    case wk_m9 => refine' Wk.mfn_mk ?wk_m9_1 ?wk_m9_2 ?wk_m9_3 ?wk_m9_4 ?wk_m9_5; (case wk_m9_1 => k_is); (case wk_m9_2 => k_is); (case wk_m9_3 => k_is); (case wk_m9_4 => k_is); (case wk_m9_5 => k_is)
    case wk_m10 => refine' Wk.mfn_mk ?wk_m10_1 ?wk_m10_2 ?wk_m10_3 ?wk_m10_4 ?wk_m10_5; (case wk_m10_1 => k_is); (case wk_m10_2 => k_is); (case wk_m10_3 => k_is); (case wk_m10_4 => k_is); (case wk_m10_5 => k_is)
    case wk_m11 => refine' Wk.mfn_mk ?wk_m11_1 ?wk_m11_2 ?wk_m11_3 ?wk_m11_4 ?wk_m11_5; (case wk_m11_1 => k_is); (case wk_m11_2 => k_is); (case wk_m11_3 => k_is); (case wk_m11_4 => k_is); (case wk_m11_5 => k_is)
    case wk_m12 => refine' Wk.mfn_mk ?wk_m12_1 ?wk_m12_2 ?wk_m12_3 ?wk_m12_4 ?wk_m12_5; (case wk_m12_1 => k_is); (case wk_m12_2 => k_is); (case wk_m12_3 => k_is); (case wk_m12_4 => k_is); (case wk_m12_5 => k_is)
    case wk_m13 => refine' Wk.mfn_mk ?wk_m13_1 ?wk_m13_2 ?wk_m13_3 ?wk_m13_4 ?wk_m13_5; (case wk_m13_1 => k_is); (case wk_m13_2 => k_is); (case wk_m13_3 => k_is); (case wk_m13_4 => k_is); (case wk_m13_5 => k_is)
    case wk_m14 => refine' Wk.mfn_mk ?wk_m14_1 ?wk_m14_2 ?wk_m14_3 ?wk_m14_4 ?wk_m14_5; (case wk_m14_1 => k_is); (case wk_m14_2 => k_is); (case wk_m14_3 => k_is); (case wk_m14_4 => k_is); (case wk_m14_5 => k_is)
    case wk_m15 => refine' Wk.mfn_mk ?wk_m15_1 ?wk_m15_2 ?wk_m15_3 ?wk_m15_4 ?wk_m15_5; (case wk_m15_1 => k_is); (case wk_m15_2 => k_is); (case wk_m15_3 => k_is); (case wk_m15_4 => k_is); (case wk_m15_5 => k_is)
    case wk_m16 => refine' Wk.mfn_mk ?wk_m16_1 ?wk_m16_2 ?wk_m16_3 ?wk_m16_4 ?wk_m16_5; (case wk_m16_1 => k_is); (case wk_m16_2 => k_is); (case wk_m16_3 => k_is); (case wk_m16_4 => k_is); (case wk_m16_5 => k_is)
    case wk_m17 => refine' Wk.mfn_mk ?wk_m17_1 ?wk_m17_2 ?wk_m17_3 ?wk_m17_4 ?wk_m17_5; (case wk_m17_1 => k_is); (case wk_m17_2 => k_is); (case wk_m17_3 => k_is); (case wk_m17_4 => k_is); (case wk_m17_5 => k_is)
    case wk_m18 => refine' Wk.mfn_mk ?wk_m18_1 ?wk_m18_2 ?wk_m18_3 ?wk_m18_4 ?wk_m18_5; (case wk_m18_1 => k_is); (case wk_m18_2 => k_is); (case wk_m18_3 => k_is); (case wk_m18_4 => k_is); (case wk_m18_5 => k_is)
    case wk_m19 => refine' Wk.mfn_mk ?wk_m19_1 ?wk_m19_2 ?wk_m19_3 ?wk_m19_4 ?wk_m19_5; (case wk_m19_1 => k_is); (case wk_m19_2 => k_is); (case wk_m19_3 => k_is); (case wk_m19_4 => k_is); (case wk_m19_5 => k_is)
    case wk_i0 => refine' Wk.intk_mk ?wk_i0_1; (case wk_i0_1 => k_is)
    case wk_i1 => refine' Wk.intk_mk ?wk_i1_1; (case wk_i1_1 => k_is)
    case wk_i2 => refine' Wk.intk_mk ?wk_i2_1; (case wk_i2_1 => k_is)
    case wk_i3 => refine' Wk.intk_mk ?wk_i3_1; (case wk_i3_1 => k_is)
    case wk_i4 => refine' Wk.intk_mk ?wk_i4_1; (case wk_i4_1 => k_is)
    case wk_i5 => refine' Wk.intk_mk ?wk_i5_1; (case wk_i5_1 => k_is)
    case wk_i6 => refine' Wk.intk_mk ?wk_i6_1; (case wk_i6_1 => k_is)
    case wk_i7 => refine' Wk.intk_mk ?wk_i7_1; (case wk_i7_1 => k_is)
    case wk_i8 => refine' Wk.intk_mk ?wk_i8_1; (case wk_i8_1 => k_is)
    case wk_i9 => refine' Wk.intk_mk ?wk_i9_1; (case wk_i9_1 => k_is)
    case wk_i10 => refine' Wk.intk_mk ?wk_i10_1; (case wk_i10_1 => k_is)
    case wk_i11 => refine' Wk.intk_mk ?wk_i11_1; (case wk_i11_1 => k_is)
    case wk_i12 => refine' Wk.intk_mk ?wk_i12_1; (case wk_i12_1 => k_is)
    case wk_i13 => refine' Wk.intk_mk ?wk_i13_1; (case wk_i13_1 => k_is)
    case wk_i14 => refine' Wk.intk_mk ?wk_i14_1; (case wk_i14_1 => k_is)
    case wk_i15 => refine' Wk.intk_mk ?wk_i15_1; (case wk_i15_1 => k_is)
    case wk_i16 => refine' Wk.intk_mk ?wk_i16_1; (case wk_i16_1 => k_is)
    case wk_i17 => refine' Wk.intk_mk ?wk_i17_1; (case wk_i17_1 => k_is)
    case wk_i18 => refine' Wk.intk_mk ?wk_i18_1; (case wk_i18_1 => k_is)
    case wk_i19 => refine' Wk.intk_mk ?wk_i19_1; (case wk_i19_1 => k_is)
    case wk_i20 => refine' Wk.intk_mk ?wk_i20_1; (case wk_i20_1 => k_is)
    case wk_i21 => refine' Wk.intk_mk ?wk_i21_1; (case wk_i21_1 => k_is)
    case wk_i22 => refine' Wk.intk_mk ?wk_i22_1; (case wk_i22_1 => k_is)
    case wk_i23 => refine' Wk.intk_mk ?wk_i23_1; (case wk_i23_1 => k_is)
    case wk_i24 => refine' Wk.intk_mk ?wk_i24_1; (case wk_i24_1 => k_is)
    case wk_i25 => refine' Wk.intk_mk ?wk_i25_1; (case wk_i25_1 => k_is)
    case wk_i26 => refine' Wk.intk_mk ?wk_i26_1; (case wk_i26_1 => k_is)
    case wk_i27 => refine' Wk.intk_mk ?wk_i27_1; (case wk_i27_1 => k_is)
    case wk_i28 => refine' Wk.intk_mk ?wk_i28_1; (case wk_i28_1 => k_is)
    case wk_i29 => refine' Wk.intk_mk ?wk_i29_1; (case wk_i29_1 => k_is)
    case wk_i30 => refine' Wk.intk_mk ?wk_i30_1; (case wk_i30_1 => k_is)
    case wk_n0 => k_is
    case wk_n1 => k_is
    case wk_n2 => k_is
    case wk_n3 => k_is
    case wk_n4 => k_is
    case wk_n5 => k_is
    case wk_n6 => k_is
    case wk_n7 => k_is
    case wk_n8 => k_is
    case wk_n9 => k_is
    case wk_n10 => k_is
    case wk_n11 => k_is
    case wk_a0 => k_is
    case wk_a1 => k_is
    case wk_a2 => k_is
    case wk_a3 => k_is
    case wk_a4 => k_is
    case wk_a5 => k_is
    case wk_kk => refine' Wk.keysk_mk ?wk_kk_1 ?wk_kk_2 ?wk_kk_3 ?wk_kk_4; (case wk_kk_1 => k_is); (case wk_kk_2 => k_is); (case wk_kk_3 => decide +kernel); (case wk_kk_4 => rfl)
    case wk_kw => refine' Wk.wayk_mk ?wk_kw_1 ?wk_kw_2 ?wk_kw_3; (case wk_kw_1 => k_is); (case wk_kw_2 => k_is); (case wk_kw_3 => k_is)
    case wk_nt => kernel_rfl
  case S =>
    intro K T H xs a hO hwi hask hx
    cases hx with
    | cons h1 h2 =>
      cases h2
      cases h1 with
      | lst hs ha =>
        have e := L2.ints_dw a.1 _ ha
        subst e
        have q : ((Codec.inLen 0 30000 a.1 && a.1.all (Codec.inInt 0 4294967295)) && true) = true := hwi
        rw [Bool.and_eq_true, Bool.and_eq_true] at q
        refine ⟨_, a.1, rfl, ?_, (Codec.inNat_iff.mp q.1.1).2, hask, .inl hO.1, fun H' p hp => .lst (L2.SqL.of hp) (L2.dw_ints _)⟩
        rename_i nb
        rcases hs with (hs | ⟨o, hs⟩) | hs
        · by_cases z : nb = T
          · rw [z, hO.1] at hs; cases hs
          · rcases hO.2 nb z with y | ⟨o, u, y⟩
            · rw [y] at hs; cases hs
            · rw [y] at hs; cases hs
        · exact .inl ⟨o, hs⟩
        · exact .inr fun H' => .inr hs
