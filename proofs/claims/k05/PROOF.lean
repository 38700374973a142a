import PyProof.Rows.All
import Wide.All
import OpenK.AllK
import Wide.FinOn
import HandS.ForMost
import HandS.ForExc
import HandS.ExcCtx
import HandS.HotCalls
import HandS.ExcIs
import HandS.IsInst
import HandS.Lambda
import HandS.EndTab
import HandS.TupAny
import HandS.Conv
import HandS.Wide
import HandS.Small
import HandS.Style
import KE.GoesEnum
import KE.KDictPairs
import PySem.Challenge.RW_stillcopy_k05_disks
set_option Elab.async false
set_option linter.all false
set_option maxRecDepth 100000
/-! ### 1. Heaps: what stays behind a deed -/
namespace K5
open PySem PySem.Spec PyProof.Rows L2
/-- objects that deeds may change -/
def Mu : HO → Prop
  | .lst _ => True
  | .dK _ => True
  | .ins _ _ _ => True
  | _ => False
/-- all stays but what may change and lies in F -/
def Kp (F : Addr → Prop) (H G : Hp) : Prop := ∀ b o, H b = some o → (Mu o → ¬ F b) → G b = some o
/-- the same, code tables aside -/
def Kt (F : Addr → Prop) (H G : Hp) : Prop := ∀ b o, H b = some o → (∀ ps, o ≠ .tbl ps) → (Mu o → ¬ F b) → G b = some o
def No : Addr → Prop := fun _ => False
theorem Kp.t {F : Addr → Prop} {H G : Hp} (k : Kp F H G) : Kt F H G := fun b o e _ n => k b o e n
theorem Kp.refl (F : Addr → Prop) (H : Hp) : Kp F H H := fun _ _ e _ => e
theorem Kt.refl (F : Addr → Prop) (H : Hp) : Kt F H H := fun _ _ e _ _ => e
theorem Kp.sub {F F' : Addr → Prop} {H G : Hp} (k : Kp F H G) (s : ∀ b, F b → F' b) : Kp F' H G := fun b o e n => k b o e fun m z => n m (s b z)
theorem Kt.sub {F F' : Addr → Prop} {H G : Hp} (k : Kt F H G) (s : ∀ b, F b → F' b) : Kt F' H G := fun b o e t n => k b o e t fun m z => n m (s b z)
/-- one deed behind another; the second may also change what is new -/
theorem Kp.trans {F F' : Addr → Prop} {H G I : Hp} (k : Kp F H G) (l : Kp F' G I) (s : ∀ b, F' b → F b ∨ H b = none) : Kp F H I := fun b o e n =>
  l b o (k b o e n) fun m z => (s b z).elim (n m) fun q => by rw [q] at e; cases e
theorem Kt.trans {F F' : Addr → Prop} {H G I : Hp} (k : Kt F H G) (l : Kt F' G I) (s : ∀ b, F' b → F b ∨ H b = none) : Kt F H I := fun b o e t n =>
  l b o (k b o e t n) t fun m z => (s b z).elim (n m) fun q => by rw [q] at e; cases e
theorem Kp.new {F : Addr → Prop} {H : Hp} {a : Addr} {o : HO} (h : H a = none) : Kp F H (upd H a o) := fun b u e _ => by rw [upd_ne (ne_of_none e h)]; exact e
theorem Kp.upd {F : Addr → Prop} {H : Hp} {a : Addr} {o o' : HO} (h : H a = some o) (m : Mu o) (f : F a) : Kp F H (upd H a o') := fun b u e n => by
  have ne : b ≠ a := fun z => by
    subst z
    rw [h] at e
    cases e
    exact n m f
  rw [upd_ne ne]
  exact e
theorem Kp.updI {F : Addr → Prop} {H : Hp} {a C dx : Addr} {fs : List (Str × V)} {o' : HO} (h : H a = some (.ins C dx fs)) (f : F a) : Kp F H (L2.upd H a o') := Kp.upd h trivial f
theorem Kp.updL {F : Addr → Prop} {H : Hp} {a : Addr} {xs : List V} {o' : HO} (h : H a = some (.lst xs)) (f : F a) : Kp F H (L2.upd H a o') := Kp.upd h trivial f
theorem Kp.updD {F : Addr → Prop} {H : Hp} {a : Addr} {xs : List (Key × V)} {o' : HO} (h : H a = some (.dK xs)) (f : F a) : Kp F H (L2.upd H a o') := Kp.upd h trivial f
/-- one step more -/
theorem Kp.andI {F : Addr → Prop} {H G : Hp} {a C dx : Addr} {fs : List (Str × V)} {o' : HO} (k : Kp F H G) (h : G a = some (.ins C dx fs)) (f : F a) : Kp F H (L2.upd G a o') := k.trans (Kp.updI h f) fun _ z => .inl z
theorem Kp.andL {F : Addr → Prop} {H G : Hp} {a : Addr} {xs : List V} {o' : HO} (k : Kp F H G) (h : G a = some (.lst xs)) (f : F a) : Kp F H (L2.upd G a o') := k.trans (Kp.updL h f) fun _ z => .inl z
theorem Kp.andD {F : Addr → Prop} {H G : Hp} {a : Addr} {xs : List (Key × V)} {o' : HO} (k : Kp F H G) (h : G a = some (.dK xs)) (f : F a) : Kp F H (L2.upd G a o') := k.trans (Kp.updD h f) fun _ z => .inl z
theorem Kp.andN {F : Addr → Prop} {H G : Hp} {a : Addr} {o' : HO} (k : Kp F H G) (h : G a = none) : Kp F H (L2.upd G a o') := k.trans (Kp.new h) fun _ z => .inl z
/-- what is new behind it was new ahead of it -/
theorem Kp.free {F : Addr → Prop} {H G : Hp} {a : Addr} (k : Kp F H G) (h : G a = none) (n : F a → H a = none) : H a = none := by
  by_cases f : F a
  · exact n f
  · cases e : H a with
    | none => rfl
    | some o =>
      rw [k a o e fun _ => f] at h
      cases h
theorem Kt.ext {F : Addr → Prop} {H G : Hp} (e : LamX.ExtN H G) : Kt F H G := fun b o q t _ => e b o q t
theorem Kt.none {F : Addr → Prop} {H G : Hp} {a : Addr} (k : Kt F H G) (m : ∀ o, H a = some o → (∀ ps, o ≠ .tbl ps) ∧ (Mu o → ¬ F a)) (h : G a = Option.none) : H a = Option.none := by
  cases e : H a with
  | none => rfl
  | some o =>
    rw [k a o e (m o e).1 (m o e).2] at h
    cases h
theorem Kp.tabs {F : Addr → Prop} {H G : Hp} {T : List (Addr × Str)} (k : Kp F H G) (t : LamX.Tabs T H) : LamX.Tabs T G := fun p hp => by
  obtain ⟨ps, h1, h2, h3⟩ := t p hp
  exact ⟨ps, k _ _ h1 (fun m => nomatch m), h2, fun pos cv hc => by
    obtain ⟨c, e1, e2⟩ := h3 pos cv hc
    exact ⟨c, e1, k _ _ e2 fun m => by unfold LamX.CodeO at m; exact nomatch m⟩⟩
theorem Kt.tup {F : Addr → Prop} {H G : Hp} (k : Kt F H G) {a : Addr} {xs : List V} (h : H a = some (.tup xs)) : G a = some (.tup xs) := k _ _ h (fun _ z => nomatch z) fun m => nomatch m
theorem Kt.lst {F : Addr → Prop} {H G : Hp} (k : Kt F H G) {a : Addr} {xs : List V} (h : H a = some (.lst xs)) (n : ¬ F a) : G a = some (.lst xs) := k _ _ h (fun _ z => nomatch z) fun _ => n
theorem Kt.dK {F : Addr → Prop} {H G : Hp} (k : Kt F H G) {a : Addr} {xs : List (Key × V)} (h : H a = some (.dK xs)) (n : ¬ F a) : G a = some (.dK xs) := k _ _ h (fun _ z => nomatch z) fun _ => n
theorem Kt.ins {F : Addr → Prop} {H G : Hp} (k : Kt F H G) {a C dx : Addr} {fs : List (Str × V)} (h : H a = some (.ins C dx fs)) (n : ¬ F a) : G a = some (.ins C dx fs) := k _ _ h (fun _ z => nomatch z) fun _ => n

theorem upd_none {H : Hp} {a b : Addr} {o : HO} (h : upd H a o b = none) : b ≠ a ∧ H b = none := by
  by_cases e : b = a
  · rw [e, upd_same] at h
    cases h
  · rw [upd_ne e] at h
    exact ⟨e, h⟩

/-! ### 2. Data: what is written into blocks -/
def leafV : V → Bool
  | .non => true
  | .bl _ => true
  | .int _ => true
  | .str x => PyData.strOk x
  | _ => false
def SumD (P : V → Nat → Nat → Prop) : List V → Nat → Nat → Prop
  | [], w, z => w = 0 ∧ z = 0
  | v :: vs, w, z => ∃ x y a b, P v x a ∧ SumD P vs y b ∧ w = x + y ∧ z = a + b
/-- v is a leaf, or tuples within one another, at most n deep; w is its weight, z how many things it has -/
def Dat (H : Hp) : Nat → V → Nat → Nat → Prop
  | 0, _, _, _ => False
  | n + 1, v, w, z => (leafV v = true ∧ w = 1 ∧ z = 1) ∨ ∃ a xs u, v = .ref a ∧ H a = some (.tup xs) ∧ SumD (Dat H n) xs w u ∧ z = u + 1
theorem SumD.imp {P Q : V → Nat → Nat → Prop} (h : ∀ v w z, P v w z → Q v w z) : ∀ {xs : List V} {w z : Nat}, SumD P xs w z → SumD Q xs w z
  | [], _, _, e => e
  | _ :: _, _, _, ⟨x, y, a, b, p, r, e⟩ => ⟨x, y, a, b, h _ _ _ p, SumD.imp h r, e⟩
theorem SumD.mem {P : V → Nat → Nat → Prop} : ∀ {xs : List V} {w z : Nat}, SumD P xs w z → ∀ v ∈ xs, ∃ x a, P v x a
  | [], _, _, _, _, h => by cases h
  | _ :: _, _, _, ⟨x, _, a, _, p, r, _⟩, v, h => by
    rcases List.mem_cons.mp h with e | e
    · exact ⟨x, a, e ▸ p⟩
    · exact SumD.mem r v e
theorem SumD.app {P : V → Nat → Nat → Prop} : ∀ {xs ys : List V} {w z u t : Nat}, SumD P xs w z → SumD P ys u t → SumD P (xs ++ ys) (w + u) (z + t)
  | [], _, _, _, _, _, ⟨e, f⟩, r => by
    subst e f
    rw [Nat.zero_add, Nat.zero_add]
    exact r
  | _ :: _, _, _, _, _, _, ⟨x, y, a, b, p, q, e, f⟩, r => ⟨x, _, a, _, p, SumD.app q r, by omega, by omega⟩
theorem SumD.of_app {P : V → Nat → Nat → Prop} : ∀ {xs ys : List V} {w z : Nat}, SumD P (xs ++ ys) w z → ∃ x a y b, SumD P xs x a ∧ SumD P ys y b ∧ w = x + y ∧ z = a + b
  | [], _, _, _, r => ⟨0, 0, _, _, ⟨rfl, rfl⟩, r, by omega, by omega⟩
  | _ :: _, _, _, _, ⟨x, y, a, b, p, q, e, f⟩ => by
    obtain ⟨x', a', y', b', p', q', e', f'⟩ := SumD.of_app q
    exact ⟨_, _, y', b', ⟨x, x', a, a', p, p', rfl, rfl⟩, q', by omega, by omega⟩
theorem Dat.pos {H : Hp} : ∀ {n : Nat} {v : V} {w z : Nat}, Dat H n v w z → 1 ≤ z
  | 0, _, _, _, h => h.elim
  | _ + 1, _, _, _, .inl h => by omega
  | _ + 1, _, _, _, .inr ⟨a, xs, u, e, h, s, f⟩ => by omega
theorem SumD.len {H : Hp} {n : Nat} : ∀ {xs : List V} {w z : Nat}, SumD (Dat H n) xs w z → xs.length ≤ z
  | [], _, _, _ => Nat.zero_le _
  | _ :: _, _, _, ⟨x, y, a, b, p, r, e, f⟩ => by
    have h1 := p.pos
    have h2 := SumD.len r
    rw [List.length_cons]
    omega
theorem Dat.kt {F : Addr → Prop} {H G : Hp} (k : Kt F H G) : ∀ {n : Nat} {v : V} {w z : Nat}, Dat H n v w z → Dat G n v w z
  | 0, _, _, _, h => h
  | _ + 1, _, _, _, .inl h => .inl h
  | _ + 1, _, _, _, .inr ⟨a, xs, u, e, h, s, f⟩ => .inr ⟨a, xs, u, e, k.tup h, s.imp fun _ _ _ p => Dat.kt k p, f⟩
theorem Dat.up {H : Hp} : ∀ {n : Nat} {v : V} {w z : Nat}, Dat H n v w z → Dat H (n + 1) v w z
  | 0, _, _, _, h => h.elim
  | _ + 1, _, _, _, .inl h => .inl h
  | _ + 1, _, _, _, .inr ⟨a, xs, u, e, h, s, f⟩ => .inr ⟨a, xs, u, e, h, s.imp fun _ _ _ p => Dat.up p, f⟩
theorem Dat.le {H : Hp} {n m : Nat} {v : V} {w z : Nat} (d : Dat H n v w z) (h : n ≤ m) : Dat H m v w z := by
  induction m with
  | zero =>
    have : n = 0 := by omega
    subst this
    exact d
  | succ m ih =>
    by_cases e : n = m + 1
    · subst e
      exact d
    · exact (ih (by omega)).up
/-- x and y are the same data: leaves, tuples and lists of the same -/
def Al (H : Hp) : Nat → V → V → Prop
  | 0, _, _ => False
  | n + 1, x, y => (leafV y = true ∧ x = y) ∨ ∃ (a b : Addr) (xs ys : List V), x = .ref a ∧ y = .ref b ∧ ((H a = some (.tup xs) ∧ H b = some (.tup ys)) ∨ (H a = some (.lst xs) ∧ H b = some (.lst ys))) ∧ xs.length = ys.length ∧ (ys.length : Int) < 2 ^ 62 ∧ ∀ (i : Nat) (x y : V), xs[i]? = some x → ys[i]? = some y → Al H n x y
theorem SumD.mem2 {P : V → Nat → Nat → Prop} : ∀ {xs : List V} {w z : Nat}, SumD P xs w z → ∀ v ∈ xs, ∃ x a, P v x a ∧ a ≤ z
  | [], _, _, _, _, h => by cases h
  | _ :: _, _, _, ⟨x, _, a, b, p, r, _, e⟩, v, h => by
    rcases List.mem_cons.mp h with q | q
    · exact ⟨x, a, q ▸ p, by omega⟩
    · obtain ⟨x', a', p', l⟩ := SumD.mem2 r v q
      exact ⟨x', a', p', by omega⟩
theorem Dat.al {H : Hp} : ∀ {n : Nat} {v : V} {w z : Nat}, Dat H n v w z → z ≤ 10000 → Al H n v v
  | 0, _, _, _, h, _ => h.elim
  | _ + 1, _, _, _, .inl h, _ => .inl ⟨h.1, rfl⟩
  | _ + 1, _, _, _, .inr ⟨a, xs, u, e, h, s, f⟩, hz => .inr ⟨a, a, xs, xs, e, e, .inl ⟨h, h⟩, rfl, by have := s.len; omega, fun i x y hx hy => by
    rw [hx] at hy
    cases hy
    obtain ⟨w, z, d, l⟩ := s.mem2 x (List.mem_of_getElem? hx)
    exact d.al (by omega)⟩
theorem Al.leaf {H : Hp} {n : Nat} {v : V} (h : leafV v = true) : Al H (n + 1) v v := .inl ⟨h, rfl⟩
end K5

set_option Elab.async false
set_option linter.all false
set_option maxRecDepth 100000
set_option maxHeartbeats 1000000
/-! ### Rules for what the layer lacks: xs.extend(t), bs.count(True), d.update(pairs), zip(xs, t) -/
namespace K5
open PySem PySem.Spec PyProof.Rows L2
theorem ext_tup (l : Addr) (xs : Array Value) (n : Nat) (b : Addr) (ys : Array Value) (m : Nat) (dd : Option Addr) (sl : Array (Option Value))
    (h0 : ¬(!xs.isEmpty && Builtin.List.listTooLong (xs.size + ys.size)) = true) (h1 : xs.size ≤ sizeLine) (h2 : xs.size + ys.size ≤ sizeLine + 1) :
    Meets (Builtin.«list.extend» ⟨[.ref l, .ref b], []⟩) (fun _ R s => s.heap.get? l = some { cls := .type "list", dict := none, data := .seq xs n, slots := #[] } ∧ s.heap.get? b = some ⟨.type "tuple", dd, .seq ys m, sl⟩ ∧
      R (.ok (.ret Value.none)) { s with heap := s.heap.update l (Obj.mapSeq fun x => x ++ ys), toks := s.toks }) :=
  .of_wp fun prog w A R s h => by
    obtain ⟨hp, g, d, tk, os⟩ := s
    obtain ⟨hl, hb, h⟩ := h
    have f1 := PySem.AutoSeq1.idx_int
    have f2 := PySem.AutoSeq1.sub_tuple_tuple
    have f3 := PySem.AutoSeq1.sub_list_list
    have f4 := PySem.AutoSeq1.sub_tuple_list
    have f5 := PySem.AutoSeq1.sub_list_tuple
    have hz' : (xs ++ ys).size ≤ sizeLine + 1 := by rw [Array.size_append]; exact h2
    wp_walk using (wpAny_updateSeq hl rfl (hz := h1) (_hz' := hz')), wpAny_loadPart' hl, wpAny_loadPart' hb
    exact ⟨_, rfl, h⟩
def rExtT : V → List V → Hp → VK → Prop := fun x vs H Q => ∃ l b xs zs, x = .ref l ∧ vs = [.ref b] ∧ H l = some (.lst xs) ∧ H b = some (.tup zs) ∧ xs.length + zs.length ≤ sizeLine ∧ Q .non (upd H l (.lst (xs ++ zs)))
section
variable {X : Cx}
theorem mt_extT : MtM X "list.extend" rExtT := by
  intro pins s σ H x vs v us Q I rx rv h
  obtain ⟨l, b, xs, zs, rfl, rfl, hH, hB, hz, q⟩ := h
  cases rx
  obtain ⟨u, rfl, ru⟩ := rv.one
  cases ru
  obtain ⟨z, ja, n, r, hl, e⟩ := I.lstM hH
  obtain ⟨z2, jb, r2, ⟨oc, od, oda, osl⟩, e2, c2, m, d2⟩ := (show ObjOk X.prog X.w H s.heap b (.tup zs) from I.hok b _ hB)
  dsimp only at c2 d2
  subst c2 d2
  have hl2 := r2.length
  have fits : ja.toArray.size + jb.toArray.size ≤ sizeLine := by
    rw [List.size_toArray, List.size_toArray, ← hl, ← hl2]
    exact hz
  have door : ¬ (!ja.toArray.isEmpty && Builtin.List.listTooLong (ja.toArray.size + jb.toArray.size)) = true := by
    rw [notLongL fits, Bool.and_false]; exact Bool.false_ne_true
  refine call_meets F.slot_list_extend ⟨_, e, rfl⟩ F.entry_list_extend (F.args_list_extend_2 _ _) (ext_tup l ja.toArray n b jb.toArray m od osl door (by rw [List.size_toArray]; omega) (by omega)) ⟨e, e2, ?_⟩
  exact ⟨.non, _, I.lset (its' := ja ++ jb) hH e (by simp) (r.append r2) (by rw [List.length_append]; exact hz), rfl, q⟩
/-- bs.count(True) -/
def rCntB (K : PySem.W.Frag) : V → List V → Hp → VK → Prop := fun x xs H Q => ∃ (p : Addr) (bs : List Bool), x = .ref p ∧ xs = [.bl true] ∧ SqL K H p (bs.map V.bl) ∧ Q (.int (bs.count true : Nat)) H
theorem flat_bools (bs : List Bool) : (bs.map V.bl).all flatV = true := by
  rw [List.all_map]
  exact List.all_eq_true.mpr fun _ _ => rfl
theorem countB : ∀ {bs : List Bool} {us : List Value}, Vals (bs.map V.bl) us → us.countP (eqU (.bl true)) = bs.count true
  | [], _, r => by
    cases r
    rfl
  | b :: bs, _, r => by
    rw [List.map_cons] at r
    cases r with
    | cons h t =>
      rw [List.countP_cons, countB t, List.count_cons]
      have e : eqU (.bl true) _ = eqV (.bl b) (.bl true) := eqU_of h rfl
      rw [e]
      cases b <;> rfl
theorem mt_cntB : MtR X "list.count" (rCntB X.K) := by
  intro pins s σ H x xs v us Q I rx rxs h
  obtain ⟨p, bs, rfl, rfl, hs, q⟩ := h
  cases rx
  obtain ⟨u, rfl, ru⟩ := rxs.one
  obtain ⟨its, rv, ⟨⟨cls, dd, data, sl⟩, n, ho, hc, hdn, hd⟩, hlen⟩ := I.list hs
  dsimp only at hc hd
  subst hc hd
  refine call_meets PySem.F.slot_list_count ⟨_, ho, rfl⟩ PySem.F.entry_list_count (PySem.F.args_list_count_2 _ _) (SeqAt.list_countAt p its.toArray n dd sl u (eqU (.bl true))) ⟨ho, fun y hy => mem_eqAt ru rfl rv (flat_bools bs) y (by simpa using hy), ?_⟩
  refine ⟨.int (bs.count true : Nat), H, I.tok _, ⟨s.toks, ?_⟩, q⟩
  show Value.int ((its.toArray.toList.countP (eqU (.bl true)) : Nat) : Int) s.toks = _
  rw [show its.toArray.toList.countP (eqU (.bl true)) = bs.count true from countB rv]
end
end K5
namespace K5
open PySem PySem.Spec PyProof.Rows L2
section
variable {X : Cx} {pins : List (Addr × Obj)} {σ : L2.St} {H : Hp} {s : Shared}
theorem uvOf (I : Inv X pins σ H s) : ∀ {ps : List Addr} {kvs : List (Key × V)}, Paired (fun p kv => SqT X.K H p [kV kv.1, kv.2]) ps kvs →
    ∃ (rs : List (Key × Value)) (uv : List (Value × Value)), KV kvs rs ∧ rs.length = ps.length ∧ uv.length = ps.length ∧
      ∀ (j : Nat) (k v : Value), uv[j]? = some (k, v) → ∃ (b : Addr) (kk : Key), ps[j]? = some b ∧ IsTup s.heap b #[k, v] ∧ rs[j]? = some (kk, v) ∧ keyIs kk k = true
  | _, _, .nil => ⟨[], [], .nil, rfl, rfl, fun j k v e => by simp at e⟩
  | _, _, .cons (a := p) (b := kv) h t => by
    obtain ⟨rs, uv, r, l1, l2, hp⟩ := uvOf I t
    obtain ⟨its, rv, ht, _⟩ := I.tuple h
    obtain ⟨u, y, ei, ru, ry⟩ := vals2 rv
    subst ei
    refine ⟨(kv.1, y) :: rs, (u, y) :: uv, .cons ⟨rfl, ry⟩ r, by rw [List.length_cons, List.length_cons, l1], by rw [List.length_cons, List.length_cons, l2], fun j k v e => ?_⟩
    cases j with
    | zero =>
      have e' : (u, y) = (k, v) := Option.some.inj e
      cases e'
      exact ⟨p, kv.1, rfl, ht, rfl, kV_is (P := X.prog) (w := X.w) ru⟩
    | succ j => exact hp j k v (by simpa using e)
def rUpdP (K : PySem.W.Frag) : V → List V → Hp → VK → Prop := fun x xs H Q => ∃ (d a : Addr) (ps : List Addr) (acc kvs : List (Key × V)), x = .ref d ∧ xs = [.ref a] ∧ H d = some (.dK acc) ∧ SqL K H a (ps.map V.ref) ∧
  Paired (fun p kv => SqT K H p [kV kv.1, kv.2]) ps kvs ∧ acc.length + ps.length ≤ sizeLine ∧ Q .non (upd H d (.dK (mergeK acc kvs)))
theorem mt_updP (hcalm : X.calm = true) : MtR X "dict.update" (rUpdP X.K) := by
  intro pins s σ H x xs v us Q I rx rxs h
  obtain ⟨d, a, ps, acc, kvs, rfl, rfl, hd, hq, hp, hz, q⟩ := h
  cases rx
  obtain ⟨u, rfl, ru⟩ := rxs.one
  cases ru
  obtain ⟨its, rv, ⟨oa, n, ho, hc, hdn, hdat⟩, _⟩ := I.list hq
  have ei := refs_at rv
  subst ei
  obtain ⟨rs, uv, rel, l1, l2, hpr⟩ := uvOf I hp
  obtain ⟨zd, hsys, vs, rd, hD⟩ := (show ObjOk X.prog X.w H s.heap d (.dK acc) from I.hok d _ hd)
  have ok : PlainSeq "list" s.heap a (ps.map Value.ref).toArray ∧ PairItems s.heap (ps.map Value.ref).toArray (fun j => ps.getD j 0) uv := by
    refine ⟨⟨oa, n, ho, hc, hdn, hdat⟩, by simp [l2], fun j k v e => ?_⟩
    obtain ⟨b, kk, e1, e2, _⟩ := hpr j k v e
    have eg : ps.getD j 0 = b := by rw [List.getD_eq_getElem?_getD, e1]; rfl
    refine ⟨?_, ?_⟩
    · show (ps.map Value.ref).toArray[j]? = some (.ref (ps.getD j 0))
      rw [eg]
      simp [e1]
    · show PairAt s.heap (ps.getD j 0) k v
      rw [eg]
      exact .inl e2
  obtain ⟨od, hod, hcd⟩ := hD.typeIs (s := s)
  have hdf : d ∉ a :: (List.range uv.length).map (fun j => ps.getD j 0) := fun hm => by
    rcases List.mem_cons.mp hm with e | hm
    · subst e
      rw [ho] at hod
      cases hod
      rw [hc] at hcd
      exact absurd (Value.type.inj hcd) (by decide)
    · obtain ⟨j, hj, e⟩ := List.mem_map.mp hm
      have hj := List.mem_range.mp hj
      obtain ⟨b, kk, e1, ⟨ob, hob, hcb, _⟩, _⟩ := hpr j uv[j].1 uv[j].2 (List.getElem?_eq_getElem hj)
      have eg : ps.getD j 0 = b := by rw [List.getD_eq_getElem?_getD, e1]; rfl
      rw [eg] at e
      subst e
      rw [hob] at hod
      cases hod
      rw [hcb] at hcd
      exact absurd (Value.type.inj hcd) (by decide)
  have la : vs.length = acc.length := (Paired.length rd).symm
  refine call_update_pairs (knd := mixKind X.prog X.w) (kvs := rs) (PairArg.list a _ _ uv) (I.ok.hd hcalm) ok hdf ⟨by rw [l1, l2], fun i key v e => ?_⟩ hD (by rw [l2, la]; exact hz) fun h' tk hD' k => ?_
  · obtain ⟨b, kk, _, _, e3, e4⟩ := hpr i key v e
    exact ⟨kk, e3, e4⟩
  · have hlen : (mergeK acc kvs).length ≤ sizeLine := by
      refine Nat.le_trans (length_mergeK kvs acc) ?_
      rw [show kvs.length = ps.length by rw [← l1]; exact Paired.length rel]
      exact hz
    obtain ⟨oe, hoe, _⟩ := hD'.typeIs (s := { s with heap := h' })
    refine ⟨.non, _, I.write (t' := tk) (o := .dK (mergeK acc kvs)) (by rw [hd]; trivial) (.inl rfl) (fun b o nb e => k b o nb (fun z => nomatch z) e) ⟨oe, hoe⟩ ⟨hlen, hsys, _, KV.merge rel rd, hD'⟩, rfl, q⟩
end
end K5

set_option Elab.async false
set_option linter.all false
set_option maxRecDepth 100000
set_option maxHeartbeats 1000000
/-! ### zip of a list and of a list or a tuple -/
namespace K5
open PySem PySem.Spec PyProof.Rows L2
/-- how the second one is walked: its iterator's state, and what it stands for -/
structure Snd (P : Program) (w : World) (j b : Addr) where
  st : Nat → Heap → Prop
  own : Heap → Array Value → Prop
  obj : ∀ i h, st i h → ∃ o, h.get? j = some o ∧ ∀ v, o.data ≠ .cell v
  keep : ∀ i h g, st i h → (∀ o, h.get? j = some o → g.get? j = some o) → st i g
  draws : ∀ (A : Around) (ys : Array Value), A.handled = none → Draws P w A j [j, b] ys.size (fun i v => ys[i]? = some v) (fun i h => st i h ∧ own h ys)
def sndL (P : Program) (w : World) (j b : Addr) (ne : b ≠ j) : Snd P w j b where
  st := fun i h => h.IsListIter j b i
  own := fun h ys => h.IsList b ys
  obj := fun i h ⟨o, e, _, d⟩ => ⟨o, e, fun v q => by rw [d] at q; cases q⟩
  keep := fun i h g x k => x.at k
  draws := fun A ys hh => Draws.list hh j b ne ys
def sndT (P : Program) (w : World) (j b : Addr) (ne : b ≠ j) : Snd P w j b where
  st := fun i h => h.IsTupleIter j b i
  own := fun h ys => h.IsTuple b ys
  obj := fun i h ⟨o, e, _, d⟩ => ⟨o, e, fun v q => by rw [d] at q; cases q⟩
  keep := fun i h g x k => x.at k
  draws := fun A ys hh => Draws.tuple hh j b ne ys
/-- one turn after another: the items in new pairs -/
def ItM (K : PySem.W.Frag) (a : Addr) (sq : Hp → Prop) (xs ys : List V) : It where
  go := fun i H => SqL K H a xs ∧ sq H ∧ i < xs.length ∧ i < ys.length
  yld := fun i H v G => ∃ T x y, v = .ref T ∧ H T = none ∧ G = upd H T (.tup [x, y]) ∧ xs[i]? = some x ∧ ys[i]? = some y
  stop := fun i H => SqL K H a xs ∧ sq H ∧ i ≤ xs.length ∧ i ≤ ys.length ∧ (i = xs.length ∨ i = ys.length)
theorem turnM {P : Program} {w : World} {K : PySem.W.Frag} {elts : List Expr} {kk : Nat} {tpos : Pos} {a b z TI TO i1 i2 : Addr} {xs ys : List V} {sq : Hp → Prop} (D : Snd P w i2 b) (S : ZipSep2 z TI TO i1 i2 [i1, a] [i2, b]) (na : a ≠ i1)
    (rd : ∀ {X : Cx} {pins : List (Addr × Obj)} {σ : L2.St} {H : Hp} {s : Shared}, X.K = K → Inv X pins σ H s → sq H → ∃ its : List Value, Vals ys its ∧ D.own s.heap its.toArray) :
    Turn P w K (.Tuple elts kk tpos) (ItM K a sq xs ys) [z, TI, TO, i1, i2] z (fun i h => IsZip h z TI TO .none ∧ IsTupOf2 h TI (.ref i1) (.ref i2) ∧ (∃ x y, IsTupOf2 h TO x y) ∧ h.IsListIter i1 a i ∧ D.st i h) where
  mem := List.mem_cons_self
  obj := fun i h ⟨hz, hTI, ⟨x, y, hTO⟩, ⟨o1, e1, _, d1⟩, h2⟩ c hc => by
    simp only [List.mem_cons, List.not_mem_nil, or_false] at hc
    rcases hc with rfl | rfl | rfl | rfl | rfl
    · exact ⟨_, hz, nofun⟩
    · exact ⟨_, hTI, nofun⟩
    · exact ⟨_, hTO, nofun⟩
    · exact ⟨o1, e1, fun v q => by rw [d1] at q; cases q⟩
    · exact D.obj i h h2
  keep := fun i h g ⟨hz, hTI, ⟨x, y, hTO⟩, h1, h2⟩ k =>
    ⟨k _ (by simp) _ hz, k _ (by simp) _ hTI, ⟨x, y, k _ (by simp) _ hTO⟩, h1.at fun o q => k _ (by simp) o q, D.keep i h g h2 fun o q => k _ (by simp) o q⟩
  item := by
    intro X hP hw hK hc i pins s σ H E I hf ⟨hz, hTI, ⟨x0, y0, hTO⟩, h1, h2⟩ ⟨qx, qy, lx, ly⟩
    subst hP hw
    obtain ⟨ja, ra, pa, _⟩ := I.list (by rw [hK]; exact qx)
    obtain ⟨jb, rb, pb⟩ := rd hK I qy
    have la := ra.length
    have lb := rb.length
    have hh := I.ok.hd hc
    refine wpAny_pyNext_zipD2_item S (Draws.list (A := X.A.in1) hh i1 a na ja.toArray) (D.draws X.A.in1 jb.toArray hh) hz hTI hTO ⟨h1, pa.isList⟩ ⟨h2, pb⟩ (by simp; omega) (by simp; omega) fun u1 u2 g tk e1 e2 z' TO' n1 n2 hT hsz hk => ?_
    refine ⟨_, rfl, wpAny_letOwnedTupleGo_zip (s := { s with heap := g, toks := tk }) z' fun g' z'' sb => ?_⟩
    have hzl : z < s.heap.objs.size := Heap.lt_size hz
    have old : ∀ c o, c ∉ [z, TI, TO, i1, i2] → s.heap.get? c = some o → g'.get? c = some o := fun c o nc q => by
      simp only [List.mem_cons, List.not_mem_nil, or_false, not_or] at nc
      exact (sb.2 c nc.1).trans (hk c o nc.1 nc.2.2.1 nc.2.2.2.1 nc.2.2.2.2 q)
    obtain ⟨x, hx⟩ : ∃ x, xs[i]? = some x := ⟨_, List.getElem?_eq_getElem lx⟩
    obtain ⟨y, hy⟩ : ∃ y, ys[i]? = some y := ⟨_, List.getElem?_eq_getElem ly⟩
    obtain ⟨v1, hv1, r1⟩ := ra.get hx
    obtain ⟨v2, hv2, r2⟩ := rb.get hy
    have e1' : ja[i]? = some u1 := by simpa using e1
    have e2' : jb[i]? = some u2 := by simpa using e2
    rw [hv1] at e1'
    rw [hv2] at e2'
    cases e1'
    cases e2'
    have hT' : g'.get? s.heap.objs.size = some { cls := .type "tuple", data := .seq #[u1, u2] } := (sb.2 _ (Nat.ne_of_gt hzl)).trans hT
    have new : ObjOk X.prog X.w (upd H s.heap.objs.size (.tup [x, y])) g' s.heap.objs.size (.tup [x, y]) := ⟨by show 2 ≤ sizeLine; decide, [u1, u2], .cons r1 (.cons r2 .nil), ⟨_, hT', rfl, _, rfl⟩⟩
    refine ⟨.ref s.heap.objs.size, _, I.turnedNew (t' := tk) old hf (Nat.le_refl _) new, rfl, ⟨_, x, y, rfl, I.hok.fresh (Nat.le_refl _), rfl, hx, hy⟩, ⟨z'', (sb.2 _ S.TIz).trans (hk _ _ S.TIz S.TITO S.TIi1 S.TIi2 hTI), ⟨u1, u2, (sb.2 _ S.TOz).trans TO'⟩, n1.1.at fun o q => (sb.2 _ S.zi1.symm).trans q, D.keep _ _ _ n2.1 fun o q => (sb.2 _ S.zi2.symm).trans q⟩, fun c hcm => ?_⟩
    have hlt : c < s.heap.objs.size := by
      simp only [List.mem_cons, List.not_mem_nil, or_false] at hcm
      rcases hcm with rfl | rfl | rfl | rfl | rfl
      · exact hzl
      · exact Heap.lt_size hTI
      · exact Heap.lt_size hTO
      · obtain ⟨_, q, _⟩ := h1
        exact Heap.lt_size q
      · obtain ⟨_, q, _⟩ := D.obj i _ h2
        exact Heap.lt_size q
    rw [upd_ne (Nat.ne_of_lt hlt)]
    exact (hf c hcm).1
  done := by
    intro X hP hw hK hc i pins s σ H E I hf ⟨hz, hTI, ⟨x0, y0, hTO⟩, h1, h2⟩ ⟨qx, qy, lx, ly, hend⟩
    subst hP hw
    obtain ⟨ja, ra, pa, _⟩ := I.list (by rw [hK]; exact qx)
    obtain ⟨jb, rb, pb⟩ := rd hK I qy
    have la := ra.length
    have lb := rb.length
    have hh := I.ok.hd hc
    refine wpAny_pyNext_zipD2_end S (Draws.list (A := X.A.in1) hh i1 a na ja.toArray) (D.draws X.A.in1 jb.toArray hh) hz hTI hTO ⟨h1, pa.isList⟩ ⟨h2, pb⟩ (by simp; omega) (by simp; omega) (by simp; omega) fun g tk hk => ⟨rfl, I.turnedL (t' := tk) (ch := [z, TI, TO, i1, i2]) (fun c o nc q => ?_) hf⟩
    simp only [List.mem_cons, List.not_mem_nil, or_false, not_or] at nc
    exact hk c o nc.1 nc.2.2.1 nc.2.2.2.1 nc.2.2.2.2 q
  self := fun A i s Q E st h => wpAny_pyIter_zip st.1 h
def iZipM (K : PySem.W.Frag) (ta : TA) : TI := fun σ H R => ta σ H fun vs G => ∃ (a b : Addr) (xs ys : List V), vs = [.ref a, .ref b] ∧ SqL K G a xs ∧ ((SqL K G b ys ∧ R (ItM K a (fun J => SqL K J b ys) xs ys) G) ∨ (SqT K G b ys ∧ R (ItM K a (fun J => SqT K J b ys) xs ys) G))
theorem pi_zipM {X : Cx} {e e2 : Expr} {ta : TA} {p pos tpos : Pos} {elts : List Expr} {kk : Nat} (hg : Gl X "zip") (hm : X.mg "zip" = none) (ha : PA X [e, e2] ta)
    (hs : starEach [e, e2] X.env = (false, eval e X.env) :: starEach [e2] X.env := by rfl) (hpl : (backTo pos (starEach [e2] X.env)).any (·.1) = false := by rfl) :
    PI X (.Tuple elts kk tpos) (.Call (.Name "zip" p) [e, e2] [] pos) (iZipM X.K ta) := by
  refine ⟨fun pins s σ H R I h => Call_ (ld_blt I hg hm PyProof.Rows.boot_zip (PyProof.Rows.callWith_type1 (thn (ha.run pos pins s σ H _ I h) fun us s1 ⟨vs, G, I1, r1, a, b, xs, ys, ex, qx, q1⟩ => ?_) hs hpl))⟩
  subst ex
  obtain ⟨u1, u2, eu, ra, rb⟩ := vals2 r1
  subst eu
  cases ra
  cases rb
  have lt5 : ∀ {c n : Nat}, c ∈ [n + 4, n + 2, n + 3, n, n + 1] → n ≤ c := fun {c n} hc => by
    simp only [List.mem_cons, List.not_mem_nil, or_false] at hc
    omega
  have fr : ∀ c, c ∈ [s1.heap.objs.size + 4, s1.heap.objs.size + 2, s1.heap.objs.size + 3, s1.heap.objs.size, s1.heap.objs.size + 1] → FpOk X pins G c := fun c hc => I1.fpOk (lt5 hc) (I1.hok.fresh (lt5 hc))
  obtain ⟨ja, va, pa, _⟩ := I1.list qx
  have na : a ≠ s1.heap.objs.size := Nat.ne_of_lt pa.lt
  rcases q1 with ⟨qy, q⟩ | ⟨qy, q⟩
  · obtain ⟨jb, vb, pb, _⟩ := I1.list qy
    have nb : b ≠ s1.heap.objs.size + 1 := Nat.ne_of_lt (Nat.lt_succ_of_lt pb.lt)
    refine zip_begins2 (begins_list a ja.toArray) (begins_list b jb.toArray) pa.isList pb.isList fun g hz hTI hTO e1 e2 hsz hk => wpAny_pyIter_zip hz ?_
    refine ⟨_, _, _, _, G, rfl, I1.kept (t' := s1.toks) hk, turnM (sndL X.prog X.w (s1.heap.objs.size + 1) b nb) (zip_sep2 (fp1 := [a]) (fp2 := [b]) (by simpa using pa.lt) (by simpa using pb.lt)) na (fun {Y pn τ J t} eK IY sq => ?_), ⟨hz, hTI, ⟨_, _, hTO⟩, ⟨_, e1, rfl, rfl⟩, ⟨_, e2, rfl, rfl⟩⟩, fr, q⟩
    obtain ⟨jc, vc, pc, _⟩ := IY.list (by rw [eK]; exact sq)
    exact ⟨jc, vc, pc.isList⟩
  · obtain ⟨jb, vb, pb, _⟩ := I1.tuple qy
    have lb : b < s1.heap.objs.size := by
      obtain ⟨_, e, _⟩ := pb
      exact Heap.lt_size e
    have nb : b ≠ s1.heap.objs.size + 1 := Nat.ne_of_lt (Nat.lt_succ_of_lt lb)
    refine zip_begins2 (begins_list a ja.toArray) (begins_tuple b jb.toArray) pa.isList pb fun g hz hTI hTO e1 e2 hsz hk => wpAny_pyIter_zip hz ?_
    refine ⟨_, _, _, _, G, rfl, I1.kept (t' := s1.toks) hk, turnM (sndT X.prog X.w (s1.heap.objs.size + 1) b nb) (zip_sep2 (fp1 := [a]) (fp2 := [b]) (by simpa using pa.lt) (by simpa using lb)) na (fun {Y pn τ J t} eK IY sq => ?_), ⟨hz, hTI, ⟨_, _, hTO⟩, ⟨_, e1, rfl, rfl⟩, ⟨_, e2, rfl, rfl⟩⟩, fr, q⟩
    obtain ⟨jc, vc, pc, _⟩ := IY.tuple (by rw [eK]; exact sq)
    exact ⟨jc, vc, pc⟩
/-- a loop over such a zip -/
theorem for_zipM {K : PySem.W.Frag} {a : Addr} {sq : Hp → Prop} {xs ys : List V} {g : TG} {tb : TS} {D : Ends} {σ : L2.St} {H : Hp} (Pv : Nat → L2.St → Hp → Prop) (h0 : Pv 0 σ H) (hq : ∀ i σ H, Pv i σ H → SqL K H a xs ∧ sq H)
    (hs : ∀ (i : Nat) (x y : V) (T : Addr) (σ : L2.St) (H : Hp), xs[i]? = some x → ys[i]? = some y → Pv i σ H → H T = none → g (.ref T) σ (upd H T (.tup [x, y])) fun σ2 H2 => tb { D with nx := Pv (i + 1), ct := Pv (i + 1), bk := D.nx } σ2 H2)
    (hd : ∀ σ H, Pv (min xs.length ys.length) σ H → D.nx σ H) :
    ∃ W : Nat → Nat → L2.St → Hp → Prop, (∃ m, W 0 m σ H) ∧ ∀ i m σ H, W i m σ H →
      ((ItM K a sq xs ys).stop i H ∧ D.nx σ H) ∨ ((ItM K a sq xs ys).go i H ∧ ∃ N : L2.St → Hp → Prop, (∀ σ' H', N σ' H' → ∃ m', m' < m ∧ W (i + 1) m' σ' H') ∧ ∀ v H', (ItM K a sq xs ys).yld i H v H' → g v σ H' fun σ2 H2 => tb { D with nx := N, ct := N, bk := D.nx } σ2 H2) := by
  refine ⟨fun i m σ H => m = min xs.length ys.length - i ∧ i ≤ min xs.length ys.length ∧ Pv i σ H, ⟨_, rfl, Nat.zero_le _, h0⟩, ?_⟩
  rintro i m σ H ⟨rfl, hi, p⟩
  obtain ⟨qx, qy⟩ := hq i σ H p
  by_cases lt : i < min xs.length ys.length
  · refine .inr ⟨⟨qx, qy, by omega, by omega⟩, Pv (i + 1), fun σ' G p' => ⟨min xs.length ys.length - (i + 1), by omega, rfl, by omega, p'⟩, fun v G yl => ?_⟩
    obtain ⟨T, x, y, rfl, hT, rfl, e1, e2⟩ := yl
    exact hs i x y T σ H e1 e2 p hT
  · have e : i = min xs.length ys.length := by omega
    subst e
    exact .inl ⟨⟨qx, qy, by omega, by omega, by omega⟩, hd σ H p⟩
end K5

set_option Elab.async false
set_option linter.all false
set_option maxRecDepth 100000
/-! ### 3. The text by places, and what the top has written -/
namespace K5
open PySem PySem.Spec PyProof.Rows L2
def top (i : Nat) : Stmt := PySem.Challenge.pw_stillcopy_k05_disks.main.body.getD i (.Pass ⟨0, 0, 0, 0⟩)
abbrev sWithin : Stmt := top 15
abbrev sHeavy : Stmt := top 19
abbrev sCheck : Stmt := top 20
abbrev sDk (j : Nat) : Stmt := inClass (top 21) j
/-- a def of the module -/
structure Df (K : PySem.W.Frag) (mg : Str → Option Value) (x : Str) (st : Stmt) (f : Addr) : Prop where
  fn : ∃ fd, Fun K x x st f fd
  at_ : mg x = some (.ref f)
theorem Df.kp {K : PySem.W.Frag} {mg : Str → Option Value} {x : Str} {st : Stmt} {f : Addr} (d : Df K mg x st f) : PySem.W.keepIn K (.ref f) = true := by
  obtain ⟨_, F⟩ := d.fn
  exact F.kp
/-- a method of the class at C -/
structure Md (K : PySem.W.Frag) (C : Addr) (m qual : Str) (st : Stmt) (f : Addr) : Prop where
  fn : ∃ fd, Fun K m qual st f fd
  me : Meth K C m f
/-- an exception class of the program -/
structure Xc (K : PySem.W.Frag) (mg : Str → Option Value) (x : Str) (C : Addr) : Prop where
  at_ : mg x = some (.ref C)
  ex : PySem.W.excIn K C [.type "ValueError", .type "Exception", .type "BaseException", .type "object"] "ValueError.__new__" = true
  kp : PySem.W.keepIn K (.ref C) = true
  sb : PySem.W.subIn K (.ref C) (.type "BaseException") = some true
  ty : PySem.W.typeIn K (.ref C) = some (.type "type")
/-- the addresses: defs, the class Disk, the classes BadBlock, Stopped -/
structure Ad where
  within : Addr
  heavy : Addr
  check : Addr
  disk : Addr
  dm : Nat → Addr
  bad : Addr
  stopped : Addr
structure Txt (K : PySem.W.Frag) (mg : Str → Option Value) (A : Ad) : Prop where
  within : Df K mg "within" sWithin A.within
  heavy : Df K mg "is_too_heavy" sHeavy A.heavy
  check : Df K mg "check_block" sCheck A.check
  blocks : ∃ t, mg "BLOCKS" = some (.int 35 t)
  most : ∃ t, mg "MOST_WEIGHT" = some (.int 40 t)
  bad : Xc K mg "BadBlock" A.bad
  stopped : Xc K mg "Stopped" A.stopped
  isinstance : mg "isinstance" = none
  int : mg "int" = none
  bool : mg "bool" = none
  tuple : mg "tuple" = none
  list : mg "list" = none
  zip : mg "zip" = none
  cl : Cls K A.disk
  nSure : NoAttr K A.disk "sure"
  nUns : NoAttr K A.disk "unsure"
  nLeft : NoAttr K A.disk "deeds_left"
  nPicks : NoAttr K A.disk "armed_picks"
  nRun : NoAttr K A.disk "running"
  nStops : NoAttr K A.disk "stops"
  m0 : Md K A.disk "__init__" "Disk.__init__" (sDk 0) (A.dm 0)
  m1 : Md K A.disk "write" "Disk.write" (sDk 1) (A.dm 1)
  m2 : Md K A.disk "settle" "Disk.settle" (sDk 2) (A.dm 2)
  m3 : Md K A.disk "read" "Disk.read" (sDk 3) (A.dm 3)
  m4 : Md K A.disk "arm" "Disk.arm" (sDk 4) (A.dm 4)
  m5 : Md K A.disk "stop" "Disk.stop" (sDk 5) (A.dm 5)
  m6 : Md K A.disk "again" "Disk.again" (sDk 6) (A.dm 6)
  m7 : Md K A.disk "settled" "Disk.settled" (sDk 7) (A.dm 7)
  m8 : Md K A.disk "check_running" "Disk.check_running" (sDk 8) (A.dm 8)
  m9 : Md K A.disk "count_deed" "Disk.count_deed" (sDk 9) (A.dm 9)
/-- the layer of defs that may raise: the exception's context is None -/
theorem okN {P : Program} {w : World} {K : PySem.W.Frag} {mg : Str → Option Value} {base : Heap} {x qual : Str} {st : Stmt} {f : Addr} {fd : FuncData} {N ps : List Str} {k : Nat} {sp : Sp} (F : Fun K x qual st f fd)
    (S : FnScope N ps (defScope st)) (len : ∀ vs H Q E, sp vs H Q E → vs.length = ps.length)
    (body : ∀ (cdv : Value) (A : Around) (outer : List Env) (s : Shared) (H : Hp) (vs : List V) (Q : VK) (E : XK), Room k (A.deeper (envOfC qual (defScope st) s.heap.objs.size f cdv)) → sp vs H Q E →
      ∃ t, PSs (cxOf (L2N.CX P w) P w K mg base N qual (defScope st) f cdv A outer s H E) (defBody st) t ∧ t { nx := fun _ G => Q .non G, rt := Q } (L2.start N vs) H) :
    FnOk P w K mg base (L2N.CX P w) (k + 1) f fd ps sp := by
  obtain ⟨oc, od, kV, doc, pm, an, cdv, ct, osl, rfl, lk, hcd⟩ := F.ex
  exact fn_of lk hcd S len fun A outer s H vs Q E hr hsp => body cdv A outer s H vs Q E hr hsp
section
variable {P : Program} {w : World} {K : PySem.W.Frag} {mg : Str → Option Value} {base : Heap} {A : Ad}
/-! ### within -/
theorem scWithin : FnScope ["number", "low", "high"] ["number", "low", "high"] (defScope sWithin) := ⟨rfl, rfl, rfl, by decide +kernel, rfl, by decide +kernel, by decide +kernel⟩
def spWithin : Sp := fun vs H Q _ => ∃ n lo hi : Int, vs = [.int n, .int lo, .int hi] ∧ Q (.bl (decide (lo ≤ n) && decide (n ≤ hi))) H
theorem ok_within (T : Txt K mg A) : ∃ fd, FnOk P w K mg base CX0 1 A.within fd ["number", "low", "high"] spWithin ∧ Binds K fd ["number", "low", "high"] [] := by
  obtain ⟨fd, F⟩ := T.within.fn
  refine ⟨fd, F.ok scWithin (fun vs H Q E h => ?_) (fun cdv A outer s H vs Q E hr h => ?_), F.binds fun _ _ _ _ _ _ us hl => match us, hl with | [_, _, _], _ => rfl⟩
  · obtain ⟨n, lo, hi, rfl, _⟩ := h
    rfl
  · obtain ⟨n, lo, hi, rfl, k⟩ := h
    refine ⟨_, pss_one (ps_ret (pe_and (pe_callB call_isi (by rfl) T.isinstance (by decide +kernel) (pa_cons (pv 0) (pa_cons (pe_bltn (v := .ty "int") (by rfl) T.int (by decide +kernel) rfl) pa_nil)))
      (pe_and (pe_not (pe_callB call_isi (by rfl) T.isinstance (by decide +kernel) (pa_cons (pv 0) (pa_cons (pe_bltn (v := .ty "bool") (by rfl) T.bool (by decide +kernel) rfl) pa_nil))))
        (pe_one (pe_chain op_le op_le (pv 1) (pv 0) (pv 2)))))), ?_⟩
    refine ⟨_, rfl, _, _, _, _, true, rfl, .ty "int", .base (.int n), by rfl, true, rfl, iteT ?_⟩
    refine ⟨_, rfl, _, _, _, _, false, rfl, .ty "bool", .base (.int n), by rfl, false, rfl, true, rfl, iteT ?_⟩
    refine ⟨_, rfl, _, rfl, _, _, rfl, rfl, _, rfl, ?_⟩
    by_cases h1 : lo ≤ n
    · rw [decide_eq_true h1]
      refine iteT ⟨_, rfl, _, _, rfl, rfl, ?_⟩
      have := k
      rw [decide_eq_true h1, Bool.true_and] at this
      exact this
    · rw [decide_eq_false h1]
      refine iteF ?_
      have := k
      rw [decide_eq_false h1, Bool.false_and] at this
      exact this
end
end K5

set_option Elab.async false
set_option linter.all false
set_option maxRecDepth 100000
set_option maxHeartbeats 1000000
namespace K5
open PySem PySem.Spec PyProof.Rows L2
section
variable {P : Program} {w : World} {K : PySem.W.Frag} {mg : Str → Option Value} {base : Heap} {A : Ad}
/-! ### check_block -/
theorem scCheck : FnScope ["block"] ["block"] (defScope sCheck) := ⟨rfl, rfl, rfl, by decide +kernel, rfl, by decide +kernel, by decide +kernel⟩
def spCheck (A : Ad) : Sp := fun vs H Q E => ∃ n : Int, vs = [.int n] ∧ (0 ≤ n → n ≤ 34 → Q .non H) ∧ (¬ (0 ≤ n ∧ n ≤ 34) → E (.ref A.bad) none H)
theorem ok_check (T : Txt K mg A) : ∃ fd, FnOk P w K mg base (L2N.CX P w) 2 A.check fd ["block"] (spCheck A) ∧ Binds K fd ["block"] [] := by
  obtain ⟨fd, F⟩ := T.check.fn
  obtain ⟨fdW, GW, bW⟩ := ok_within (P := P) (w := w) (base := base) T
  obtain ⟨tb, hb⟩ := T.blocks
  refine ⟨fd, okN F scCheck (fun vs H Q E h => ?_) (fun cdv Ar outer s H vs Q E hr h => ?_), F.binds fun _ _ _ _ _ _ us hl => match us, hl with | [_], _ => rfl⟩
  · obtain ⟨n, rfl, _⟩ := h
    rfl
  · obtain ⟨n, rfl, k1, k2⟩ := h
    refine ⟨_, pss_one (ps_if (pt_not (pt_val (pe_call GW hr rfl T.within.at_ T.within.kp bW .nil pass0 (pa_cons (pv 0) (pa_cons pe_int (pa_cons (pe_op op_sub (pe_glob (v := .int 35) rfl hb ⟨_, rfl⟩) pe_int) pa_nil))))))
      (pss_one (L2N.ps_raise rfl (L2N.takes_of rfl rfl rfl rfl) (L2N.pmk_own PySem.F.excBase_ValueError T.bad.ex T.bad.at_ T.bad.kp (raises_own T.bad.sb T.bad.ty) rfl))) pss_nil), ?_⟩
    refine ⟨_, rfl, _, _, rfl, rfl, n, 0, 34, rfl, _, rfl, ?_⟩
    by_cases h : 0 ≤ n ∧ n ≤ 34
    · rw [decide_eq_true h.1, decide_eq_true h.2]
      exact iteF (k1 h.1 h.2)
    · have e : (decide (0 ≤ n) && decide (n ≤ 34)) = false := by
        rw [← Bool.not_eq_true, Bool.and_eq_true, decide_eq_true_eq, decide_eq_true_eq]
        exact h
      rw [e]
      exact iteT (k2 h)
/-! ### is_too_heavy -/
theorem scHeavy : FnScope ["what", "weight", "waiting", "part"] ["what"] (defScope sHeavy) := ⟨rfl, rfl, rfl, by decide +kernel, rfl, by decide +kernel, by decide +kernel⟩
def spHeavy : Sp := fun vs H Q _ => ∃ (v : V) (n x z : Nat), vs = [v] ∧ Dat H n v x z ∧ z ≤ 10000 ∧ ∀ G, Kp No H G → Q (.bl (decide (40 < (x : Int)))) G
theorem ok_heavy (T : Txt K mg A) : ∃ fd, FnOk P w K mg base CX0 1 A.heavy fd ["what"] spHeavy ∧ Binds K fd ["what"] [] := by
  obtain ⟨fd, F⟩ := T.heavy.fn
  obtain ⟨tb, hb⟩ := T.most
  refine ⟨fd, F.ok scHeavy (fun vs H Q E h => ?_) (fun cdv Ar outer s H vs Q E hr h => ?_), F.binds fun _ _ _ _ _ _ us hl => match us, hl with | [_], _ => rfl⟩
  · obtain ⟨v, n, x, z, rfl, _⟩ := h
    rfl
  · obtain ⟨v, n, x, z, rfl, hd, hz, k⟩ := h
    refine ⟨_, pss_cons (ps_set (i := 1) scHeavy.nd rfl (.inl rfl) pe_int) (pss_cons (ps_set (i := 2) scHeavy.nd rfl (.inl rfl) (pe_lst (pa_cons (pv 0) pa_nil)))
      (pss_cons (ps_while PassesOwn.never (PW.pt (pw_and (pt_truth (pv 2) (by intro _; rfl)) (pw_and1 (pt_cmpR op_le (pv 1) (pe_glob (v := .int 40) rfl hb ⟨_, rfl⟩) (nomark _)))))
        (pss_cons (ps_set (i := 3) scHeavy.nd rfl (.inl rfl) (pe_bm0 PySem.F.plainAttrs_list PySem.F.slot_list_pop PySem.F.type_list_pop mt_pop (pv 2)))
        (pss_one (ps_if (pt_val (pe_callB call_isi (by rfl) T.isinstance (by decide +kernel) (pa_cons (pv 3) (pa_cons (pe_bltn (v := .ty "tuple") (by rfl) T.tuple (by decide +kernel) rfl) pa_nil))))
          (pss_one (ps_expr (pe_bm PySem.F.plainAttrs_list PySem.F.slot_list_extend PySem.F.type_list_extend mt_extT (pv 2) (pa_cons (pv 3) pa_nil))))
          (pss_one (ps_aug (i := 1) scHeavy.nd rfl (.inl rfl) pe_int ip_add))))))
      (pss_one (ps_ret (pe_cmpR op_gt (pv 1) (pe_glob (v := .int 40) rfl hb ⟨_, rfl⟩) (nomark _)))))), ?_⟩
    refine ⟨v, rfl, Nat.le_trans (by show 1 ≤ 16777216; omega) (Nat.le_of_eq sizeLine_eq.symm), fun l hl => ?_⟩
    have dt : ∀ {l : Addr} {xs : List V} {m : Nat} {v : V} {a b : Nat}, H l = none → Dat H m v a b → Dat (upd H l (.lst xs)) m v a b := fun h d => d.kt (Kp.new (F := No) h).t
    refine ⟨fun m σ G => ∃ (xs : List V) (a : Nat) (wt : Int) (o : Option V), σ = [some v, some (.int wt), some (.ref l), o] ∧ G = upd H l (.lst xs) ∧ SumD (Dat H n) xs a m ∧ wt + a = x ∧ 0 ≤ wt ∧ m ≤ 10000, ⟨z, [v], x, 0, none, rfl, rfl, ⟨x, 0, z, 0, hd, ⟨rfl, rfl⟩, rfl, rfl⟩, by omega, by omega, hz⟩, ?_⟩
    rintro m σ G ⟨xs, a, wt, o, rfl, rfl, hs, hw, h0, hm⟩
    have fin : (∀ c : Bool, c = decide (40 < (x : Int)) → Q (.bl c) (upd H l (.lst xs))) := fun c e => by
      rw [e]
      exact k _ (Kp.new hl)
    -- while waiting and weight <= MOST_WEIGHT
    refine ⟨_, rfl, !xs.isEmpty, .inl ⟨xs, SqL.of upd_same, rfl⟩, ?_⟩
    rcases List.eq_nil_or_concat xs with rfl | ⟨ys, y, rfl⟩
    · -- none is waiting
      have ha : a = 0 := hs.1
      refine iteF (iteF ?_)
      exact ⟨_, rfl, _, _, rfl, rfl, fin _ (by rw [show (x : Int) = wt by omega])⟩
    · rw [show (!(ys.concat y).isEmpty) = true by simp]
      refine iteT ⟨_, rfl, _, _, rfl, rfl, _, rfl, ?_⟩
      refine ite2 (fun hle => ?_) (fun hgt => ?_)
      · rw [List.concat_eq_append] at hs ⊢
        obtain ⟨x1, a1, x2, a2, p1, ⟨x3, x4, a3, a4, p2, ⟨rfl, rfl⟩, rfl, rfl⟩, rfl, rfl⟩ := hs.of_app
        refine ⟨_, fun σ' G' q => q, ?_⟩
        -- part = waiting.pop()
        refine ⟨_, rfl, .inl ⟨rfl, _, SqL.of upd_same⟩, l, _, y, rfl, rfl, upd_same, by simp, ?_⟩
        rw [List.dropLast_concat, upd_upd]
        have hp3 := p2.pos
        cases n with
        | zero => exact p2.elim
        | succ n =>
          rcases p2 with ⟨lf, rfl, rfl⟩ | ⟨b, zs, u, rfl, hb', hs', rfl⟩
          · -- a leaf
            have ty : ∃ t, TyX K (upd H l (.lst ys)) y t ∧ PySem.W.kitOne K t (.type "tuple") = some false := by
              cases y with
              | non => exact ⟨_, .base .non, by rfl⟩
              | bl b => exact ⟨_, .base (.bl b), by rfl⟩
              | int i => exact ⟨_, .base (.int i), by rfl⟩
              | str z => exact ⟨_, .base (.str z), by rfl⟩
              | byt _ => cases lf
              | flt _ => cases lf
              | ref _ => cases lf
              | ty _ => cases lf
            obtain ⟨t, ty1, ty2⟩ := ty
            refine ⟨_, rfl, y, _, t, _, false, rfl, .ty "tuple", ty1, ty2, false, rfl, iteF ?_⟩
            refine ⟨_, rfl, wt, 1, rfl, rfl, a1, by omega, ys, x1, wt + 1, some y, rfl, rfl, p1, by omega, by omega, by omega⟩
          · -- a tuple
            have nbl : b ≠ l := ne_of_none hb' hl
            have hb2 : upd H l (.lst ys) b = some (.tup zs) := by rw [upd_ne nbl]; exact hb'
            have l1 := p1.len
            have l2 := hs'.len
            refine ⟨_, rfl, .ref b, _, _, _, true, rfl, .ty "tuple", .base (.tup hb2), by rfl, true, rfl, iteT ?_⟩
            refine ⟨_, rfl, .inl ⟨rfl, _, SqL.of upd_same⟩, _, rfl, l, b, ys, zs, rfl, rfl, upd_same, hb2, by rw [sizeLine_eq]; omega, ?_⟩
            rw [upd_upd]
            exact ⟨a1 + u, by omega, ys ++ zs, _, wt, _, rfl, rfl, p1.app (hs'.imp fun _ _ _ q => q.up), by omega, by omega, by omega⟩
      · have hgt : ¬ wt ≤ 40 := by simpa using hgt
        exact ⟨_, rfl, _, _, rfl, rfl, fin _ (by rw [decide_eq_true (show (40 : Int) < wt by omega), decide_eq_true (show (40 : Int) < x by omega)])⟩
end
end K5

set_option Elab.async false
set_option linter.all false
set_option maxRecDepth 100000
set_option maxHeartbeats 1000000
/-! ### 4. A disk: what it holds, and its methods -/
namespace K5
open PySem PySem.Spec PyProof.Rows L2
/-- what a disk (or the law's own telling of one) holds -/
structure M where
  sure : List V
  pend : List (Int × V)
  left : Option Int
  picks : List Bool
  run : Bool
def put1 (s : List V) (q : Int × V) : List V := s.set q.1.toNat q.2
def putAll (s : List V) (ps : List (Int × V)) : List V := ps.foldl put1 s
def putIf (s : List V) (ps : List ((Int × V) × Bool)) : List V := ps.foldl (fun s q => if q.2 then put1 s q.1 else s) s
def M.new : M := ⟨List.replicate 35 .non, [], none, [], true⟩
def M.stop (m : M) (bs : List Bool) : M := if m.run then ⟨putIf m.sure (m.pend.zip bs), [], m.left, m.picks, false⟩ else m
def M.again (m : M) : M := ⟨m.sure, [], none, [], true⟩
def M.arm (m : M) (n : Int) (bs : List Bool) : M := if m.run then ⟨m.sure, m.pend, some n, bs, m.run⟩ else m
/-- whether one more deed is done, and what is behind it -/
def M.count (m : M) : Bool × M := if m.run then (match m.left with
  | none => (true, m)
  | some l => if l ≤ 0 then (false, m.stop m.picks) else (true, ⟨m.sure, m.pend, some (l - 1), m.picks, m.run⟩)) else (false, m)
def M.settle (m : M) : M := ⟨putAll m.sure m.pend, [], m.left, m.picks, m.run⟩
def M.write (m : M) (b : Int) (v : V) : M := ⟨m.sure, m.pend ++ [(b, v)], m.left, m.picks, m.run⟩
theorem put1_len (s : List V) (q : Int × V) : (put1 s q).length = s.length := List.length_set ..
theorem putIf_len : ∀ (ps : List ((Int × V) × Bool)) (s : List V), (putIf s ps).length = s.length
  | [], _ => rfl
  | (q, b) :: ps, s => by
    show (putIf (if b then put1 s q else s) ps).length = _
    rw [putIf_len ps]
    cases b
    · rfl
    · exact put1_len s q
theorem putAll_len : ∀ (ps : List (Int × V)) (s : List V), (putAll s ps).length = s.length
  | [], _ => rfl
  | q :: ps, s => by
    show (putAll (put1 s q) ps).length = _
    rw [putAll_len ps, put1_len]
def optV : Option Int → V
  | none => .non
  | some l => .int l
def dfl (ls lu : Addr) (lf : V) (tp : Addr) (rn : Bool) (st : Int) : List (Str × V) := [("sure", .ref ls), ("unsure", .ref lu), ("deeds_left", lf), ("armed_picks", .ref tp), ("running", .bl rn), ("stops", .int st)]
section
variable (ls lu tp x : Addr) (lf v : V) (rn b : Bool) (st i : Int)
theorem l_sure : (dfl ls lu lf tp rn st).lookup ("sure" : Str) = some (.ref ls) := rfl
theorem l_uns : (dfl ls lu lf tp rn st).lookup ("unsure" : Str) = some (.ref lu) := rfl
theorem l_left : (dfl ls lu lf tp rn st).lookup ("deeds_left" : Str) = some lf := rfl
theorem l_picks : (dfl ls lu lf tp rn st).lookup ("armed_picks" : Str) = some (.ref tp) := rfl
theorem l_run : (dfl ls lu lf tp rn st).lookup ("running" : Str) = some (.bl rn) := rfl
theorem l_stops : (dfl ls lu lf tp rn st).lookup ("stops" : Str) = some (.int st) := rfl
theorem p_uns : putF "unsure" (.ref x) (dfl ls lu lf tp rn st) = dfl ls x lf tp rn st := rfl
theorem p_left : putF "deeds_left" v (dfl ls lu lf tp rn st) = dfl ls lu v tp rn st := rfl
theorem p_picks : putF "armed_picks" (.ref x) (dfl ls lu lf tp rn st) = dfl ls lu lf x rn st := rfl
theorem p_run : putF "running" (.bl b) (dfl ls lu lf tp rn st) = dfl ls lu lf tp b st := rfl
theorem p_stops : putF "stops" (.int i) (dfl ls lu lf tp rn st) = dfl ls lu lf tp rn i := rfl
end
def PairOf (H : Hp) (v : V) (q : Int × V) : Prop := ∃ t, v = .ref t ∧ H t = some (.tup [.int q.1, q.2])
def PairsAt (H : Hp) (rs : List V) (ps : List (Int × V)) : Prop := Paired (PairOf H) rs ps
theorem PairsAt.kt {F : Addr → Prop} {H G : Hp} (k : Kt F H G) {rs : List V} {ps : List (Int × V)} (p : PairsAt H rs ps) : PairsAt G rs ps := Paired.mapP p fun _ _ ⟨t, e, h⟩ => ⟨t, e, k.tup h⟩
/-- a Disk at p: its blocks at ls, what isn't settled at lu -/
structure DiskAt (A : Ad) (H : Hp) (p ls lu : Addr) (m : M) : Prop where
  ex : ∃ (dx tp : Addr) (st : Int), H p = some (.ins A.disk dx (dfl ls lu (optV m.left) tp m.run st)) ∧ H tp = some (.tup (m.picks.map V.bl))
  sure : H ls = some (.lst m.sure)
  uns : ∃ rs, H lu = some (.lst rs) ∧ PairsAt H rs m.pend
  ne : ls ≠ lu
def dF (p ls lu : Addr) : Addr → Prop := fun b => b = p ∨ b = ls ∨ b = lu
theorem DiskAt.kt {A : Ad} {F : Addr → Prop} {H G : Hp} {p ls lu : Addr} {m : M} (k : Kt F H G) (d : DiskAt A H p ls lu m) (n : ∀ b, F b → ¬ dF p ls lu b) : DiskAt A G p ls lu m := by
  obtain ⟨dx, tp, st, h1, h2⟩ := d.ex
  obtain ⟨rs, h3, h4⟩ := d.uns
  exact ⟨⟨dx, tp, st, k.ins h1 fun z => n _ z (.inl rfl), k.tup h2⟩, k.lst d.sure fun z => n _ z (.inr (.inl rfl)), ⟨rs, k.lst h3 fun z => n _ z (.inr (.inr rfl)), h4.kt k⟩, d.ne⟩
/-- all that is to be known of the numbers in it -/
structure Good (m : M) : Prop where
  len : m.sure.length = 35
  blk : ∀ q ∈ m.pend, 0 ≤ q.1 ∧ q.1 ≤ 34
  few : m.pend.length ≤ 1000
  fal : m.run = false → m.pend = []
  nat : ∀ l, m.left = some l → 0 ≤ l
end K5

set_option Elab.async false
set_option linter.all false
set_option maxRecDepth 100000
set_option maxHeartbeats 1000000
namespace K5
open PySem PySem.Spec PyProof.Rows L2
section
variable {P : Program} {w : World} {K : PySem.W.Frag} {mg : Str → Option Value} {base : Heap} {A : Ad}
theorem sz (n : Nat) (h : n ≤ 16777216) : n ≤ sizeLine := by rw [sizeLine_eq]; exact h
/-! ### Disk() -/
theorem scDk0 : FnScope ["self"] ["self"] (defScope (sDk 0)) := ⟨rfl, rfl, rfl, by decide +kernel, rfl, by decide +kernel, by decide +kernel⟩
def spDk0 (A : Ad) : Sp := fun vs H Q _ => ∃ p dx, vs = [.ref p] ∧ H p = some (.ins A.disk dx []) ∧ ∀ G ls lu, H ls = none → H lu = none → DiskAt A G p ls lu M.new → Kp (fun b => b = p) H G → Q .non G
theorem ok_dk0 (T : Txt K mg A) : ∃ fd, FnOk P w K mg base CX0 1 (A.dm 0) fd ["self"] (spDk0 A) ∧ Binds K fd ["self"] [] := by
  obtain ⟨fd, F⟩ := T.m0.fn
  obtain ⟨tb, hb⟩ := T.blocks
  refine ⟨fd, F.ok scDk0 (fun vs H Q E h => ?_) (fun cdv Ar outer s H vs Q E hr h => ?_), F.binds fun _ _ _ _ _ _ us hl => match us, hl with | [_], _ => rfl⟩
  · obtain ⟨p, dx, rfl, _⟩ := h
    rfl
  · obtain ⟨p, dx, rfl, hp, k⟩ := h
    refine ⟨_, pss_cons (ps_fld (pv 0) (pe_op op_rep (pe_lst (pa_cons pe_non pa_nil)) (pe_glob (v := .int 35) rfl hb ⟨_, rfl⟩)) rfl) (pss_cons (ps_fld (pv 0) (pe_lst pa_nil) rfl)
      (pss_cons (ps_fld (pv 0) pe_non rfl) (pss_cons (ps_fld (pv 0) (pe_tup pa_nil) rfl) (pss_cons (ps_fld (pv 0) pe_bl rfl) (pss_one (ps_fld (pv 0) pe_int rfl)))))), ?_⟩
    -- self.sure = [None] * BLOCKS
    refine ⟨sz _ (by decide), fun l0 n0 => ⟨l0, 35, _, rfl, rfl, upd_same, by decide, by decide, sz _ (by decide), fun ls nls => ?_⟩⟩
    have np0 : p ≠ l0 := ne_of_none hp n0
    obtain ⟨nl0s, hls⟩ := upd_none nls
    have nps : p ≠ ls := ne_of_none hp hls
    refine ⟨_, rfl, p, A.disk, dx, [], rfl, by rw [upd_ne nps, upd_ne np0]; exact hp, T.cl, T.nSure, by show 0 < 1000; decide, ?_⟩
    -- self.unsure = []
    refine ⟨Nat.zero_le _, fun lu nlu => ?_⟩
    obtain ⟨npu, nlu⟩ := upd_none nlu
    obtain ⟨nsu, nlu⟩ := upd_none nlu
    obtain ⟨n0u, hlu⟩ := upd_none nlu
    refine ⟨_, rfl, p, A.disk, dx, _, rfl, by rw [upd_ne npu.symm, upd_same], T.cl, T.nUns, by show 1 < 1000; decide, ?_⟩
    -- self.deeds_left = None
    refine ⟨_, rfl, p, A.disk, dx, _, rfl, upd_same, T.cl, T.nLeft, by show 2 < 1000; decide, ?_⟩
    -- self.armed_picks = ()
    refine ⟨Nat.zero_le _, fun tp ntp => ?_⟩
    obtain ⟨npt, ntp⟩ := upd_none ntp
    obtain ⟨_, ntp⟩ := upd_none ntp
    obtain ⟨nut, ntp⟩ := upd_none ntp
    obtain ⟨_, ntp⟩ := upd_none ntp
    obtain ⟨nst, ntp⟩ := upd_none ntp
    obtain ⟨n0t, htp⟩ := upd_none ntp
    refine ⟨_, rfl, p, A.disk, dx, _, rfl, by rw [upd_ne npt.symm, upd_same], T.cl, T.nPicks, by show 3 < 1000; decide, _, rfl, p, A.disk, dx, _, rfl, upd_same, T.cl, T.nRun, by show 4 < 1000; decide, _, rfl, p, A.disk, dx, _, rfl, upd_same, T.cl, T.nStops, by show 5 < 1000; decide, ?_⟩
    refine k _ ls lu hls hlu ⟨⟨dx, tp, 0, upd_same, ?_⟩, ?_, ⟨[], ?_, .nil⟩, nsu.symm⟩ ?_
    · rw [upd_ne npt, upd_ne npt, upd_ne npt, upd_same]
      rfl
    · rw [upd_ne nps.symm, upd_ne nps.symm, upd_ne nps.symm, upd_ne nst.symm, upd_ne nps.symm, upd_ne nps.symm, upd_ne nsu.symm, upd_ne nps.symm, upd_same]
      rfl
    · rw [upd_ne npu, upd_ne npu, upd_ne npu, upd_ne nut.symm, upd_ne npu, upd_ne npu, upd_same]
    · intro b o e n
      by_cases hbp : b = p
      · subst hbp
        rw [hp] at e
        cases e
        exact (n trivial rfl).elim
      · rw [upd_ne hbp, upd_ne hbp, upd_ne hbp, upd_ne (ne_of_none e htp), upd_ne hbp, upd_ne hbp, upd_ne (ne_of_none e hlu), upd_ne hbp, upd_ne (ne_of_none e hls), upd_ne (ne_of_none e n0)]
        exact e
/-! ### check_running -/
theorem scDk8 : FnScope ["self"] ["self"] (defScope (sDk 8)) := ⟨rfl, rfl, rfl, by decide +kernel, rfl, by decide +kernel, by decide +kernel⟩
def spDk8 (A : Ad) : Sp := fun vs H Q E => ∃ p ls lu m, vs = [.ref p] ∧ DiskAt A H p ls lu m ∧ (m.run = true → Q .non H) ∧ (m.run = false → E (.ref A.stopped) none H)
theorem ok_dk8 (T : Txt K mg A) : ∃ fd, FnOk P w K mg base (L2N.CX P w) 1 (A.dm 8) fd ["self"] (spDk8 A) ∧ Binds K fd ["self"] [] := by
  obtain ⟨fd, F⟩ := T.m8.fn
  refine ⟨fd, okN F scDk8 (fun vs H Q E h => ?_) (fun cdv Ar outer s H vs Q E hr h => ?_), F.binds fun _ _ _ _ _ _ us hl => match us, hl with | [_], _ => rfl⟩
  · obtain ⟨p, ls, lu, m, rfl, _⟩ := h
    rfl
  · obtain ⟨p, ls, lu, m, rfl, D, k1, k2⟩ := h
    obtain ⟨dx, tp, st, h1, h2⟩ := D.ex
    refine ⟨_, pss_one (ps_if (pt_not (pt_val (pe_fld (pv 0) rfl))) (pss_one (L2N.ps_raise rfl (L2N.takes_of rfl rfl rfl rfl) (L2N.pmk_own PySem.F.excBase_ValueError T.stopped.ex T.stopped.at_ T.stopped.kp (raises_own T.stopped.sb T.stopped.ty) rfl))) pss_nil), ?_⟩
    refine ⟨_, rfl, p, A.disk, dx, _, _, rfl, h1, T.cl, T.nRun, l_run .., _, rfl, ?_⟩
    cases e : m.run with
    | true => exact iteF (k1 e)
    | false => exact iteT (k2 e)
end
end K5

set_option Elab.async false
set_option linter.all false
set_option maxRecDepth 100000
set_option maxHeartbeats 1000000
namespace K5
open PySem PySem.Spec PyProof.Rows L2
theorem Paired.at {α β : Type} {R : α → β → Prop} : ∀ {xs : List α} {ys : List β}, Paired R xs ys → ∀ {i : Nat} {x : α}, xs[i]? = some x → ∃ y, ys[i]? = some y ∧ R x y
  | _, _, .nil, i, x, h => by simp at h
  | _, _, .cons r t, 0, x, h => by
    cases (Option.some.inj h)
    exact ⟨_, rfl, r⟩
  | _, _, .cons r t, i + 1, x, h => by
    obtain ⟨y, h1, h2⟩ := Paired.at t (i := i) (by simpa using h)
    exact ⟨y, by simpa using h1, h2⟩
theorem take_succ_of {α : Type} {xs : List α} {i : Nat} {x : α} (h : xs[i]? = some x) : xs.take (i + 1) = xs.take i ++ [x] := by
  rw [List.take_succ, h]
  rfl
theorem putIf_app (s : List V) (ps : List ((Int × V) × Bool)) (q : (Int × V) × Bool) : putIf s (ps ++ [q]) = if q.2 then put1 (putIf s ps) q.1 else putIf s ps := by
  unfold putIf
  rw [List.foldl_append]
  rfl
theorem putAll_app (s : List V) (ps : List (Int × V)) (q : Int × V) : putAll s (ps ++ [q]) = put1 (putAll s ps) q := by
  unfold putAll
  rw [List.foldl_append]
  rfl
theorem ixN_in {n : Nat} {i : Int} (h0 : 0 ≤ i) (h1 : i < n) : ixN n i = some i.toNat := by
  unfold ixN
  rw [if_pos h0, if_pos h1]
section
variable {P : Program} {w : World} {K : PySem.W.Frag} {mg : Str → Option Value} {base : Heap} {A : Ad}
/-! ### stop -/
theorem scDk5 : FnScope ["self", "picks", "block", "what", "pick"] ["self", "picks"] (defScope (sDk 5)) := ⟨rfl, rfl, rfl, by decide +kernel, rfl, by decide +kernel, by decide +kernel⟩
/-- a list or a tuple of truths -/
def BoolsAt (H : Hp) (b : Addr) (bs : List Bool) : Prop := H b = some (.lst (bs.map V.bl)) ∨ H b = some (.tup (bs.map V.bl))
def spDk5 (A : Ad) : Sp := fun vs H Q _ => ∃ p ls lu m b bs, vs = [.ref p, .ref b] ∧ DiskAt A H p ls lu m ∧ Good m ∧ BoolsAt H b bs ∧ b ≠ ls ∧
  ∀ G lu', (lu' = lu ∨ H lu' = none) → DiskAt A G p ls lu' (m.stop bs) → Kp (dF p ls lu) H G → Q .non G
theorem stop_body {H : Hp} {p ls lu tp dx b : Addr} {st : Int} {rn : Bool} {m : M} {bs : List Bool} {lf : V} (h1 : H p = some (.ins A.disk dx (dfl ls lu lf tp rn st))) (hs : H ls = some (.lst m.sure)) (T : Txt K mg A) (Gm : Good m) (nps : p ≠ ls) {D' : Ends} :
    ∀ (i : Nat) (q : Int × V) (c : Bool) (σ : L2.St) (G : Hp), m.pend[i]? = some q → bs[i]? = some c → (∃ o1 o2 o3, σ = [some (.ref p), some (.ref b), o1, o2, o3]) → Kp (fun b => b = ls) H G → G ls = some (.lst (putIf m.sure ((m.pend.zip bs).take i))) →
      ∀ (nx : L2.St → Hp → Prop), (∀ (σ' : L2.St) (G' : Hp), (∃ o1 o2 o3, σ' = [some (.ref p), some (.ref b), o1, o2, o3]) → Kp (fun b => b = ls) H G' → G' ls = some (.lst (putIf m.sure ((m.pend.zip bs).take (i + 1)))) → nx σ' G') →
      tIfS (tB (tVar 4)) (tAsg (tVar 3) (gSub (tFld K (tVar 0) "sure") (tVar 2) rSetL)) tNext { D' with nx := nx, ct := nx, bk := D'.nx } [some (.ref p), some (.ref b), some (.int q.1), some q.2, some (.bl c)] G := by
  intro i q c σ G hq hc _ kp hls nx hnx
  have hz : (m.pend.zip bs)[i]? = some (q, c) := by rw [List.getElem?_zip_eq_some]; exact ⟨hq, hc⟩
  have e1 := take_succ_of hz
  refine ⟨_, rfl, _, rfl, ?_⟩
  cases c with
  | false =>
    refine iteF (hnx _ _ ⟨_, _, _, rfl⟩ kp ?_)
    rw [e1, putIf_app]
    exact hls
  | true =>
    refine iteT ?_
    have hr := Gm.blk q (List.mem_of_getElem? hq)
    have hl : (putIf m.sure ((m.pend.zip bs).take i)).length = 35 := by rw [putIf_len, Gm.len]
    refine ⟨_, rfl, _, rfl, p, A.disk, dx, _, _, rfl, kp.t.ins h1 nps, T.cl, T.nSure, l_sure .., _, rfl, ls, _, q.1, q.1.toNat, rfl, rfl, hls, ixN_in hr.1 (by rw [hl]; omega), ?_⟩
    refine hnx _ _ ⟨_, _, _, rfl⟩ (kp.trans (Kp.upd (F := fun b => b = ls) hls trivial rfl) fun _ z => .inl z) ?_
    rw [upd_same, e1, putIf_app]
    rfl
theorem stop_fin {H : Hp} {p ls lu tp dx b : Addr} {st : Int} {m : M} {bs : List Bool} {rs : List V} {Q : VK} (h1 : H p = some (.ins A.disk dx (dfl ls lu (optV m.left) tp true st))) (h2 : H tp = some (.tup (m.picks.map V.bl))) (h3 : H lu = some (.lst rs)) (D : DiskAt A H p ls lu m) (T : Txt K mg A) (nps : p ≠ ls) (npu : p ≠ lu)
    (em : m.stop bs = ⟨putIf m.sure (m.pend.zip bs), [], m.left, m.picks, false⟩) (k : ∀ G lu', (lu' = lu ∨ H lu' = none) → DiskAt A G p ls lu' (m.stop bs) → Kp (dF p ls lu) H G → Q .non G) :
    ∀ (σ : L2.St) (G : Hp), (∃ o1 o2 o3, σ = [some (.ref p), some (.ref b), o1, o2, o3]) → Kp (fun b => b = ls) H G → G ls = some (.lst (putIf m.sure (m.pend.zip bs))) →
      tSeq (sFld K (tVar 0) (tLst tNil) "unsure") (tSeq (sFld K (tVar 0) (tC (.bl false)) "running") (sFldAug K (tVar 0) (tC (.int 1)) rAdd "stops")) { nx := fun _ G => Q .non G, rt := Q } σ G := by
  rintro σ G ⟨o1, o2, o3, rfl⟩ kp hls
  have g1 := kp.t.ins h1 nps
  refine ⟨Nat.zero_le _, fun lu' nlu => ?_⟩
  have npl : p ≠ lu' := ne_of_none g1 nlu
  have nsl : ls ≠ lu' := ne_of_none hls nlu
  refine ⟨_, rfl, p, A.disk, dx, _, rfl, by rw [upd_ne npl]; exact g1, T.cl, T.nUns, by show 6 < 1000; decide, ?_⟩
  refine ⟨_, rfl, p, A.disk, dx, _, rfl, upd_same, T.cl, T.nRun, by show 6 < 1000; decide, ?_⟩
  refine ⟨_, rfl, p, A.disk, dx, _, _, rfl, upd_same, T.cl, T.nStops, rfl, _, _, rfl, rfl, dx, _, upd_same, by show 6 < 1000; decide, ?_⟩
  have nH : H lu' = none := by
    cases e : H lu' with
    | none => rfl
    | some o =>
      by_cases z : lu' = ls
      · exact absurd z.symm nsl
      · rw [kp lu' o e fun _ => z] at nlu
        cases nlu
  have ntp : tp ≠ p := ne_of h2 h1 (by intro z; cases z)
  have ntl : tp ≠ lu' := ne_of_none h2 nH
  refine k _ lu' (.inr nH) ?_ ?_
  · rw [em]
    refine ⟨⟨dx, tp, st + 1, upd_same, ?_⟩, ?_, ⟨[], ?_, .nil⟩, nsl⟩
    · rw [upd_ne ntp, upd_ne ntp, upd_ne ntp, upd_ne ntl]
      exact kp.t.tup h2
    · rw [upd_ne nps.symm, upd_ne nps.symm, upd_ne nps.symm, upd_ne nsl]
      exact hls
    · rw [upd_ne npl.symm, upd_ne npl.symm, upd_ne npl.symm, upd_same]
  · have m1 : Kp (dF p ls lu) H G := kp.sub fun b z => .inr (.inl z)
    have g2 : upd G lu' (.lst []) p = _ := (upd_ne npl).trans g1
    exact ((((m1.andN nlu).andI g2 (.inl rfl)).andI upd_same (.inl rfl)).andI upd_same (.inl rfl))
theorem ok_dk5 (T : Txt K mg A) : ∃ fd, FnOk P w K mg base CX0 1 (A.dm 5) fd ["self", "picks"] (spDk5 A) ∧ Binds K fd ["self", "picks"] [] := by
  obtain ⟨fd, F⟩ := T.m5.fn
  refine ⟨fd, F.ok scDk5 (fun vs H Q E h => ?_) (fun cdv Ar outer s H vs Q E hr h => ?_), F.binds fun _ _ _ _ _ _ us hl => match us, hl with | [_, _], _ => rfl⟩
  · obtain ⟨p, ls, lu, m, b, bs, rfl, _⟩ := h
    rfl
  · obtain ⟨p, ls, lu, m, b, bs, rfl, D, Gm, hB, hbl, k⟩ := h
    obtain ⟨dx, tp, st, h1, h2⟩ := D.ex
    obtain ⟨rs, h3, h4⟩ := D.uns
    have nps : p ≠ ls := ne_of h1 D.sure (by intro z; cases z)
    have npu : p ≠ lu := ne_of h1 h3 (by intro z; cases z)
    refine ⟨_, pss_cons (ps_if (pt_not (pt_val (pe_fld (pv 0) rfl))) (pss_one ps_retN) pss_nil)
      (pss_cons (ps_for PassesOwn.never rfl (pi_zipM (by rfl) T.zip (pa_cons (pe_fld (pv 0) rfl) (pa_cons (pv 1) pa_nil)))
          (pg_tup rfl (pgs_cons (pg_tup rfl (pgs_cons (pg_name (i := 2) scDk5.nd rfl (Or.inl rfl)) (pgs_cons (pg_name (i := 3) scDk5.nd rfl (Or.inl rfl)) pgs_nil))) (pgs_cons (pg_name (i := 4) scDk5.nd rfl (Or.inl rfl)) pgs_nil)))
          (pss_one (ps_if (pt_val (pv 4)) (pss_one (ps_asg (pv 3) (pg_sub (pe_fld (pv 0) rfl) (pv 2) set_list))) pss_nil)))
      (pss_cons (ps_fld (pv 0) (pe_lst pa_nil) rfl) (pss_cons (ps_fld (pv 0) pe_bl rfl) (pss_one (ps_fldaug (pv 0) pe_int in_add))))), ?_⟩
    refine ⟨_, rfl, p, A.disk, dx, _, _, rfl, h1, T.cl, T.nRun, l_run .., _, rfl, ?_⟩
    cases er : m.run with
    | false =>
      refine iteT ?_
      have em : m.stop bs = m := by
        unfold M.stop
        rw [er]
        rfl
      exact k H lu (.inl rfl) (by rw [em]; exact D) (Kp.refl _ _)
    | true =>
      refine iteF ?_
      have em : m.stop bs = ⟨putIf m.sure (m.pend.zip bs), [], m.left, m.picks, false⟩ := by
        unfold M.stop
        rw [er]
        rfl
      rw [er] at h1
      -- for (block, what), pick in zip(self.unsure, picks)
      refine ⟨_, rfl, p, A.disk, dx, _, _, rfl, h1, T.cl, T.nUns, l_uns .., _, rfl, ?_⟩
      have hq : ∀ {G : Hp}, Kp (fun b => b = ls) H G → SqL K G lu rs ∧ (SqL K G b (bs.map V.bl) ∨ SqT K G b (bs.map V.bl)) := fun {G} kp =>
        ⟨SqL.of (kp.t.lst h3 fun z => D.ne z.symm), hB.elim (fun e => .inl (SqL.of (kp.t.lst e hbl))) fun e => .inr (SqT.of (kp.t.tup e))⟩
      have key : ∀ (sq : Hp → Prop), (∀ {G : Hp}, Kp (fun b => b = ls) H G → sq G) → ∀ (tb : TS) (D' : Ends), (∀ (i : Nat) (q : Int × V) (c : Bool) (σ : L2.St) (G : Hp), m.pend[i]? = some q → bs[i]? = some c → (∃ o1 o2 o3, σ = [some (.ref p), some (.ref b), o1, o2, o3]) → Kp (fun b => b = ls) H G → G ls = some (.lst (putIf m.sure ((m.pend.zip bs).take i))) →
            ∀ (nx : L2.St → Hp → Prop), (∀ (σ' : L2.St) (G' : Hp), (∃ o1 o2 o3, σ' = [some (.ref p), some (.ref b), o1, o2, o3]) → Kp (fun b => b = ls) H G' → G' ls = some (.lst (putIf m.sure ((m.pend.zip bs).take (i + 1)))) → nx σ' G') →
            tb { D' with nx := nx, ct := nx, bk := D'.nx } [some (.ref p), some (.ref b), some (.int q.1), some q.2, some (.bl c)] G) →
          (∀ (σ : L2.St) (G : Hp), (∃ o1 o2 o3, σ = [some (.ref p), some (.ref b), o1, o2, o3]) → Kp (fun b => b = ls) H G → G ls = some (.lst (putIf m.sure (m.pend.zip bs))) → D'.nx σ G) →
          ∃ W : Nat → Nat → L2.St → Hp → Prop, (∃ m', W 0 m' (L2.start ["self", "picks", "block", "what", "pick"] [.ref p, .ref b]) H) ∧ ∀ i m' σ G, W i m' σ G →
            ((ItM K lu sq rs (bs.map V.bl)).stop i G ∧ D'.nx σ G) ∨ ((ItM K lu sq rs (bs.map V.bl)).go i G ∧ ∃ N : L2.St → Hp → Prop, (∀ σ' H', N σ' H' → ∃ m'', m'' < m' ∧ W (i + 1) m'' σ' H') ∧ ∀ v H', (ItM K lu sq rs (bs.map V.bl)).yld i G v H' →
              gTup K 2 (gCons (gTup K 2 (gCons (gName 2) (gCons (gName 3) gNil))) (gCons (gName 4) gNil)) v σ H' fun σ2 H2 => tb { D' with nx := N, ct := N, bk := D'.nx } σ2 H2) := by
        intro sq hsq tb D' hbody hend
        refine for_zipM (fun i σ G => (∃ o1 o2 o3, σ = [some (.ref p), some (.ref b), o1, o2, o3]) ∧ Kp (fun b => b = ls) H G ∧ G ls = some (.lst (putIf m.sure ((m.pend.zip bs).take i)))) ⟨⟨none, none, none, rfl⟩, Kp.refl _ _, by rw [List.take_zero]; exact D.sure⟩ (fun i σ G ⟨_, kp, _⟩ => ⟨(hq kp).1, hsq kp⟩) ?_ ?_
        · rintro i x y Tn σ G hx hy ⟨⟨o1, o2, o3, rfl⟩, kp, hls⟩ hT
          obtain ⟨q, hq1, t, rfl, ht⟩ := Paired.at h4 hx
          obtain ⟨c, hc, rfl⟩ : ∃ c, bs[i]? = some c ∧ y = V.bl c := by
            rw [List.getElem?_map] at hy
            cases e : bs[i]? with
            | none =>
              rw [e] at hy
              cases hy
            | some c =>
              rw [e] at hy
              exact ⟨c, rfl, (Option.some.inj hy).symm⟩
          have kn : Kp (fun b => b = ls) H (upd G Tn (.tup [.ref t, .bl c])) := kp.trans (Kp.new (F := No) hT) fun _ z => z.elim
          refine ⟨Tn, _, rfl, SqT.of upd_same, rfl, _, _, rfl, ⟨t, _, rfl, SqT.of (kn.t.tup ht), rfl, _, _, rfl, _, _, rfl, rfl, ?_⟩⟩
          refine ⟨_, _, rfl, rfl, ?_⟩
          refine hbody i q c [some (.ref p), some (.ref b), some (.int q.1), some q.2, some (.bl c)] _ hq1 hc ⟨_, _, _, rfl⟩ kn (by rw [upd_ne (ne_of_none hls hT)]; exact hls) _ fun σ' G' a1 a2 a3 => ⟨a1, a2, a3⟩
        · rintro σ G ⟨a1, a2, a3⟩
          refine hend σ G a1 a2 ?_
          have e : (m.pend.zip bs).take (min rs.length (bs.map V.bl).length) = m.pend.zip bs := by
            refine List.take_of_length_le ?_
            rw [List.length_zip, List.length_map, Paired.length h4]
            exact Nat.le_refl _
          rw [e] at a3
          exact a3
      refine ⟨lu, b, rs, bs.map V.bl, rfl, (hq (Kp.refl _ _)).1, ?_⟩
      rcases hB with e | e
      · refine .inl ⟨SqL.of e, key _ (fun {G} kp => SqL.of (kp.t.lst e hbl)) _ _ ?body ?fin⟩
        case body => exact stop_body h1 D.sure T Gm nps
        case fin => exact stop_fin h1 h2 h3 D T nps npu em k
      · refine .inr ⟨SqT.of e, key _ (fun {G} kp => SqT.of (kp.t.tup e)) _ _ ?body ?fin⟩
        case body => exact stop_body h1 D.sure T Gm nps
        case fin => exact stop_fin h1 h2 h3 D T nps npu em k
end
end K5

set_option Elab.async false
set_option linter.all false
set_option maxRecDepth 100000
set_option maxHeartbeats 1000000
namespace K5
open PySem PySem.Spec PyProof.Rows L2
section
variable {P : Program} {w : World} {K : PySem.W.Frag} {mg : Str → Option Value} {base : Heap} {A : Ad}
/-! ### arm -/
theorem scDk4 : FnScope ["self", "deeds", "picks"] ["self", "deeds", "picks"] (defScope (sDk 4)) := ⟨rfl, rfl, rfl, by decide +kernel, rfl, by decide +kernel, by decide +kernel⟩
def spDk4 (A : Ad) : Sp := fun vs H Q _ => ∃ p ls lu m n b bs, vs = [.ref p, .int n, .ref b] ∧ DiskAt A H p ls lu m ∧ H b = some (.lst (bs.map V.bl)) ∧
  ∀ G, DiskAt A G p ls lu (m.arm n bs) → Kp (dF p ls lu) H G → Q .non G
theorem ok_dk4 (T : Txt K mg A) : ∃ fd, FnOk P w K mg base CX0 1 (A.dm 4) fd ["self", "deeds", "picks"] (spDk4 A) ∧ Binds K fd ["self", "deeds", "picks"] [] := by
  obtain ⟨fd, F⟩ := T.m4.fn
  refine ⟨fd, F.ok scDk4 (fun vs H Q E h => ?_) (fun cdv Ar outer s H vs Q E hr h => ?_), F.binds fun _ _ _ _ _ _ us hl => match us, hl with | [_, _, _], _ => rfl⟩
  · obtain ⟨p, ls, lu, m, n, b, bs, rfl, _⟩ := h
    rfl
  · obtain ⟨p, ls, lu, m, n, b, bs, rfl, D, hB, k⟩ := h
    obtain ⟨dx, tp, st, h1, h2⟩ := D.ex
    obtain ⟨rs, h3, h4⟩ := D.uns
    have nps : p ≠ ls := ne_of h1 D.sure (by intro z; cases z)
    have npu : p ≠ lu := ne_of h1 h3 (by intro z; cases z)
    refine ⟨_, pss_one (ps_if (pt_val (pe_fld (pv 0) rfl)) (pss_cons (ps_fld (pv 0) (pv 1) rfl)
      (pss_one (ps_fld (pv 0) (pe_callTy call_tuple_of (by rfl) T.tuple (by decide +kernel) (pa_cons (pv 2) pa_nil)) rfl))) pss_nil), ?_⟩
    refine ⟨_, rfl, p, A.disk, dx, _, _, rfl, h1, T.cl, T.nRun, l_run .., _, rfl, ?_⟩
    cases er : m.run with
    | false =>
      have em : m.arm n bs = m := by unfold M.arm; rw [er]; rfl
      exact iteF (k H (by rw [em]; exact D) (Kp.refl _ _))
    | true =>
      rw [er] at h1
      have em : m.arm n bs = ⟨m.sure, m.pend, some n, bs, true⟩ := by unfold M.arm; rw [er]; rfl
      have nbp : b ≠ p := ne_of hB h1 (by intro z; cases z)
      refine iteT ⟨_, rfl, _, rfl, p, A.disk, dx, _, rfl, h1, T.cl, T.nLeft, by show 6 < 1000; decide, ?_⟩
      refine ⟨_, rfl, b, _, rfl, .inl ⟨SqL.of (by rw [upd_ne nbp]; exact hB), fun t nt => ?_⟩⟩
      obtain ⟨npt, nt⟩ := upd_none nt
      refine ⟨_, rfl, p, A.disk, dx, _, rfl, by rw [upd_ne npt.symm, upd_same], T.cl, T.nPicks, by show 6 < 1000; decide, ?_⟩
      refine k _ ?_ (((Kp.updI (F := dF p ls lu) h1 (.inl rfl)).andN (by rw [upd_ne npt]; exact nt)).andI (by rw [upd_ne npt.symm, upd_same]) (.inl rfl))
      rw [em]
      refine ⟨⟨dx, t, st, upd_same, by rw [upd_ne npt, upd_same]⟩, ?_, ⟨rs, ?_, ?_⟩, D.ne⟩
      · rw [upd_ne nps.symm, upd_ne (ne_of_none D.sure nt), upd_ne nps.symm]
        exact D.sure
      · rw [upd_ne npu.symm, upd_ne (ne_of_none h3 nt), upd_ne npu.symm]
        exact h3
      · exact h4.kt (((Kp.updI (F := dF p ls lu) h1 (.inl rfl)).andN (by rw [upd_ne npt]; exact nt)).andI (by rw [upd_ne npt.symm, upd_same]) (.inl rfl)).t
/-! ### again -/
theorem scDk6 : FnScope ["self"] ["self"] (defScope (sDk 6)) := ⟨rfl, rfl, rfl, by decide +kernel, rfl, by decide +kernel, by decide +kernel⟩
def spDk6 (A : Ad) : Sp := fun vs H Q _ => ∃ p ls lu m, vs = [.ref p] ∧ DiskAt A H p ls lu m ∧ ∀ G lu', H lu' = none → DiskAt A G p ls lu' m.again → Kp (dF p ls lu) H G → Q .non G
theorem ok_dk6 (T : Txt K mg A) : ∃ fd, FnOk P w K mg base CX0 1 (A.dm 6) fd ["self"] (spDk6 A) ∧ Binds K fd ["self"] [] := by
  obtain ⟨fd, F⟩ := T.m6.fn
  refine ⟨fd, F.ok scDk6 (fun vs H Q E h => ?_) (fun cdv Ar outer s H vs Q E hr h => ?_), F.binds fun _ _ _ _ _ _ us hl => match us, hl with | [_], _ => rfl⟩
  · obtain ⟨p, ls, lu, m, rfl, _⟩ := h
    rfl
  · obtain ⟨p, ls, lu, m, rfl, D, k⟩ := h
    obtain ⟨dx, tp, st, h1, h2⟩ := D.ex
    have nps : p ≠ ls := ne_of h1 D.sure (by intro z; cases z)
    refine ⟨_, pss_cons (ps_fld (pv 0) (pe_lst pa_nil) rfl) (pss_cons (ps_fld (pv 0) pe_non rfl) (pss_cons (ps_fld (pv 0) (pe_tup pa_nil) rfl) (pss_one (ps_fld (pv 0) pe_bl rfl)))), ?_⟩
    refine ⟨Nat.zero_le _, fun l nl => ?_⟩
    have npl : p ≠ l := ne_of_none h1 nl
    refine ⟨_, rfl, p, A.disk, dx, _, rfl, by rw [upd_ne npl]; exact h1, T.cl, T.nUns, by show 6 < 1000; decide, _, rfl, p, A.disk, dx, _, rfl, upd_same, T.cl, T.nLeft, by show 6 < 1000; decide, ?_⟩
    refine ⟨Nat.zero_le _, fun t nt0 => ?_⟩
    obtain ⟨npt, nt⟩ := upd_none nt0
    obtain ⟨_, nt⟩ := upd_none nt
    obtain ⟨nlt, nt⟩ := upd_none nt
    refine ⟨_, rfl, p, A.disk, dx, _, rfl, by rw [upd_ne npt.symm, upd_same], T.cl, T.nPicks, by show 6 < 1000; decide, _, rfl, p, A.disk, dx, _, rfl, upd_same, T.cl, T.nRun, by show 6 < 1000; decide, ?_⟩
    refine k _ l nl ⟨⟨dx, t, st, upd_same, by rw [upd_ne npt, upd_ne npt, upd_same]; rfl⟩, ?_, ⟨[], ?_, .nil⟩, ne_of_none D.sure nl⟩ ?_
    · rw [upd_ne nps.symm, upd_ne nps.symm, upd_ne (ne_of_none D.sure nt), upd_ne nps.symm, upd_ne nps.symm, upd_ne (ne_of_none D.sure nl)]
      exact D.sure
    · rw [upd_ne npl.symm, upd_ne npl.symm, upd_ne nlt.symm, upd_ne npl.symm, upd_ne npl.symm, upd_same]
    · exact ((((((Kp.new (F := dF p ls lu) nl).andI (by rw [upd_ne npl]; exact h1) (.inl rfl)).andI upd_same (.inl rfl)).andN nt0).andI (by rw [upd_ne npt.symm, upd_same]) (.inl rfl)).andI upd_same (.inl rfl))
/-! ### settled -/
theorem scDk7 : FnScope ["self"] ["self"] (defScope (sDk 7)) := ⟨rfl, rfl, rfl, by decide +kernel, rfl, by decide +kernel, by decide +kernel⟩
def spDk7 (A : Ad) : Sp := fun vs H Q _ => ∃ p ls lu m, vs = [.ref p] ∧ DiskAt A H p ls lu m ∧ ∀ l, H l = none → Q (.ref l) (upd H l (.lst m.sure))
theorem ok_dk7 (T : Txt K mg A) : ∃ fd, FnOk P w K mg base CX0 1 (A.dm 7) fd ["self"] (spDk7 A) ∧ Binds K fd ["self"] [] := by
  obtain ⟨fd, F⟩ := T.m7.fn
  refine ⟨fd, F.ok scDk7 (fun vs H Q E h => ?_) (fun cdv Ar outer s H vs Q E hr h => ?_), F.binds fun _ _ _ _ _ _ us hl => match us, hl with | [_], _ => rfl⟩
  · obtain ⟨p, ls, lu, m, rfl, _⟩ := h
    rfl
  · obtain ⟨p, ls, lu, m, rfl, D, k⟩ := h
    obtain ⟨dx, tp, st, h1, h2⟩ := D.ex
    refine ⟨_, pss_one (ps_ret (pe_callTy call_list_of (by rfl) T.list (by decide +kernel) (pa_cons (pe_fld (pv 0) rfl) pa_nil))), ?_⟩
    exact ⟨_, rfl, p, A.disk, dx, _, _, rfl, h1, T.cl, T.nSure, l_sure .., ls, _, rfl, .inl (SqL.of D.sure), k⟩
/-! ### count_deed -/
theorem scDk9 : FnScope ["self"] ["self"] (defScope (sDk 9)) := ⟨rfl, rfl, rfl, by decide +kernel, rfl, by decide +kernel, by decide +kernel⟩
def spDk9 (A : Ad) : Sp := fun vs H Q E => ∃ p ls lu m, vs = [.ref p] ∧ DiskAt A H p ls lu m ∧ Good m ∧
  ∀ G lu', (lu' = lu ∨ H lu' = none) → DiskAt A G p ls lu' m.count.2 → Kp (dF p ls lu) H G → (m.count.1 = true → lu' = lu → Q .non G) ∧ (m.count.1 = false → E (.ref A.stopped) none G)
theorem ok_dk9 (T : Txt K mg A) : ∃ fd, FnOk P w K mg base (L2N.CX P w) 2 (A.dm 9) fd ["self"] (spDk9 A) ∧ Binds K fd ["self"] [] := by
  obtain ⟨fd, F⟩ := T.m9.fn
  obtain ⟨fd8, G8, b8⟩ := ok_dk8 (P := P) (w := w) (base := base) T
  obtain ⟨fd5, G5, b5⟩ := ok_dk5 (P := P) (w := w) (base := base) T
  refine ⟨fd, okN F scDk9 (fun vs H Q E h => ?_) (fun cdv Ar outer s H vs Q E hr h => ?_), F.binds fun _ _ _ _ _ _ us hl => match us, hl with | [_], _ => rfl⟩
  · obtain ⟨p, ls, lu, m, rfl, _⟩ := h
    rfl
  · obtain ⟨p, ls, lu, m, rfl, D, Gm, k⟩ := h
    obtain ⟨dx, tp, st, h1, h2⟩ := D.ex
    obtain ⟨rs, h3, h4⟩ := D.uns
    have tk : L2N.Takes (cxOf (L2N.CX P w) P w K mg base ["self"] "Disk.count_deed" (defScope (sDk 9)) (A.dm 9) cdv Ar outer s H E) (fun cls d _ G => E cls d G) := L2N.takes_of rfl rfl rfl rfl
    refine ⟨_, pss_cons (ps_expr (pe_meth0 (E := E) (pv 0) T.cl T.m8.me G8 hr b8 .nil (L2N.passes_call tk fun _ _ _ _ h => h)))
      (pss_cons (ps_if (pt_cmp (pc_isN (pe_fld (pv 0) rfl))) (pss_one ps_retN) pss_nil)
      (pss_cons (ps_if (pt_cmpR op_le (pe_fld (pv 0) rfl) pe_int (nomark _))
        (pss_cons (ps_expr (pe_meth (pv 0) T.cl T.m5.me G5 hr b5 .nil pass0 (pa_cons (pe_fld (pv 0) rfl) pa_nil)))
        (pss_one (L2N.ps_raise rfl tk (L2N.pmk_own PySem.F.excBase_ValueError T.stopped.ex T.stopped.at_ T.stopped.kp (raises_own T.stopped.sb T.stopped.ty) rfl)))) pss_nil)
      (pss_one (ps_fldaug (pv 0) pe_int in_sub)))), ?_⟩
    refine ⟨_, rfl, p, dx, _, rfl, h1, rfl, p, ls, lu, m, rfl, D, fun er => ?_, fun er => ?_⟩
    · -- it runs
      refine ⟨_, rfl, p, A.disk, dx, _, _, rfl, h1, T.cl, T.nLeft, l_left .., _, rfl, ?_⟩
      cases el : m.left with
      | none =>
        have ec : m.count = (true, m) := by unfold M.count; rw [er, el]; rfl
        rw [ec] at k
        exact iteT ((k H lu (.inl rfl) D (Kp.refl _ _)).1 rfl rfl)
      | some l =>
        rw [el] at h1
        refine iteF ⟨_, rfl, p, A.disk, dx, _, _, rfl, h1, T.cl, T.nLeft, l_left .., _, _, rfl, rfl, _, rfl, ?_⟩
        refine ite2 (fun hle => ?_) (fun hgt => ?_)
        · have hle : l ≤ 0 := by simpa using hle
          have ec : m.count = (false, m.stop m.picks) := by
            unfold M.count
            rw [er, el]
            show (if l ≤ 0 then _ else _) = _
            rw [if_pos hle]
          rw [ec] at k
          refine ⟨_, rfl, p, dx, _, rfl, h1, rfl, _, rfl, p, A.disk, dx, _, _, rfl, h1, T.cl, T.nPicks, l_picks .., ?_⟩
          refine ⟨p, ls, lu, m, tp, m.picks, rfl, D, Gm, .inr h2, ne_of h2 D.sure (by intro z; cases z), fun G lu' hl DG kp => ?_⟩
          exact (k G lu' hl DG kp).2 rfl
        · have hgt : ¬ l ≤ 0 := by simpa using hgt
          have ec : m.count = (true, ⟨m.sure, m.pend, some (l - 1), m.picks, m.run⟩) := by
            unfold M.count
            rw [er, el]
            show (if l ≤ 0 then _ else _) = _
            rw [if_neg hgt]
          rw [ec] at k
          refine ⟨_, rfl, p, A.disk, dx, _, _, rfl, h1, T.cl, T.nLeft, rfl, _, _, rfl, rfl, dx, _, h1, by show 6 < 1000; decide, ?_⟩
          have kp := Kp.updI (F := dF p ls lu) (o' := .ins A.disk dx (putF "deeds_left" (.int (l - 1)) (dfl ls lu (optV (some l)) tp m.run st))) h1 (.inl rfl)
          have ntp : tp ≠ p := ne_of h2 h1 (by intro z; cases z)
          have nps : ls ≠ p := ne_of D.sure h1 (by intro z; cases z)
          have npu : lu ≠ p := ne_of h3 h1 (by intro z; cases z)
          exact (k _ lu (.inl rfl) ⟨⟨dx, tp, st, upd_same, by rw [upd_ne ntp]; exact h2⟩, by rw [upd_ne nps]; exact D.sure, ⟨rs, by rw [upd_ne npu]; exact h3, h4.kt kp.t⟩, D.ne⟩ kp).1 rfl rfl
    · have ec : m.count = (false, m) := by unfold M.count; rw [er]; rfl
      rw [ec] at k
      exact (k H lu (.inl rfl) D (Kp.refl _ _)).2 rfl
end
end K5

set_option Elab.async false
set_option linter.all false
set_option maxRecDepth 100000
set_option maxHeartbeats 1000000
namespace K5
open PySem PySem.Spec PyProof.Rows L2
def M.get (m : M) (n : Int) : V := m.pend.foldl (fun f q => if q.1 = n then q.2 else f) (m.sure.getD n.toNat .non)
theorem Paired.at2 {α β : Type} {R : α → β → Prop} {xs : List α} {ys : List β} (h : Paired R xs ys) {i : Nat} {x : α} (e : xs[i]? = some x) : ∃ y, ys[i]? = some y ∧ R x y := Paired.at h e
theorem pairedApp {α β : Type} {R : α → β → Prop} : ∀ {xs zs : List α} {ys ws : List β}, PySem.Paired R xs ys → PySem.Paired R zs ws → PySem.Paired R (xs ++ zs) (ys ++ ws)
  | _, _, _, _, .nil, h => h
  | _, _, _, _, .cons r t, h => .cons r (pairedApp t h)
theorem count_true {m : M} (h : m.count.1 = true) : m.count.2.sure = m.sure ∧ m.count.2.pend = m.pend ∧ m.count.2.run = true ∧ (m.count.2.left = m.left ∨ ∃ l, 0 < l ∧ m.left = some l ∧ m.count.2.left = some (l - 1)) ∧ m.count.2.picks = m.picks := by
  unfold M.count at h ⊢
  cases e : m.run with
  | false =>
    rw [e] at h
    cases h
  | true =>
    rw [e] at h
    rw [if_pos rfl] at h ⊢
    cases el : m.left with
    | none => exact ⟨rfl, rfl, e, .inl el, rfl⟩
    | some l =>
      rw [el] at h
      by_cases hl : l ≤ 0
      · dsimp only at h
        rw [if_pos hl] at h
        cases h
      · dsimp only
        rw [if_neg hl]
        exact ⟨rfl, rfl, rfl, .inr ⟨l, by omega, rfl, rfl⟩, rfl⟩
theorem Good.count {m : M} (g : Good m) (h : m.count.1 = true) : Good m.count.2 := by
  obtain ⟨e1, e2, e3, e4, _⟩ := count_true h
  refine ⟨by rw [e1]; exact g.len, by rw [e2]; exact g.blk, by rw [e2]; exact g.few, (fun z => by rw [e3] at z; cases z), fun l hl => ?_⟩
  rcases e4 with e | ⟨l', h0, h1, h2⟩
  · exact g.nat l (by rw [← e]; exact hl)
  · rw [h2] at hl
    cases hl
    omega
section
variable {P : Program} {w : World} {K : PySem.W.Frag} {mg : Str → Option Value} {base : Heap} {A : Ad}
/-! ### settle -/
theorem scDk2 : FnScope ["self", "block", "what"] ["self"] (defScope (sDk 2)) := ⟨rfl, rfl, rfl, by decide +kernel, rfl, by decide +kernel, by decide +kernel⟩
def spDk2 (A : Ad) : Sp := fun vs H Q E => ∃ p ls lu m, vs = [.ref p] ∧ DiskAt A H p ls lu m ∧ Good m ∧ ∀ G lu', (lu' = lu ∨ H lu' = none) → Kp (dF p ls lu) H G →
  (m.count.1 = true → DiskAt A G p ls lu' m.count.2.settle → Q .non G) ∧ (m.count.1 = false → DiskAt A G p ls lu' m.count.2 → E (.ref A.stopped) none G)
theorem ok_dk2 (T : Txt K mg A) : ∃ fd, FnOk P w K mg base (L2N.CX P w) 3 (A.dm 2) fd ["self"] (spDk2 A) ∧ Binds K fd ["self"] [] := by
  obtain ⟨fd, F⟩ := T.m2.fn
  obtain ⟨fd9, G9, b9⟩ := ok_dk9 (P := P) (w := w) (base := base) T
  refine ⟨fd, okN F scDk2 (fun vs H Q E h => ?_) (fun cdv Ar outer s H vs Q E hr h => ?_), F.binds fun _ _ _ _ _ _ us hl => match us, hl with | [_], _ => rfl⟩
  · obtain ⟨p, ls, lu, m, rfl, _⟩ := h
    rfl
  · obtain ⟨p, ls, lu, m, rfl, D, Gm, k⟩ := h
    have tk : L2N.Takes (cxOf (L2N.CX P w) P w K mg base ["self", "block", "what"] "Disk.settle" (defScope (sDk 2)) (A.dm 2) cdv Ar outer s H E) (fun cls d _ G => E cls d G) := L2N.takes_of rfl rfl rfl rfl
    refine ⟨_, pss_cons (ps_expr (pe_meth0 (E := E) (pv 0) T.cl T.m9.me G9 hr b9 .nil (L2N.passes_call tk fun _ _ _ _ h => h)))
      (PSs.nox (pss_cons (ps_for PassesOwn.never rfl (pi_list (pe_fld (pv 0) rfl)) (pg_tup rfl (pgs_cons (pg_name (i := 1) scDk2.nd rfl (Or.inl rfl)) (pgs_cons (pg_name (i := 2) scDk2.nd rfl (Or.inl rfl)) pgs_nil)))
          (pss_one (ps_asg (pv 2) (pg_sub (pe_fld (pv 0) rfl) (pv 1) set_list))))
        (pss_one (ps_fld (pv 0) (pe_lst pa_nil) rfl)))), ?_⟩
    obtain ⟨dx0, tp0, st0, h10, _⟩ := D.ex
    refine ⟨_, rfl, p, dx0, _, rfl, h10, rfl, p, ls, lu, m, rfl, D, Gm, fun G lu' hlu DG kp => ⟨fun c e => ?_, fun c => (k G lu' hlu kp).2 c DG⟩⟩
    subst e
    obtain ⟨e1, e2, e3, _, _⟩ := count_true c
    have Gg := Gm.count c
    obtain ⟨dx, tp, st, h1, h2⟩ := DG.ex
    obtain ⟨rs, h3, h4⟩ := DG.uns
    have nps : p ≠ ls := ne_of h1 DG.sure (by intro z; cases z)
    have npu : p ≠ lu' := ne_of h1 h3 (by intro z; cases z)
    refine ⟨_, rfl, p, A.disk, dx, _, _, rfl, h1, T.cl, T.nUns, l_uns .., lu', rfl, ⟨_, SqL.of h3⟩, for_list (K := K) (a := lu') (xs := rs) (fun i σ J => (∃ o1 o2, σ = [some (.ref p), o1, o2]) ∧ Kp (fun b => b = ls) G J ∧ J ls = some (.lst (putAll m.count.2.sure (m.count.2.pend.take i))))
      ⟨⟨none, none, rfl⟩, Kp.refl _ _, by rw [List.take_zero]; exact DG.sure⟩ (fun i σ J _ ⟨_, kj, _⟩ => SqL.of (kj.t.lst h3 fun z => DG.ne z.symm)) ?_ ?_⟩
    · rintro i x σ J hx ⟨⟨o1, o2, rfl⟩, kj, hls⟩
      obtain ⟨q, hq, t, rfl, ht⟩ := Paired.at h4 hx
      refine ⟨t, _, rfl, SqT.of (kj.t.tup ht), rfl, _, _, rfl, _, _, rfl, rfl, ?_⟩
      have hr := Gg.blk q (List.mem_of_getElem? hq)
      have hl : (putAll m.count.2.sure (m.count.2.pend.take i)).length = 35 := by rw [putAll_len, Gg.len]
      refine ⟨_, rfl, _, rfl, p, A.disk, dx, _, _, rfl, kj.t.ins h1 nps, T.cl, T.nSure, l_sure .., _, rfl, ls, _, q.1, q.1.toNat, rfl, rfl, hls, ixN_in hr.1 (by rw [hl]; omega), ?_⟩
      refine ⟨⟨_, _, rfl⟩, kj.andL hls rfl, ?_⟩
      rw [upd_same, take_succ_of hq, putAll_app]
      rfl
    · rintro σ J ⟨⟨o1, o2, rfl⟩, kj, hls⟩
      rw [List.take_of_length_le (Nat.le_of_eq (Paired.length h4).symm)] at hls
      have j1 := kj.t.ins h1 nps
      refine ⟨Nat.zero_le _, fun l nl => ?_⟩
      have npl : p ≠ l := ne_of_none j1 nl
      have nlH : H l = none := kp.free (kj.free nl fun z => by rw [z, hls] at nl; cases nl) fun z => by
        rcases z with z | z | z
        · exact absurd z.symm npl
        · rw [z, hls] at nl
          cases nl
        · subst z
          rw [kj.t.lst h3 fun z => DG.ne z.symm] at nl
          cases nl
      refine ⟨_, rfl, p, A.disk, dx, _, rfl, by rw [upd_ne npl]; exact j1, T.cl, T.nUns, by show 6 < 1000; decide, ?_⟩
      have kn : Kp (dF p ls lu') G _ := ((kj.sub (F' := dF p ls lu') fun b z => .inr (.inl z)).andN (o' := .lst []) nl).andI (o' := .ins A.disk dx (putF "unsure" (.ref l) (dfl ls lu' (optV m.count.2.left) tp m.count.2.run st))) (by rw [upd_ne npl]; exact j1) (.inl rfl)
      refine (k _ l (.inr nlH) (kp.trans kn fun b z => .inl z)).1 c ⟨⟨dx, tp, st, upd_same, kn.t.tup h2⟩, ?_, ⟨[], ?_, .nil⟩, ne_of_none hls nl⟩
      · rw [upd_ne nps.symm, upd_ne (ne_of_none hls nl)]
        exact hls
      · rw [upd_ne npl.symm, upd_same]
/-! ### write -/
theorem scDk1 : FnScope ["self", "block", "what"] ["self", "block", "what"] (defScope (sDk 1)) := ⟨rfl, rfl, rfl, by decide +kernel, rfl, by decide +kernel, by decide +kernel⟩
def Fits (n : Int) (x : Nat) : Prop := 0 ≤ n ∧ n ≤ 34 ∧ x ≤ 40
def spDk1 (A : Ad) : Sp := fun vs H Q E => ∃ p ls lu m n v d x z, vs = [.ref p, .int n, v] ∧ DiskAt A H p ls lu m ∧ Good m ∧ m.pend.length < 1000 ∧ Dat H d v x z ∧ z ≤ 10000 ∧ ∀ G lu', (lu' = lu ∨ H lu' = none) → Kp (dF p ls lu) H G →
  (¬ Fits n x → lu' = lu → DiskAt A G p ls lu m → E (.ref A.bad) none G) ∧ (Fits n x → m.count.1 = true → lu' = lu → DiskAt A G p ls lu (m.count.2.write n v) → Q .non G) ∧ (Fits n x → m.count.1 = false → DiskAt A G p ls lu' m.count.2 → E (.ref A.stopped) none G)
theorem ok_dk1 (T : Txt K mg A) : ∃ fd, FnOk P w K mg base (L2N.CX P w) 3 (A.dm 1) fd ["self", "block", "what"] (spDk1 A) ∧ Binds K fd ["self", "block", "what"] [] := by
  obtain ⟨fd, F⟩ := T.m1.fn
  obtain ⟨fd9, G9, b9⟩ := ok_dk9 (P := P) (w := w) (base := base) T
  obtain ⟨fdC, GC, bC⟩ := ok_check (P := P) (w := w) (base := base) T
  obtain ⟨fdH, GH, bH⟩ := ok_heavy (P := P) (w := w) (base := base) T
  refine ⟨fd, okN F scDk1 (fun vs H Q E h => ?_) (fun cdv Ar outer s H vs Q E hr h => ?_), F.binds fun _ _ _ _ _ _ us hl => match us, hl with | [_, _, _], _ => rfl⟩
  · obtain ⟨p, ls, lu, m, n, v, d, x, z, rfl, _⟩ := h
    rfl
  · obtain ⟨p, ls, lu, m, n, v, d, x, z, rfl, D, Gm, hfew, hd, hz, k⟩ := h
    have tk : L2N.Takes (cxOf (L2N.CX P w) P w K mg base ["self", "block", "what"] "Disk.write" (defScope (sDk 1)) (A.dm 1) cdv Ar outer s H E) (fun cls d _ G => E cls d G) := L2N.takes_of rfl rfl rfl rfl
    refine ⟨_, pss_cons (ps_expr (pe_call (E := E) GC hr rfl T.check.at_ T.check.kp bC .nil (L2N.passes_call tk fun _ _ _ _ h => h) (pa_cons (pv 1) pa_nil)))
      (pss_cons (ps_if (pt_val (pe_call GH (hr.mono (by decide)) rfl T.heavy.at_ T.heavy.kp bH .nil pass0 (pa_cons (pv 2) pa_nil)))
        (pss_one (L2N.ps_raise rfl tk (L2N.pmk_own PySem.F.excBase_ValueError T.bad.ex T.bad.at_ T.bad.kp (raises_own T.bad.sb T.bad.ty) rfl))) pss_nil)
      (pss_cons (ps_expr (pe_meth0 (E := E) (pv 0) T.cl T.m9.me G9 hr b9 .nil (L2N.passes_call tk fun _ _ _ _ h => h)))
      (pss_one (ps_expr (pe_bm PySem.F.plainAttrs_list PySem.F.slot_list_append PySem.F.type_list_append mt_append (pe_fld (pv 0) rfl) (pa_cons (pe_tup (pa_cons (pv 1) (pa_cons (pv 2) pa_nil))) pa_nil)))))), ?_⟩
    refine ⟨_, rfl, n, rfl, fun h0 h34 => ?_, fun hn => (k H lu (.inl rfl) (Kp.refl _ _)).1 (fun f => hn ⟨f.1, f.2.1⟩) rfl D⟩
    refine ⟨_, rfl, v, d, x, z, rfl, hd, hz, fun G kG => ⟨_, rfl, ?_⟩⟩
    have DG : DiskAt A G p ls lu m := D.kt kG.t fun b z => z.elim
    refine ite2 (fun hx => ?_) (fun hx => ?_)
    · have hx : (40 : Int) < x := by simpa using hx
      exact (k G lu (.inl rfl) (kG.sub fun _ z => z.elim)).1 (fun f => by have := f.2.2; omega) rfl DG
    · have hx : ¬ (40 : Int) < x := by simpa using hx
      have fit : Fits n x := ⟨h0, h34, by omega⟩
      obtain ⟨dx0, tp0, st0, h10, _⟩ := DG.ex
      refine ⟨_, rfl, p, dx0, _, rfl, h10, rfl, p, ls, lu, m, rfl, DG, Gm, fun J lu' hlu DJ kJ => ?_⟩
      have kHJ : Kp (dF p ls lu) H J := (kG.sub fun _ z => z.elim).trans kJ fun b z => .inl z
      have hlu2 : lu' = lu ∨ H lu' = none := hlu.imp id fun e => kG.free e fun z => z.elim
      refine ⟨fun c e => ?_, fun c => (k J lu' hlu2 kHJ).2.2 fit c DJ⟩
      subst e
      obtain ⟨e1, e2, e3, _, _⟩ := count_true c
      obtain ⟨dx, tp, st, h1, h2⟩ := DJ.ex
      obtain ⟨rs, h3, h4⟩ := DJ.uns
      have npu : p ≠ lu' := ne_of h1 h3 (by intro z; cases z)
      have hlr : rs.length = m.pend.length := by rw [← e2]; exact Paired.length h4
      refine ⟨_, rfl, p, A.disk, dx, _, _, rfl, h1, T.cl, T.nUns, l_uns .., .inl ⟨rfl, _, SqL.of h3⟩, _, rfl, _, rfl, sz 2 (by decide), fun t nt => ?_⟩
      have nlt : lu' ≠ t := ne_of_none h3 nt
      refine ⟨lu', rs, _, rfl, rfl, by rw [upd_ne nlt]; exact h3, Nat.lt_of_lt_of_le (show rs.length < 1000 by omega) (sz _ (by decide)), ?_⟩
      have kn : Kp (dF p ls lu') J _ := (Kp.new (F := dF p ls lu') (o := .tup [.int n, v]) nt).andL (o' := .lst (rs ++ [.ref t])) (by rw [upd_ne nlt]; exact h3) (.inr (.inr rfl))
      refine (k _ lu' (.inl rfl) (kHJ.trans kn fun b z => .inl z)).2.1 fit c rfl ⟨⟨dx, tp, st, ?_, kn.t.tup h2⟩, ?_, ⟨rs ++ [.ref t], upd_same, ?_⟩, DJ.ne⟩
      · rw [upd_ne npu, upd_ne (ne_of_none h1 nt)]
        exact h1
      · rw [upd_ne DJ.ne, upd_ne (ne_of_none DJ.sure nt)]
        exact DJ.sure
      · exact pairedApp (h4.kt kn.t) (.cons ⟨t, rfl, by rw [upd_ne nlt.symm, upd_same]⟩ .nil)
end
end K5

set_option Elab.async false
set_option linter.all false
set_option maxRecDepth 100000
set_option maxHeartbeats 1000000
namespace K5
open PySem PySem.Spec PyProof.Rows L2
section
variable {P : Program} {w : World} {K : PySem.W.Frag} {mg : Str → Option Value} {base : Heap} {A : Ad}
/-! ### read -/
theorem scDk3 : FnScope ["self", "block", "found", "place", "what"] ["self", "block"] (defScope (sDk 3)) := ⟨rfl, rfl, rfl, by decide +kernel, rfl, by decide +kernel, by decide +kernel⟩
def spDk3 (A : Ad) : Sp := fun vs H Q E => ∃ p ls lu m n, vs = [.ref p, .int n] ∧ DiskAt A H p ls lu m ∧ Good m ∧ ∀ G, Kp No H G →
  (¬ (0 ≤ n ∧ n ≤ 34) → E (.ref A.bad) none G) ∧ (0 ≤ n → n ≤ 34 → m.run = false → E (.ref A.stopped) none G) ∧ (0 ≤ n → n ≤ 34 → m.run = true → Q (m.get n) G)
theorem ok_dk3 (T : Txt K mg A) : ∃ fd, FnOk P w K mg base (L2N.CX P w) 3 (A.dm 3) fd ["self", "block"] (spDk3 A) ∧ Binds K fd ["self", "block"] [] := by
  obtain ⟨fd, F⟩ := T.m3.fn
  obtain ⟨fd8, G8, b8⟩ := ok_dk8 (P := P) (w := w) (base := base) T
  obtain ⟨fdC, GC, bC⟩ := ok_check (P := P) (w := w) (base := base) T
  refine ⟨fd, okN F scDk3 (fun vs H Q E h => ?_) (fun cdv Ar outer s H vs Q E hr h => ?_), F.binds fun _ _ _ _ _ _ us hl => match us, hl with | [_, _], _ => rfl⟩
  · obtain ⟨p, ls, lu, m, n, rfl, _⟩ := h
    rfl
  · obtain ⟨p, ls, lu, m, n, rfl, D, Gm, k⟩ := h
    have tk : L2N.Takes (cxOf (L2N.CX P w) P w K mg base ["self", "block", "found", "place", "what"] "Disk.read" (defScope (sDk 3)) (A.dm 3) cdv Ar outer s H E) (fun cls d _ G => E cls d G) := L2N.takes_of rfl rfl rfl rfl
    refine ⟨_, pss_cons (ps_expr (pe_call (E := E) GC hr rfl T.check.at_ T.check.kp bC .nil (L2N.passes_call tk fun _ _ _ _ h => h) (pa_cons (pv 1) pa_nil)))
      (pss_cons (ps_expr (pe_meth0 (E := E) (pv 0) T.cl T.m8.me G8 (hr.mono (by decide)) b8 .nil (L2N.passes_call tk fun _ _ _ _ h => h)))
      (PSs.nox (pss_cons (ps_set (i := 2) scDk3.nd rfl (Or.inl rfl) (pe_ix ix_list (pe_fld (pv 0) rfl) (pv 1) (fun _ _ => rfl)))
      (pss_cons (ps_for PassesOwn.never rfl (pi_list (pe_fld (pv 0) rfl)) (pg_tup rfl (pgs_cons (pg_name (i := 3) scDk3.nd rfl (Or.inl rfl)) (pgs_cons (pg_name (i := 4) scDk3.nd rfl (Or.inl rfl)) pgs_nil)))
        (pss_one (ps_if (pt_cmpR op_eq (pv 3) (pv 1) (nomark _)) (pss_one (ps_set (i := 2) scDk3.nd rfl (Or.inl rfl) (pv 4))) pss_nil)))
      (pss_one (ps_ret (pv 2))))))), ?_⟩
    obtain ⟨dx, tp, st, h1, h2⟩ := D.ex
    obtain ⟨rs, h3, h4⟩ := D.uns
    refine ⟨_, rfl, n, rfl, fun h0 h34 => ?_, fun hn => (k H (Kp.refl _ _)).1 hn⟩
    refine ⟨_, rfl, p, dx, _, rfl, h1, rfl, p, ls, lu, m, rfl, D, fun er => ?_, fun er => (k H (Kp.refl _ _)).2.1 h0 h34 er⟩
    have hx : m.sure[n.toNat]? = some (m.sure.getD n.toNat .non) := by
      rw [List.getD_eq_getElem?_getD, List.getElem?_eq_getElem (by rw [Gm.len]; omega)]
      rfl
    refine ⟨_, rfl, p, A.disk, dx, _, _, rfl, h1, T.cl, T.nSure, l_sure .., _, rfl, ls, m.sure, n, m.sure.getD n.toNat .non, rfl, rfl, SqL.of D.sure, by unfold atI; rw [ixN_in h0 (by rw [Gm.len]; omega)]; exact hx, ?_⟩
    refine ⟨_, rfl, p, A.disk, dx, _, _, rfl, h1, T.cl, T.nUns, l_uns .., lu, rfl, ⟨_, SqL.of h3⟩, for_list (K := K) (a := lu) (xs := rs) (fun i σ J => J = H ∧ ∃ o1 o2, σ = [some (.ref p), some (.int n), some ((m.pend.take i).foldl (fun f q => if q.1 = n then q.2 else f) (m.sure.getD n.toNat .non)), o1, o2])
      ⟨rfl, none, none, rfl⟩ (fun i σ J _ ⟨e, _⟩ => by rw [e]; exact SqL.of h3) ?_ ?_⟩
    · rintro i x σ J hxi ⟨rfl, o1, o2, rfl⟩
      obtain ⟨q, hq, t, rfl, ht⟩ := Paired.at h4 hxi
      refine ⟨t, _, rfl, SqT.of ht, rfl, _, _, rfl, _, _, rfl, rfl, _, rfl, _, rfl, rfl, _, rfl, ?_⟩
      have e1 : (m.pend.take (i + 1)).foldl (fun f q => if q.1 = n then q.2 else f) (m.sure.getD n.toNat .non) = if q.1 = n then q.2 else (m.pend.take i).foldl (fun f q => if q.1 = n then q.2 else f) (m.sure.getD n.toNat .non) := by
        rw [take_succ_of hq, List.foldl_append]
        rfl
      refine ite2 (fun he => ?_) (fun he => ?_)
      · have he : q.1 = n := by simpa using he
        refine ⟨_, rfl, rfl, some (.int q.1), some q.2, ?_⟩
        rw [e1, if_pos he]
        rfl
      · have he : ¬ q.1 = n := by simpa using he
        refine ⟨rfl, some (.int q.1), some q.2, ?_⟩
        rw [e1, if_neg he]
        rfl
    · rintro σ J ⟨rfl, o1, o2, rfl⟩
      rw [List.take_of_length_le (Nat.le_of_eq (Paired.length h4).symm)]
      exact ⟨_, rfl, (k J (Kp.refl _ _)).2.2 h0 h34 er⟩
end
end K5

set_option Elab.async false
set_option linter.all false
set_option maxRecDepth 100000
set_option maxHeartbeats 1000000
/-! ### 5. The law's small defs -/
namespace K5
open PySem PySem.Spec PyProof.Rows L2
mutual
theorem Dat.dp {H : Hp} {K : PySem.W.Frag} : ∀ {n : Nat} {v : V} {w z : Nat}, Dat H n v w z → ∃ d, Dp K H v d ∧ d.canLay0 = true ∧ d.depth ≤ n
  | 0, _, _, _, h => h.elim
  | n + 1, v, _, _, .inl ⟨lf, _, _⟩ => by
    cases v with
    | non => exact ⟨_, .non, rfl, by simp only [PyData.depth]; omega⟩
    | bl b => exact ⟨_, .bl b, rfl, by simp only [PyData.depth]; omega⟩
    | int i => exact ⟨_, .int i, rfl, by simp only [PyData.depth]; omega⟩
    | str x => exact ⟨_, .str x, by simp only [PyData.canLay0]; exact lf, by simp only [PyData.depth]; omega⟩
    | byt _ => cases lf
    | flt _ => cases lf
    | ref _ => cases lf
    | ty _ => cases lf
  | n + 1, _, _, _, .inr ⟨a, xs, u, rfl, h, s, _⟩ => by
    obtain ⟨ds, h1, h2, h3⟩ := Dat.dpAll (K := K) s
    exact ⟨.tuple ds, .tup (SqT.of h) h1, by simp only [PyData.canLay0]; exact h2, by simp only [PyData.depth]; omega⟩
theorem Dat.dpAll {H : Hp} {K : PySem.W.Frag} : ∀ {n : Nat} {xs : List V} {w z : Nat}, SumD (Dat H n) xs w z → ∃ ds, DpAll K H xs ds ∧ PyData.canLayAll0 ds = true ∧ PyData.depthAll ds ≤ n
  | _, [], _, _, _ => ⟨[], .nil, by simp only [PyData.canLayAll0], by simp only [PyData.depthAll]; omega⟩
  | _, v :: vs, _, _, ⟨x, y, a, b, p, r, _, _⟩ => by
    obtain ⟨d, h1, h2, h3⟩ := Dat.dp (K := K) p
    obtain ⟨ds, h4, h5, h6⟩ := Dat.dpAll (K := K) r
    exact ⟨d :: ds, .cons h1 h4, by simp only [PyData.canLayAll0, h2, h5, Bool.and_self], by simp only [PyData.depthAll]; omega⟩
end
theorem lay_ints : ∀ ns : List Int, PyData.canLayAll0 (ns.map PyData.int) = true ∧ PyData.depthAll (ns.map PyData.int) = 0
  | [] => ⟨by simp only [List.map_nil, PyData.canLayAll0], by simp only [List.map_nil, PyData.depthAll]⟩
  | n :: ns => by
    obtain ⟨h1, h2⟩ := lay_ints ns
    exact ⟨by simp only [List.map_cons, PyData.canLayAll0, PyData.canLay0, h1, Bool.and_self], by simp only [List.map_cons, PyData.depthAll, PyData.depth, h2]; rfl⟩
theorem dp_ints {K : PySem.W.Frag} {H : Hp} : ∀ ns : List Int, DpAll K H (ns.map V.int) (ns.map PyData.int)
  | [] => .nil
  | n :: ns => .cons (.int n) (dp_ints ns)
theorem shaped_of {d : PyData} (h1 : d.canLay0 = true) (h2 : d.depth ≤ 64) : SeqAt.shaped d = true := by
  unfold SeqAt.shaped
  rw [h1, decide_eq_true h2]
  rfl
theorem shaped_ints (ns : List Int) : SeqAt.shaped (.list (ns.map PyData.int)) = true := by
  obtain ⟨h1, h2⟩ := lay_ints ns
  exact shaped_of (by simp only [PyData.canLay0]; exact h1) (by simp only [PyData.depth, h2]; omega)
theorem shaped_nil : SeqAt.shaped (.list []) = true := shaped_ints []
theorem eqv_nil (ds : List PyData) : PyData.eqv (.list ds) (.list []) = ds.isEmpty := by
  cases ds with
  | nil => simp only [PyData.eqv, PyData.eqvAll, List.isEmpty_nil]
  | cons d ds => simp only [PyData.eqv, PyData.eqvAll, List.isEmpty_cons]
abbrev sBegun : Stmt := top 23
abbrev sTake : Stmt := top 24
abbrev sAlike : Stmt := top 25
abbrev sClass : Stmt := top 26
abbrev sNest : Stmt := top 27
abbrev sWhat : Stmt := top 28
abbrev sWeight : Stmt := top 29
abbrev sMade : Stmt := top 30
abbrev sFall : Stmt := top 31
abbrev sCount : Stmt := top 32
abbrev sTold : Stmt := top 33
abbrev sWrite : Stmt := top 34
abbrev sArms : Stmt := top 35
abbrev sIs : Stmt := top 36
abbrev sLaw : Stmt := top 37
/-- the law's defs, and what else it names -/
structure Lw (K : PySem.W.Frag) (mg : Str → Option Value) (A : Ad) (L : Nat → Addr) : Prop extends Txt K mg A where
  begun : Df K mg "_law_begun" sBegun (L 23)
  take : Df K mg "_law_take" sTake (L 24)
  alike : Df K mg "_law_alike" sAlike (L 25)
  nest : Df K mg "_law_nest" sNest (L 27)
  what : Df K mg "_law_what" sWhat (L 28)
  weight : Df K mg "_law_weight" sWeight (L 29)
  made : Df K mg "_law_made" sMade (L 30)
  fall : Df K mg "_law_fall" sFall (L 31)
  count : Df K mg "_law_count" sCount (L 32)
  arms : Df K mg "_law_arms" sArms (L 35)
  len : mg "len" = none
  range : mg "range" = none
  str : mg "str" = none
  sum : mg "sum" = none
/-- the numbers that the law draws from: the rest of the script at bi, a number -/
structure BoxAt (H : Hp) (bx bi : Addr) : Prop where
  ex : ∃ (ns : List Int) (st : Int), H bx = some (.lst [.ref bi, .int st]) ∧ H bi = some (.lst (ns.map V.int)) ∧ ns.length ≤ 63
  ne : bx ≠ bi
def bF (bx bi : Addr) : Addr → Prop := fun b => b = bx ∨ b = bi
theorem BoxAt.kt {F : Addr → Prop} {H G : Hp} {bx bi : Addr} (k : Kt F H G) (b : BoxAt H bx bi) (n : ∀ a, F a → ¬ bF bx bi a) : BoxAt G bx bi := by
  obtain ⟨ns, st, h1, h2, h3⟩ := b.ex
  exact ⟨⟨ns, st, k.lst h1 fun z => n _ z (.inl rfl), k.lst h2 fun z => n _ z (.inr rfl), h3⟩, b.ne⟩
section
variable {P : Program} {w : World} {K : PySem.W.Frag} {mg : Str → Option Value} {base : Heap} {A : Ad} {L : Nat → Addr}
theorem scTake : FnScope ["_law_box", "_law_many", "_law_number"] ["_law_box", "_law_many"] (defScope sTake) := ⟨rfl, rfl, rfl, by decide +kernel, rfl, by decide +kernel, by decide +kernel⟩
def spTake : Sp := fun vs H Q _ => ∃ bx bi n, vs = [.ref bx, .int n] ∧ BoxAt H bx bi ∧ 0 < n ∧ n.natAbs < 2 ^ 90 ∧ ∀ r G, 0 ≤ r → r < n → BoxAt G bx bi → Kp (bF bx bi) H G → Q (.int r) G
theorem ok_take (T : Lw K mg A L) : ∃ fd, FnOk P w K mg base CX0 1 (L 24) fd ["_law_box", "_law_many"] spTake ∧ Binds K fd ["_law_box", "_law_many"] [] := by
  obtain ⟨fd, F⟩ := T.take.fn
  refine ⟨fd, F.ok scTake (fun vs H Q E h => ?_) (fun cdv Ar outer s H vs Q E hr h => ?_), F.binds fun _ _ _ _ _ _ us hl => match us, hl with | [_, _], _ => rfl⟩
  · obtain ⟨bx, bi, n, rfl, _⟩ := h
    rfl
  · obtain ⟨bx, bi, n, rfl, B, hn, hw, k⟩ := h
    obtain ⟨ns, st, h1, h2, h3⟩ := B.ex
    refine ⟨_, (pss_cons (ps_if (pt_cmpR (op_eqD hr.units) (pe_ix ix_list (pv 0) pe_int (fun _ _ => rfl)) (pe_lst pa_nil) (nomark _))
        (pss_cons (ps_asg (pe_op op_mod (pe_op op_mul (pe_ix ix_list (pv 0) pe_int (fun _ _ => rfl)) pe_int) pe_int) (pg_sub (pv 0) pe_int set_list))
        (pss_one (ps_ret (pe_op op_mod (pe_op op_fdiv (pe_ix ix_list (pv 0) pe_int (fun _ _ => rfl)) pe_int) (pv 1)))))
        pss_nil)
      (pss_cons (ps_set (i := 2) scTake.nd rfl (Or.inl rfl) (pe_ix ix_list (pe_ix ix_list (pv 0) pe_int (fun _ _ => rfl)) pe_int (fun _ _ => rfl)))
      (pss_cons (ps_asg (pe_op op_fdivW (pv 2) (pv 1)) (pg_sub (pe_ix ix_list (pv 0) pe_int (fun _ _ => rfl)) pe_int set_list))
      (pss_cons (ps_if (PW.pt (pw_or (pt_cmpR op_eq (pe_ix ix_list (pe_ix ix_list (pv 0) pe_int (fun _ _ => rfl)) pe_int (fun _ _ => rfl)) pe_int (nomark _)) (pw_or1 (pt_cmpR op_eq (pe_ix ix_list (pe_ix ix_list (pv 0) pe_int (fun _ _ => rfl)) pe_int (fun _ _ => rfl)) (pe_un un_neg pe_int) (nomark _)))))
        (pss_one (ps_expr (pe_bm PySem.F.plainAttrs_list PySem.F.slot_list_pop PySem.F.type_list_pop mt_popAt (pe_ix ix_list (pv 0) pe_int (fun _ _ => rfl)) (pa_cons pe_int pa_nil))))
        pss_nil)
      (pss_one (ps_ret (pe_op op_mod (pv 2) (pv 1)))))))), ?_⟩
    -- if _law_box[0] == []
    refine ⟨_, rfl, bx, _, 0, .ref bi, rfl, rfl, SqL.of h1, rfl, Nat.zero_le _, fun e ne => ?_⟩
    have g1 : upd H e (.lst []) bx = some (.lst [.ref bi, .int st]) := by rw [upd_ne (ne_of_none h1 ne)]; exact h1
    have g2 : upd H e (.lst []) bi = some (.lst (ns.map V.int)) := by rw [upd_ne (ne_of_none h2 ne)]; exact h2
    have k0 : Kp (bF bx bi) H (upd H e (.lst [])) := Kp.new ne
    refine ⟨_, _, .lst (SqL.of g2) (dp_ints ns), .lst (SqL.of upd_same) .nil, shaped_ints ns, shaped_nil, _, rfl, ?_⟩
    rw [eqv_nil]
    cases ns with
    | nil =>
      refine iteT ?_
      refine ⟨_, rfl, bx, _, 1, .int st, rfl, rfl, SqL.of g1, rfl, _, _, rfl, rfl, .inr (by decide), _, _, rfl, rfl, by show (0 : Int) < 2147483647; decide, _, rfl, bx, _, 1, 1, rfl, rfl, g1, rfl, ?_⟩
      refine ⟨_, rfl, bx, _, 1, _, rfl, rfl, SqL.of upd_same, rfl, _, _, rfl, rfl, ⟨by decide, by decide⟩, _, rfl, _, _, rfl, rfl, hn, ?_⟩
      refine k _ _ (Int.emod_nonneg _ (by omega)) (Int.emod_lt_of_pos _ hn) ⟨⟨[], _, upd_same, by rw [upd_ne B.ne.symm]; exact g2, Nat.zero_le _⟩, B.ne⟩ (k0.andL g1 (.inl rfl))
    | cons n0 ns =>
      refine iteF ?_
      have hf : ∀ a : Int, 0 ≤ a % n ∧ a % n < n := fun a => ⟨Int.emod_nonneg _ (by omega), Int.emod_lt_of_pos _ hn⟩
      refine ⟨_, rfl, bx, _, 0, .ref bi, rfl, rfl, SqL.of g1, rfl, bi, _, 0, .int n0, rfl, rfl, SqL.of g2, atI_nat (j := 0) rfl, ?_⟩
      refine ⟨_, rfl, _, rfl, _, _, rfl, rfl, wide_div hn hw (by decide) (by decide), _, rfl, bx, _, 0, .ref bi, rfl, rfl, SqL.of g1, rfl, bi, _, 0, 0, rfl, rfl, g2, ixN_in (by decide) (by simp only [List.length_map, List.length_cons]; omega), ?_⟩
      have k1 := k0.andL (o' := .lst (V.int (n0 / n) :: ns.map V.int)) g2 (.inr rfl)
      have j1 : upd (upd H e (.lst [])) bi (.lst (V.int (n0 / n) :: ns.map V.int)) bx = some (.lst [.ref bi, .int st]) := by rw [upd_ne B.ne]; exact g1
      have fin1 : BoxAt (upd (upd H e (.lst [])) bi (.lst (V.int (n0 / n) :: ns.map V.int))) bx bi := ⟨⟨n0 / n :: ns, st, j1, upd_same, h3⟩, B.ne⟩
      have last : ∀ (σ : L2.St) (J : Hp), σ = [some (.ref bx), some (.int n), some (.int n0)] → BoxAt J bx bi → Kp (bF bx bi) H J → tRet (tOp (rI (fun _ j => 0 < j) fun i j => .int (i % j)) (tVar 2) (tVar 1)) { nx := fun _ G => Q .non G, rt := Q } σ J := fun σ J e b kj => by
        subst e
        exact ⟨_, rfl, _, rfl, _, _, rfl, rfl, hn, k _ _ (hf n0).1 (hf n0).2 b kj⟩
      have pop : tDrop (tBM K "list" rPopAt (tOp (rIxL K) (tVar 0) (tC (.int 0))) (tCons (tC (.int 0)) tNil)) { nx := tRet (tOp (rI (fun _ j => 0 < j) fun i j => .int (i % j)) (tVar 2) (tVar 1)) { nx := fun _ G => Q .non G, rt := Q }, rt := Q } [some (.ref bx), some (.int n), some (.int n0)] (upd (upd H e (.lst [])) bi (.lst (V.int (n0 / n) :: ns.map V.int))) := by
        refine ⟨_, rfl, bx, _, 0, .ref bi, rfl, rfl, SqL.of j1, rfl, .inl ⟨rfl, _, SqL.of upd_same⟩, bi, _, 0, 0, V.int (n0 / n), rfl, rfl, upd_same, by decide, by decide, ?_, rfl, ?_⟩
        · exact (ixN_seq (ixN_in (by decide) (by simp only [List.length_map, List.length_cons]; omega))).1
        · refine last _ _ rfl ⟨⟨ns, st, by rw [upd_ne B.ne]; exact j1, upd_same, by rw [List.length_cons] at h3; omega⟩, B.ne⟩ (k1.andL upd_same (.inr rfl))
      refine ⟨_, rfl, bx, _, 0, .ref bi, rfl, rfl, SqL.of j1, rfl, bi, _, 0, .int (n0 / n), rfl, rfl, SqL.of upd_same, atI_nat (j := 0) rfl, rfl, _, rfl, ?_⟩
      refine ite2 (fun _ => iteT pop) (fun _ => ?_)
      refine ⟨_, rfl, bx, _, 0, .ref bi, rfl, rfl, SqL.of j1, rfl, bi, _, 0, .int (n0 / n), rfl, rfl, SqL.of upd_same, atI_nat (j := 0) rfl, 1, rfl, rfl, _, rfl, ?_⟩
      exact ite2 (fun _ => pop) (fun _ => last _ _ rfl fin1 k1)
end
end K5

set_option Elab.async false
set_option linter.all false
set_option maxRecDepth 100000
set_option maxHeartbeats 1000000
namespace K5
open PySem PySem.Spec PyProof.Rows L2
/-! ### what the law itself holds of a disk -/
def ofl (l1 l2 l3 : Addr) (lf : V) (fl : Bool) : List (Key × V) := [(.inr "settled", .ref l1), (.inr "pending", .ref l2), (.inr "left", lf), (.inr "picks", .ref l3), (.inr "fallen", .bl fl)]
structure OwnAt (H : Hp) (d l1 l2 l3 : Addr) (m : M) : Prop where
  dc : H d = some (.dK (ofl l1 l2 l3 (optV m.left) (!m.run)))
  sure : H l1 = some (.lst m.sure)
  pend : ∃ rs, H l2 = some (.lst rs) ∧ PairsAt H rs m.pend
  picks : H l3 = some (.lst (m.picks.map V.bl))
def oF (d l1 l2 l3 : Addr) : Addr → Prop := fun b => b = d ∨ b = l1 ∨ b = l2 ∨ b = l3
theorem OwnAt.kt {F : Addr → Prop} {H G : Hp} {d l1 l2 l3 : Addr} {m : M} (k : Kt F H G) (o : OwnAt H d l1 l2 l3 m) (n : ∀ b, F b → ¬ oF d l1 l2 l3 b) : OwnAt G d l1 l2 l3 m := by
  obtain ⟨rs, h3, h4⟩ := o.pend
  exact ⟨k.dK o.dc fun z => n _ z (.inl rfl), k.lst o.sure fun z => n _ z (.inr (.inl rfl)), ⟨rs, k.lst h3 fun z => n _ z (.inr (.inr (.inl rfl))), h4.kt k⟩, k.lst o.picks fun z => n _ z (.inr (.inr (.inr rfl)))⟩
section
variable (l1 l2 l3 x : Addr) (lf v : V) (fl b : Bool)
theorem o_settled : valV (ofl l1 l2 l3 lf fl) (.inr "settled" : Key) = some (.ref l1) := rfl
theorem o_pending : valV (ofl l1 l2 l3 lf fl) (.inr "pending" : Key) = some (.ref l2) := rfl
theorem o_left : valV (ofl l1 l2 l3 lf fl) (.inr "left" : Key) = some lf := rfl
theorem o_picks : valV (ofl l1 l2 l3 lf fl) (.inr "picks" : Key) = some (.ref l3) := rfl
theorem o_fallen : valV (ofl l1 l2 l3 lf fl) (.inr "fallen" : Key) = some (.bl fl) := rfl
theorem q_pending : putK (ofl l1 l2 l3 lf fl) (.inr "pending" : Key) (.ref x) = ofl l1 x l3 lf fl := rfl
theorem q_left : putK (ofl l1 l2 l3 lf fl) (.inr "left" : Key) v = ofl l1 l2 l3 v fl := rfl
theorem q_picks : putK (ofl l1 l2 l3 lf fl) (.inr "picks" : Key) (.ref x) = ofl l1 l2 x lf fl := rfl
theorem q_fallen : putK (ofl l1 l2 l3 lf fl) (.inr "fallen" : Key) (.bl b) = ofl l1 l2 l3 lf b := rfl
end
section
variable {P : Program} {w : World} {K : PySem.W.Frag} {mg : Str → Option Value} {base : Heap} {A : Ad} {L : Nat → Addr}
/-! ### begun -/
theorem scBegun : FnScope ["_law_script", "_law_stirred", "_law_cell"] ["_law_script"] (defScope sBegun) := ⟨rfl, rfl, rfl, by decide +kernel, rfl, by decide +kernel, by decide +kernel⟩
def spBegun (K : PySem.W.Frag) : Sp := fun vs H Q _ => ∃ (a : Addr) (ns : List Int), vs = [.ref a] ∧ SqL K H a (ns.map V.int) ∧ ns.length ≤ 63 ∧ ∀ G bx bi, H bx = none → H bi = none → BoxAt G bx bi → Kp No H G → Q (.ref bx) G
theorem ok_begun (T : Lw K mg A L) : ∃ fd, FnOk P w K mg base CX0 1 (L 23) fd ["_law_script"] (spBegun K) ∧ Binds K fd ["_law_script"] [] := by
  obtain ⟨fd, F⟩ := T.begun.fn
  refine ⟨fd, F.ok scBegun (fun vs H Q E h => ?_) (fun cdv Ar outer s H vs Q E hr h => ?_), F.binds fun _ _ _ _ _ _ us hl => match us, hl with | [_], _ => rfl⟩
  · obtain ⟨a, ns, rfl, _⟩ := h
    rfl
  · obtain ⟨a, ns, rfl, hS, hl, k⟩ := h
    refine ⟨_, (pss_cons (ps_set (i := 1) scBegun.nd rfl (Or.inl rfl) pe_int)
      (pss_cons (ps_for PassesOwn.never rfl (pi_list (pv 0)) (pg_name (i := 2) scBegun.nd rfl (Or.inl rfl))
        (pss_one (ps_set (i := 1) scBegun.nd rfl (Or.inl rfl) (pe_op op_mod (pe_op op_add (pe_op op_add (pe_op op_mul (pv 1) pe_int) (pe_op op_mul (pv 2) pe_int)) pe_int) pe_int))))
      (pss_one (ps_ret (pe_lst (pa_cons (pe_callTy call_list_of (by rfl) T.list (by decide +kernel) (pa_cons (pv 0) pa_nil)) (pa_cons (pe_op op_mul (pv 1) (pe_callTy call_int1 (by rfl) T.int (by decide +kernel) (pa_cons (pe_cmpR op_gt (pe_callB call_len_seq (by rfl) T.len PySem.boot_len (pa_cons (pv 0) pa_nil)) pe_int (nomark _)) pa_nil))) pa_nil))))))), ?_⟩
    refine ⟨_, rfl, a, rfl, ⟨_, hS⟩, for_list (K := K) (a := a) (xs := ns.map V.int) (fun i σ G => G = H ∧ ∃ st o, σ = [some (.ref a), some (.int st), o] ∧ 0 ≤ st ∧ st < 2147483647) ⟨rfl, 0, none, rfl, by decide, by decide⟩ (fun i σ G _ ⟨e, _⟩ => by rw [e]; exact hS) ?_ ?_⟩
    · rintro i y σ G hi ⟨rfl, st, o, rfl, h0, h1⟩
      obtain ⟨z, rfl⟩ : ∃ z, y = V.int z := by
        rw [List.getElem?_map] at hi
        cases e : ns[i]? with
        | none =>
          rw [e] at hi
          cases hi
        | some z =>
          rw [e] at hi
          exact ⟨z, (Option.some.inj hi).symm⟩
      refine ⟨_, rfl, _, _, rfl, rfl, .inr (by decide), _, rfl, _, _, rfl, rfl, .inr (by decide), _, _, rfl, rfl, _, _, rfl, rfl, _, _, rfl, rfl, by show (0 : Int) < 2147483647; decide, ?_⟩
      exact ⟨rfl, _, _, rfl, Int.emod_nonneg _ (by decide), Int.emod_lt_of_pos _ (by decide)⟩
    · rintro σ G ⟨rfl, st, o, rfl, h0, h1⟩
      refine ⟨_, rfl, a, _, rfl, .inl hS, fun bi nbi => ?_⟩
      have hS2 : SqL K (upd G bi (.lst (ns.map V.int))) a (ns.map V.int) := Same.seq (fun b o e => by rw [upd_ne (ne_of_none e nbi)]; exact e) hS
      refine ⟨_, rfl, _, rfl, a, _, rfl, .inl hS2, _, _, rfl, rfl, .inr ⟨_, rfl, _, _, rfl, rfl, .inl ⟨by omega, by omega⟩, sz 2 (by decide), fun bx nbx => ?_⟩⟩
      obtain ⟨nxi, nbx'⟩ := upd_none nbx
      exact k _ bx bi nbx' nbi ⟨⟨ns, _, upd_same, by rw [upd_ne nxi.symm, upd_same], hl⟩, nxi⟩ ((Kp.new (F := No) nbi).andN nbx)
/-! ### made -/
theorem scMade : FnScope [] [] (defScope sMade) := ⟨rfl, rfl, rfl, by decide +kernel, rfl, by decide +kernel, by decide +kernel⟩
def spMade : Sp := fun vs H Q _ => vs = [] ∧ ∀ G d l1 l2 l3, H d = none → H l1 = none → H l2 = none → H l3 = none → [l1, l2, l3].Nodup → OwnAt G d l1 l2 l3 M.new → Kp No H G → Q (.ref d) G
theorem ok_made (T : Lw K mg A L) : ∃ fd, FnOk P w K mg base CX0 1 (L 30) fd [] spMade ∧ Binds K fd [] [] := by
  obtain ⟨fd, F⟩ := T.made.fn
  refine ⟨fd, F.ok scMade (fun vs H Q E h => ?_) (fun cdv Ar outer s H vs Q E hr h => ?_), F.binds fun _ _ _ _ _ _ us hl => match us, hl with | [], _ => rfl⟩
  · obtain ⟨rfl, _⟩ := h
    rfl
  · obtain ⟨rfl, k⟩ := h
    refine ⟨_, (pss_one (ps_ret (pe_disp (pps_cons pe_str (pe_op op_rep (pe_lst (pa_cons pe_non pa_nil)) pe_int) (pps_cons pe_str (pe_lst pa_nil) (pps_cons pe_str pe_non (pps_cons pe_str (pe_lst pa_nil) (pps_cons pe_str pe_bl pps_nil))))) (by rfl) (by rfl) (fun z => by cases z) (by decide)))), ?_⟩
    refine fun d nd => ⟨sz _ (by decide), fun l0 n0 => ⟨l0, 35, _, rfl, rfl, upd_same, by decide, by decide, sz _ (by decide), fun l1 n1 => ?_⟩⟩
    obtain ⟨a1, n1'⟩ := upd_none n1
    obtain ⟨a2, n1'⟩ := upd_none n1'
    obtain ⟨b2, n0'⟩ := upd_none n0
    refine ⟨Nat.zero_le _, fun l2 n2 => ?_⟩
    obtain ⟨c1, n2'⟩ := upd_none n2
    obtain ⟨c2, n2'⟩ := upd_none n2'
    obtain ⟨c3, n2'⟩ := upd_none n2'
    refine ⟨Nat.zero_le _, fun l3 n3 => ?_⟩
    obtain ⟨d1, n3'⟩ := upd_none n3
    obtain ⟨d2, n3'⟩ := upd_none n3'
    obtain ⟨d3, n3'⟩ := upd_none n3'
    obtain ⟨d4, n3'⟩ := upd_none n3'
    refine ⟨by rw [upd_ne d4.symm, upd_ne c3.symm, upd_ne a2.symm, upd_ne b2.symm, upd_same], ofl l1 l2 l3 .non false, rfl, by show 5 ≤ 15; decide, ?_⟩
    have e0 : mergeK [] (ofl l1 l2 l3 .non false) = ofl l1 l2 l3 .non false := rfl
    rw [e0]
    refine k _ d l1 l2 l3 nd n1' n2' n3' ?_ ⟨upd_same, ?_, ⟨[], ?_, .nil⟩, ?_⟩ ?_
    · simp only [List.nodup_cons, List.mem_cons, List.not_mem_nil, or_false, not_or, not_false_eq_true, List.nodup_nil, and_true]
      exact ⟨⟨c1.symm, d2.symm⟩, d1.symm⟩
    · rw [upd_ne a2, upd_ne d2.symm, upd_ne c1.symm, upd_same]
      rfl
    · rw [upd_ne c3, upd_ne d1.symm, upd_same]
    · rw [upd_ne d4, upd_same]
      rfl
    · have kd : Kp (fun b => b = d) H _ := ((((Kp.new (o := .dK []) nd).andN (o' := .lst [.non]) n0).andN n1).andN n2).andN (o' := .lst []) n3
      have hd : upd (upd (upd (upd (upd H d (.dK [])) l0 (.lst [V.non])) l1 (.lst (List.replicate (Int.toNat 35) [V.non]).flatten)) l2 (.lst [])) l3 (.lst []) d = some (.dK []) := by rw [upd_ne d4.symm, upd_ne c3.symm, upd_ne a2.symm, upd_ne b2.symm, upd_same]
      exact fun b o e n => (kd.andD hd rfl) b o e fun _ z => by rw [z, nd] at e; cases e
end
end K5

set_option Elab.async false
set_option linter.all false
set_option maxRecDepth 100000
set_option maxHeartbeats 2000000
namespace K5
open PySem PySem.Spec PyProof.Rows L2
section
variable {P : Program} {w : World} {K : PySem.W.Frag} {mg : Str → Option Value} {base : Heap} {A : Ad} {L : Nat → Addr}
/-! ### alike -/
theorem scAlike : FnScope ["_law_found", "_law_due", "_law_k"] ["_law_found", "_law_due"] (defScope sAlike) := ⟨rfl, rfl, rfl, by decide +kernel, rfl, by decide +kernel, by decide +kernel⟩
def spAlike (n : Nat) : Sp := fun vs H Q _ => ∃ x y, vs = [x, y] ∧ Al H n x y ∧ Q (.bl true) H
theorem no_fn {CX : CXT} {f : Addr} {fd : FuncData} {ps : List Str} {k : Nat} : FnOk P w K mg base CX k f fd ps (fun _ _ _ _ => False) := ⟨fun _ _ _ _ h => h.elim, fun _ _ _ _ _ _ _ _ _ _ _ _ _ h => h.elim⟩
theorem sp_len {vs : List V} {H : Hp} {Q : VK} {E : XK} {n : Nat} (h : spAlike n vs H Q E) : vs.length = 2 := by
  obtain ⟨x, y, rfl, _⟩ := h
  rfl
theorem ok_alike (T : Lw K mg A L) : ∃ fd, Binds K fd ["_law_found", "_law_due"] [] ∧ ∀ n, FnOk P w K mg base CX0 (n + 1) (L 25) fd ["_law_found", "_law_due"] (spAlike n) := by
  obtain ⟨fd, F⟩ := T.alike.fn
  have balike : Binds K fd ["_law_found", "_law_due"] [] := F.binds fun _ _ _ _ _ _ us hl => match us, hl with | [_, _], _ => rfl
  refine ⟨fd, balike, fun n => ?_⟩
  induction n with
  | zero => exact ⟨fun vs H Q E h => sp_len h, fun _ _ _ _ _ _ _ _ _ _ _ _ _ h => by obtain ⟨x, y, _, z, _⟩ := h; exact z.elim⟩
  | succ n Galike =>
    refine F.ok scAlike (fun vs H Q E h => sp_len h) (fun cdv Ar outer s H vs Q E hr h => ?_)
    obtain ⟨x, y, rfl, al, k⟩ := h
    refine ⟨_, (pss_cons (ps_if (pt_cmp (pc_isN (pv 1)))
        (pss_one (ps_ret (pe_cmp (pc_isN (pv 0)))))
        pss_nil)
      (pss_cons (ps_if (pt_val (pe_callB call_isi (by rfl) T.isinstance (by decide +kernel) (pa_cons (pv 1) (pa_cons (pe_bltn (v := .ty "bool") (by rfl) T.bool (by decide +kernel) rfl) pa_nil))))
        (pss_one (ps_ret (pe_and (pe_callB call_isi (by rfl) T.isinstance (by decide +kernel) (pa_cons (pv 0) (pa_cons (pe_bltn (v := .ty "bool") (by rfl) T.bool (by decide +kernel) rfl) pa_nil))) (pe_one (pe_cmpR op_eq (pv 0) (pv 1) (nomark _))))))
        pss_nil)
      (pss_cons (ps_if (pt_val (pe_callB call_isi (by rfl) T.isinstance (by decide +kernel) (pa_cons (pv 1) (pa_cons (pe_bltn (v := .ty "int") (by rfl) T.int (by decide +kernel) rfl) pa_nil))))
        (pss_one (ps_ret (pe_and (pe_callB call_isi (by rfl) T.isinstance (by decide +kernel) (pa_cons (pv 0) (pa_cons (pe_bltn (v := .ty "int") (by rfl) T.int (by decide +kernel) rfl) pa_nil))) (pe_and (pe_not (pe_callB call_isi (by rfl) T.isinstance (by decide +kernel) (pa_cons (pv 0) (pa_cons (pe_bltn (v := .ty "bool") (by rfl) T.bool (by decide +kernel) rfl) pa_nil)))) (pe_one (pe_cmpR op_eq (pv 0) (pv 1) (nomark _)))))))
        pss_nil)
      (pss_cons (ps_if (pt_val (pe_callB call_isi (by rfl) T.isinstance (by decide +kernel) (pa_cons (pv 1) (pa_cons (pe_bltn (v := .ty "str") (by rfl) T.str (by decide +kernel) rfl) pa_nil))))
        (pss_one (ps_ret (pe_and (pe_callB call_isi (by rfl) T.isinstance (by decide +kernel) (pa_cons (pv 0) (pa_cons (pe_bltn (v := .ty "str") (by rfl) T.str (by decide +kernel) rfl) pa_nil))) (pe_one (pe_cmpR op_eq (pv 0) (pv 1) (nomark _))))))
        pss_nil)
      (pss_cons (ps_if (PW.pt (pw_or (pt_cmpR op_ne (pe_callB call_isi (by rfl) T.isinstance (by decide +kernel) (pa_cons (pv 1) (pa_cons (pe_bltn (v := .ty "tuple") (by rfl) T.tuple (by decide +kernel) rfl) pa_nil))) (pe_callB call_isi (by rfl) T.isinstance (by decide +kernel) (pa_cons (pv 0) (pa_cons (pe_bltn (v := .ty "tuple") (by rfl) T.tuple (by decide +kernel) rfl) pa_nil))) (nomark _)) (pw_or1 (pt_cmpR op_ne (pe_callB call_isi (by rfl) T.isinstance (by decide +kernel) (pa_cons (pv 1) (pa_cons (pe_bltn (v := .ty "list") (by rfl) T.list (by decide +kernel) rfl) pa_nil))) (pe_callB call_isi (by rfl) T.isinstance (by decide +kernel) (pa_cons (pv 0) (pa_cons (pe_bltn (v := .ty "list") (by rfl) T.list (by decide +kernel) rfl) pa_nil))) (nomark _)))))
        (pss_one (ps_ret pe_bl))
        pss_nil)
      (pss_cons (ps_if (pt_cmpR op_ne (pe_callB call_len_seq (by rfl) T.len PySem.boot_len (pa_cons (pv 0) pa_nil)) (pe_callB call_len_seq (by rfl) T.len PySem.boot_len (pa_cons (pv 1) pa_nil)) (nomark _))
        (pss_one (ps_ret pe_bl))
        pss_nil)
      (pss_cons (ps_for PassesOwn.never rfl (pi_range1 (by rfl) T.range (pa_cons (pe_callB call_len_seq (by rfl) T.len PySem.boot_len (pa_cons (pv 1) pa_nil)) pa_nil)) (pg_name (i := 2) scAlike.nd rfl (Or.inl rfl))
        (pss_one (ps_if (pt_not (pt_val (pe_call Galike (hr.mono (by first | decide | omega)) rfl T.alike.at_ T.alike.kp balike .nil pass0 (pa_cons (pe_ix ix_seq (pv 0) (pv 2) (fun _ _ => rfl)) (pa_cons (pe_ix ix_seq (pv 1) (pv 2) (fun _ _ => rfl)) pa_nil)))))
          (pss_one (ps_ret pe_bl))
          pss_nil)))
      (pss_one (ps_ret pe_bl))))))))), ?_⟩
    have ki : ∀ {a b : String} {r : Bool}, kitB a b = some r → PySem.W.kitOne K (.type a) (.type b) = some r := fun h => h
    rcases al with ⟨lf, rfl⟩ | ⟨a, b, xs, ys, rfl, rfl, hab, hl, hyl, hal⟩
    · -- a leaf
      cases x with
      | non => exact ⟨_, rfl, _, rfl, iteT ⟨_, rfl, k⟩⟩
      | bl v =>
        refine ⟨_, rfl, _, rfl, iteF ⟨_, rfl, _, _, _, _, true, rfl, .ty "bool", .base (.bl v), by rfl, _, rfl, iteT ⟨_, rfl, _, _, _, _, true, rfl, .ty "bool", .base (.bl v), by rfl, true, rfl, iteT ⟨_, rfl, _, rfl, rfl, ?_⟩⟩⟩⟩
        rw [decide_eq_true rfl]
        exact k
      | int v =>
        refine ⟨_, rfl, _, rfl, iteF ⟨_, rfl, _, _, _, _, false, rfl, .ty "bool", .base (.int v), by rfl, _, rfl, iteF ⟨_, rfl, _, _, _, _, true, rfl, .ty "int", .base (.int v), by rfl, _, rfl, iteT ?_⟩⟩⟩
        refine ⟨_, rfl, _, _, _, _, true, rfl, .ty "int", .base (.int v), by rfl, true, rfl, iteT ⟨_, rfl, _, _, _, _, false, rfl, .ty "bool", .base (.int v), by rfl, false, rfl, true, rfl, iteT ⟨_, rfl, _, rfl, rfl, ?_⟩⟩⟩
        rw [decide_eq_true rfl]
        exact k
      | str v =>
        refine ⟨_, rfl, _, rfl, iteF ⟨_, rfl, _, _, _, _, false, rfl, .ty "bool", .base (.str v), by rfl, _, rfl, iteF ⟨_, rfl, _, _, _, _, false, rfl, .ty "int", .base (.str v), by rfl, _, rfl, iteF ⟨_, rfl, _, _, _, _, true, rfl, .ty "str", .base (.str v), by rfl, _, rfl, iteT ?_⟩⟩⟩⟩
        refine ⟨_, rfl, _, _, _, _, true, rfl, .ty "str", .base (.str v), by rfl, true, rfl, iteT ⟨_, rfl, _, rfl, rfl, ?_⟩⟩
        rw [decide_eq_true rfl]
        exact k
      | byt _ => cases lf
      | flt _ => cases lf
      | ref _ => cases lf
      | ty _ => cases lf
    · -- tuples or lists
      have hbig : (ys.length : Int) < 2 ^ 62 := hyl
      rcases hab with ⟨ha, hb⟩ | ⟨ha, hb⟩
      · have ta : TyX K H (.ref a) (.type "tuple") := .base (.tup ha)
        have tb : TyX K H (.ref b) (.type "tuple") := .base (.tup hb)
        refine ⟨_, rfl, _, rfl, iteF ⟨_, rfl, _, _, _, _, false, rfl, .ty "bool", tb, by rfl, _, rfl, iteF ⟨_, rfl, _, _, _, _, false, rfl, .ty "int", tb, by rfl, _, rfl, iteF ⟨_, rfl, _, _, _, _, false, rfl, .ty "str", tb, by rfl, _, rfl, iteF ?_⟩⟩⟩⟩
        refine ⟨_, rfl, _, _, _, _, true, rfl, .ty "tuple", tb, by rfl, _, rfl, _, _, _, _, true, rfl, .ty "tuple", ta, by rfl, rfl, false, by rfl, iteF ?_⟩
        refine ⟨_, rfl, _, _, _, _, false, rfl, .ty "list", tb, by rfl, _, rfl, _, _, _, _, false, rfl, .ty "list", ta, by rfl, rfl, false, by rfl, iteF ?_⟩
        refine ⟨_, rfl, a, xs, rfl, .inr (SqT.of ha), _, rfl, b, ys, rfl, .inr (SqT.of hb), rfl, false, ?_, iteF ?_⟩
        · rw [hl, decide_eq_true rfl]
          rfl
        refine ⟨_, rfl, b, ys, rfl, .inr (SqT.of hb), (ys.length : Int), rfl, by omega, hbig, for_range (lo := 0) (n := (ys.length : Int).toNat) (fun i σ G => G = H ∧ ∃ o, σ = [some (.ref a), some (.ref b), o]) ⟨rfl, none, rfl⟩ ?_ ?_⟩
        · rintro i σ G hi ⟨rfl, o, rfl⟩
          rw [Int.toNat_natCast] at hi
          have hx : xs[i]? = some xs[i] := List.getElem?_eq_getElem (by omega)
          have hy : ys[i]? = some ys[i] := List.getElem?_eq_getElem hi
          refine ⟨_, rfl, _, rfl, Or.inr (Or.inl ⟨a, xs, ((0 : Int) + i), xs[i], rfl, rfl, SqT.of ha, by rw [Int.zero_add]; exact atI_nat hx, ?_⟩)⟩
          refine ⟨_, rfl, _, rfl, Or.inr (Or.inl ⟨b, ys, ((0 : Int) + i), ys[i], rfl, rfl, SqT.of hb, by rw [Int.zero_add]; exact atI_nat hy, ?_⟩)⟩
          exact ⟨_, _, rfl, hal i _ _ hx hy, true, rfl, iteF ⟨rfl, _, rfl⟩⟩
        · rintro σ G ⟨rfl, o, rfl⟩
          exact k
      · have ta : TyX K H (.ref a) (.type "list") := .base (.lst ha)
        have tb : TyX K H (.ref b) (.type "list") := .base (.lst hb)
        refine ⟨_, rfl, _, rfl, iteF ⟨_, rfl, _, _, _, _, false, rfl, .ty "bool", tb, by rfl, _, rfl, iteF ⟨_, rfl, _, _, _, _, false, rfl, .ty "int", tb, by rfl, _, rfl, iteF ⟨_, rfl, _, _, _, _, false, rfl, .ty "str", tb, by rfl, _, rfl, iteF ?_⟩⟩⟩⟩
        refine ⟨_, rfl, _, _, _, _, false, rfl, .ty "tuple", tb, by rfl, _, rfl, _, _, _, _, false, rfl, .ty "tuple", ta, by rfl, rfl, false, by rfl, iteF ?_⟩
        refine ⟨_, rfl, _, _, _, _, true, rfl, .ty "list", tb, by rfl, _, rfl, _, _, _, _, true, rfl, .ty "list", ta, by rfl, rfl, false, by rfl, iteF ?_⟩
        refine ⟨_, rfl, a, xs, rfl, .inl (SqL.of ha), _, rfl, b, ys, rfl, .inl (SqL.of hb), rfl, false, ?_, iteF ?_⟩
        · rw [hl, decide_eq_true rfl]
          rfl
        refine ⟨_, rfl, b, ys, rfl, .inl (SqL.of hb), (ys.length : Int), rfl, by omega, hbig, for_range (lo := 0) (n := (ys.length : Int).toNat) (fun i σ G => G = H ∧ ∃ o, σ = [some (.ref a), some (.ref b), o]) ⟨rfl, none, rfl⟩ ?_ ?_⟩
        · rintro i σ G hi ⟨rfl, o, rfl⟩
          rw [Int.toNat_natCast] at hi
          have hx : xs[i]? = some xs[i] := List.getElem?_eq_getElem (by omega)
          have hy : ys[i]? = some ys[i] := List.getElem?_eq_getElem hi
          refine ⟨_, rfl, _, rfl, Or.inl ⟨a, xs, ((0 : Int) + i), xs[i], rfl, rfl, SqL.of ha, by rw [Int.zero_add]; exact atI_nat hx, ?_⟩⟩
          refine ⟨_, rfl, _, rfl, Or.inl ⟨b, ys, ((0 : Int) + i), ys[i], rfl, rfl, SqL.of hb, by rw [Int.zero_add]; exact atI_nat hy, ?_⟩⟩
          exact ⟨_, _, rfl, hal i _ _ hx hy, true, rfl, iteF ⟨rfl, _, rfl⟩⟩
        · rintro σ G ⟨rfl, o, rfl⟩
          exact k
end
end K5

set_option Elab.async false
set_option linter.all false
set_option maxRecDepth 100000
set_option maxHeartbeats 2000000
namespace K5
open PySem PySem.Spec PyProof.Rows L2
theorem leaves {H : Hp} {n : Nat} : ∀ {xs : List V}, (∀ v ∈ xs, leafV v = true) → SumD (Dat H (n + 1)) xs xs.length xs.length
  | [], _ => ⟨rfl, rfl⟩
  | v :: vs, h => ⟨1, _, 1, _, .inl ⟨h v List.mem_cons_self, rfl, rfl⟩, leaves fun u hu => h u (List.mem_cons_of_mem _ hu), by rw [List.length_cons]; omega, by rw [List.length_cons]; omega⟩
theorem cut_pre (xs : List V) {k : Int} (h0 : 0 ≤ k) (h1 : k ≤ xs.length) : cutV xs none (some k) = xs.take k.toNat := by
  obtain ⟨m, rfl⟩ := Int.eq_ofNat_of_zero_le h0
  unfold cutV
  have e : HT.sIx xs.length xs.length (some ((m : Nat) : Int)) = min m xs.length := HT.sIx_nat _ _ _
  rw [HT.sIx_none, e, List.drop_zero, Nat.sub_zero, Int.toNat_natCast]
  have h2 : m ≤ xs.length := by omega
  rw [Nat.min_eq_left h2]
theorem cut_suf (xs : List V) {k : Int} (h0 : 0 ≤ k) (h1 : k ≤ xs.length) : cutV xs (some k) none = xs.drop k.toNat := by
  obtain ⟨m, rfl⟩ := Int.eq_ofNat_of_zero_le h0
  unfold cutV
  have e : HT.sIx xs.length 0 (some ((m : Nat) : Int)) = min m xs.length := HT.sIx_nat _ _ _
  have h2 : m ≤ xs.length := by omega
  rw [HT.sIx_none, e, Int.toNat_natCast, Nat.min_eq_left h2, List.take_of_length_le (by rw [List.length_drop]; exact Nat.le_refl _)]
section
variable {P : Program} {w : World} {K : PySem.W.Frag} {mg : Str → Option Value} {base : Heap} {A : Ad} {L : Nat → Addr}
/-! ### weight -/
abbrev NscWeight : List Str := ["_law_what_here", "_law_one"]
theorem scWeight : FnScope NscWeight ["_law_what_here"] (defScope sWeight) := ⟨rfl, rfl, rfl, by decide +kernel, rfl, by decide +kernel, by decide +kernel⟩
def spWeight (n : Nat) : Sp := fun vs H Q _ => ∃ v x z, vs = [v] ∧ Dat H n v x z ∧ z ≤ 10000 ∧ ∀ G, Kp No H G → Q (.int (x : Nat)) G
theorem spw_len {vs : List V} {H : Hp} {Q : VK} {E : XK} {n : Nat} (h : spWeight n vs H Q E) : vs.length = 1 := by
  obtain ⟨x, y, z, rfl, _⟩ := h
  rfl
theorem SumD.at {P : V → Nat → Nat → Prop} : ∀ {xs : List V} {w z : Nat}, SumD P xs w z → ∃ ws : List Nat, ws.length = xs.length ∧ ws.sum = w ∧ ∀ (i : Nat) (v : V), xs[i]? = some v → ∃ x a, ws[i]? = some x ∧ P v x a ∧ a ≤ z
  | [], _, _, ⟨e, _⟩ => ⟨[], rfl, e.symm, fun i v h => by simp at h⟩
  | v :: vs, _, _, ⟨x, y, a, b, p, r, e, f⟩ => by
    obtain ⟨ws, h1, h2, h3⟩ := SumD.at r
    refine ⟨x :: ws, by rw [List.length_cons, List.length_cons, h1], by rw [List.sum_cons, h2, e], fun i u h => ?_⟩
    cases i with
    | zero =>
      cases (Option.some.inj h)
      exact ⟨x, a, rfl, p, by omega⟩
    | succ i =>
      obtain ⟨x', a', q1, q2, q3⟩ := h3 i u (by simpa using h)
      exact ⟨x', a', by simpa using q1, q2, by omega⟩
theorem sum_nat : ∀ ws : List Nat, (ws.map (fun x : Nat => (x : Int))).sum = (ws.sum : Nat)
  | [] => rfl
  | x :: ws => by
    rw [List.map_cons, List.sum_cons, sum_nat ws, List.sum_cons]
    omega
theorem ok_weight (T : Lw K mg A L) : ∃ fd, Binds K fd ["_law_what_here"] [] ∧ ∀ n, FnOk P w K mg base CX0 (n + 1) (L 29) fd ["_law_what_here"] (spWeight n) := by
  obtain ⟨fd, F⟩ := T.weight.fn
  have bweight : Binds K fd ["_law_what_here"] [] := F.binds fun _ _ _ _ _ _ us hl => match us, hl with | [_], _ => rfl
  refine ⟨fd, bweight, fun n => ?_⟩
  induction n with
  | zero => exact ⟨fun vs H Q E h => spw_len h, fun _ _ _ _ _ _ _ _ _ _ _ _ _ h => by obtain ⟨x, y, z, _, q, _⟩ := h; exact q.elim⟩
  | succ n Gweight =>
    refine F.ok scWeight (fun vs H Q E h => spw_len h) (fun cdv Ar outer s H vs Q E hr h => ?_)
    obtain ⟨v, x, z, rfl, hd, hz, k⟩ := h
    refine ⟨_, (pss_cons (ps_if (pt_not (pt_val (pe_callB call_isi (by rfl) T.isinstance (by decide +kernel) (pa_cons (pv 0) (pa_cons (pe_bltn (v := .ty "tuple") (by rfl) T.tuple (by decide +kernel) rfl) pa_nil)))))
        (pss_one (ps_ret pe_int))
        pss_nil)
      (pss_one (ps_ret (pe_callB (cr_sum rfl) (by rfl) T.sum (by decide +kernel) (pa_cons (pe_lc (own := [("_law_one", 1)]) (g := gName 1) (by rfl) scWeight.nd (pi_tup (pv 0)) (blkOk_by (N := NscWeight) (sc := defScope sWeight) (by decide +kernel)) (fun _ _ _ _ _ => pg_name (i := 1) scWeight.nd rfl (Or.inl rfl)) (fun _ _ _ _ _ => pts_nil) (fun _ _ _ _ _ => (pe_call Gweight (hr.mono (by first | decide | omega)) rfl T.weight.at_ T.weight.kp bweight .nil pass0 (pa_cons (pv 1) pa_nil)))) pa_nil))))), ?_⟩
    rcases hd with ⟨lf, rfl, rfl⟩ | ⟨a, xs, u, rfl, ha, hs, rfl⟩
    · have ty : ∃ t, TyX K H v t ∧ PySem.W.kitOne K t (.type "tuple") = some false := by
        cases v with
        | non => exact ⟨_, .base .non, by rfl⟩
        | bl b => exact ⟨_, .base (.bl b), by rfl⟩
        | int i => exact ⟨_, .base (.int i), by rfl⟩
        | str z => exact ⟨_, .base (.str z), by rfl⟩
        | byt _ => cases lf
        | flt _ => cases lf
        | ref _ => cases lf
        | ty _ => cases lf
      obtain ⟨t, t1, t2⟩ := ty
      exact ⟨_, rfl, v, _, t, _, false, rfl, .ty "tuple", t1, t2, false, rfl, iteT (k H (Kp.refl _ _))⟩
    · refine ⟨_, rfl, .ref a, _, _, _, true, rfl, .ty "tuple", .base (.tup ha), by rfl, true, rfl, iteF ?_⟩
      obtain ⟨ws, w1, w2, w3⟩ := hs.at
      have hlen := hs.len
      refine ⟨_, rfl, a, rfl, ⟨_, SqT.of ha⟩, fun D hD => lc_tup (K := K) (a := a) (xs := xs) (fun i G => G D = some (.lst ((ws.take i).map fun x => V.int (x : Nat))) ∧ Kp No H G) ⟨by rw [upd_same]; rfl, Kp.new hD⟩ (fun i G _ ⟨_, kp⟩ => SqT.of (kp.t.tup ha)) ?_ ?_⟩
      · rintro i y G hy ⟨hG, kp⟩
        obtain ⟨x', a', q1, q2, q3⟩ := w3 i y hy
        refine ⟨rfl, ?_⟩
        refine ⟨y, rfl, y, x', a', rfl, q2.kt kp.t, by omega, fun J kJ => ?_⟩
        have hJ : J D = _ := kJ.t.lst hG fun z => z
        refine ⟨_, hJ, ?_, ?_, ?_⟩
        · rw [List.length_map, List.length_take]
          exact Nat.lt_of_le_of_lt (Nat.min_le_left _ _) (Nat.lt_of_lt_of_le (show i < 10001 by have := (List.getElem?_eq_some_iff.mp hy).1; omega) (sz _ (by decide)))
        · rw [upd_same, take_succ_of q1, List.map_append]
          rfl
        · exact fun b o e n => by
            have nb : b ≠ D := ne_of_none e hD
            rw [upd_ne nb]
            exact kJ b o (kp b o e n) n
      · rintro G ⟨hG, kp⟩
        rw [← w1, List.take_length] at hG
        refine ⟨D, ws.map (fun x : Nat => (x : Int)), rfl, SqL.of ?_, ?_⟩
        · rw [hG, List.map_map]
          rfl
        · rw [sum_nat, w2]
          exact k G kp
end
end K5

set_option Elab.async false
set_option linter.all false
set_option maxRecDepth 100000
set_option maxHeartbeats 2000000
namespace K5
open PySem PySem.Spec PyProof.Rows L2
def cN : Nat → Nat
  | 0 => 1
  | n + 1 => 2 * cN n + 2
theorem BoxAt.kp {F : Addr → Prop} {H G : Hp} {bx bi : Addr} (k : Kp F H G) (b : BoxAt H bx bi) (n : ∀ a, F a → ¬ bF bx bi a) : BoxAt G bx bi := b.kt k.t n
theorem BoxAt.new {H : Hp} {bx bi a : Addr} {o : HO} (b : BoxAt H bx bi) (h : H a = none) : BoxAt (upd H a o) bx bi := b.kt (Kp.new (F := No) h).t fun _ z => z.elim
theorem BoxAt.out {H : Hp} {bx bi a : Addr} (b : BoxAt H bx bi) (h : H a = none) : ¬ bF bx bi a := fun z => by
  obtain ⟨ns, st, h1, h2, _⟩ := b.ex
  rcases z with z | z
  · rw [z, h1] at h
    cases h
  · rw [z, h2] at h
    cases h
section
variable {P : Program} {w : World} {K : PySem.W.Frag} {mg : Str → Option Value} {base : Heap} {A : Ad} {L : Nat → Addr}
/-! ### nest -/
theorem scNest : FnScope ["_law_box", "_law_parts", "_law_deep", "_law_at"] ["_law_box", "_law_parts", "_law_deep"] (defScope sNest) := ⟨rfl, rfl, rfl, by decide +kernel, rfl, by decide +kernel, by decide +kernel⟩
def spNest (n : Nat) : Sp := fun vs H Q _ => ∃ bx bi a xs, vs = [.ref bx, .ref a, .int (n : Nat)] ∧ BoxAt H bx bi ∧ H a = some (.lst xs) ∧ ¬ bF bx bi a ∧ (∀ v ∈ xs, leafV v = true) ∧ xs.length ≤ 60 ∧
  ∀ v z G, Dat G (n + 2) v xs.length z → z ≤ xs.length + cN n → BoxAt G bx bi → Kp (bF bx bi) H G → Q v G
theorem spn_len {vs : List V} {H : Hp} {Q : VK} {E : XK} {n : Nat} (h : spNest n vs H Q E) : vs.length = 3 := by
  obtain ⟨x, y, z, u, rfl, _⟩ := h
  rfl
theorem ok_nest (T : Lw K mg A L) : ∃ fd, Binds K fd ["_law_box", "_law_parts", "_law_deep"] [] ∧ ∀ n, n ≤ 3 → FnOk P w K mg base CX0 (n + 2) (L 27) fd ["_law_box", "_law_parts", "_law_deep"] (spNest n) := by
  obtain ⟨fd, F⟩ := T.nest.fn
  obtain ⟨fdT, Gtake, btake⟩ := ok_take (P := P) (w := w) (base := base) T
  have bnest : Binds K fd ["_law_box", "_law_parts", "_law_deep"] [] := F.binds fun _ _ _ _ _ _ us hl => match us, hl with | [_, _, _], _ => rfl
  refine ⟨fd, bnest, fun n hn => ?_⟩
  have main : ∀ (n : Nat) (sp : Sp), n ≤ 3 → FnOk P w K mg base CX0 (n + 1) (L 27) fd ["_law_box", "_law_parts", "_law_deep"] sp → (∀ m, n = m + 1 → sp = spNest m) → FnOk P w K mg base CX0 (n + 2) (L 27) fd ["_law_box", "_law_parts", "_law_deep"] (spNest n) := by
    intro n sp hn Gnest hsp
    refine F.ok scNest (fun vs H Q E h => spn_len h) (fun cdv Ar outer s H vs Q E hr h => ?_)
    obtain ⟨bx, bi, a, xs, rfl, B, ha, nb, hleaf, hlen, k⟩ := h
    refine ⟨_, (pss_cons (ps_set (i := 3) scNest.nd rfl (Or.inl rfl) (pe_call Gtake (hr.mono (by first | decide | omega)) rfl T.take.at_ T.take.kp btake .nil pass0 (pa_cons (pv 0) (pa_cons (pe_op op_add (pe_callB call_len_seq (by rfl) T.len PySem.boot_len (pa_cons (pv 1) pa_nil)) pe_int) pa_nil))))
      (pss_cons (ps_if (pt_cmpR op_eq (pv 2) pe_int (nomark _))
        (pss_one (ps_ret (pe_callTy call_tuple_of (by rfl) T.tuple (by decide +kernel) (pa_cons (pv 1) pa_nil))))
        pss_nil)
      (pss_cons (ps_if (pt_cmpR op_eq (pe_call Gtake (hr.mono (by first | decide | omega)) rfl T.take.at_ T.take.kp btake .nil pass0 (pa_cons (pv 0) (pa_cons pe_int pa_nil))) pe_int (nomark _))
        (pss_one (ps_ret (pe_tup (pa_cons (pe_call Gnest (hr.mono (by first | decide | omega)) rfl T.nest.at_ T.nest.kp bnest .nil pass0 (pa_cons (pv 0) (pa_cons (pe_slice sl_list (pv 1) po_none (po_some (pv 3))) (pa_cons (pe_op op_sub (pv 2) pe_int) pa_nil)))) (pa_cons (pe_tup pa_nil) (pa_cons (pe_call Gnest (hr.mono (by first | decide | omega)) rfl T.nest.at_ T.nest.kp bnest .nil pass0 (pa_cons (pv 0) (pa_cons (pe_slice sl_list (pv 1) (po_some (pv 3)) po_none) (pa_cons (pe_op op_sub (pv 2) pe_int) pa_nil)))) pa_nil))))))
        pss_nil)
      (pss_one (ps_ret (pe_op op_catA (pe_callTy call_tuple_of (by rfl) T.tuple (by decide +kernel) (pa_cons (pe_slice sl_list (pv 1) po_none (po_some (pv 3))) pa_nil)) (pe_tup (pa_cons (pe_call Gnest (hr.mono (by first | decide | omega)) rfl T.nest.at_ T.nest.kp bnest .nil pass0 (pa_cons (pv 0) (pa_cons (pe_slice sl_list (pv 1) (po_some (pv 3)) po_none) (pa_cons (pe_op op_sub (pv 2) pe_int) pa_nil)))) pa_nil)))))))), ?_⟩
    -- _law_at
    refine ⟨_, rfl, _, rfl, a, xs, rfl, .inl (SqL.of ha), _, _, rfl, rfl, bx, bi, _, rfl, B, by omega, by omega, fun r G h0 h1 BG kG => ?_⟩
    have ga : G a = some (.lst xs) := kG.t.lst ha nb
    have h2 : r ≤ xs.length := by omega
    refine ⟨_, rfl, rfl, _, rfl, ?_⟩
    cases n with
    | zero =>
      rw [decide_eq_true (show V.int ((0 : Nat) : Int) = V.int 0 from rfl)]
      refine iteT ⟨_, rfl, a, _, rfl, .inl ⟨SqL.of ga, fun t nt => ?_⟩⟩
      refine k _ (xs.length + 1) _ (.inr ⟨t, xs, xs.length, rfl, upd_same, leaves hleaf, rfl⟩) (Nat.le_refl _) (BG.new nt) (kG.andN nt)
    | succ n =>
      rw [decide_eq_false (show ¬ V.int ((n + 1 : Nat) : Int) = V.int 0 from fun z => by injection z with z; omega)]
      have es := hsp n rfl
      subst es
      have sub1 : ∀ {v : V}, v ∈ xs.take r.toNat → leafV v = true := fun h => hleaf _ (List.mem_of_mem_take h)
      have sub2 : ∀ {v : V}, v ∈ xs.drop r.toNat → leafV v = true := fun h => hleaf _ (List.mem_of_mem_drop h)
      have l1 : (xs.take r.toNat).length = r.toNat := by rw [List.length_take]; omega
      have l2 : (xs.drop r.toNat).length = xs.length - r.toNat := by rw [List.length_drop]
      have en : ((n + 1 : Nat) : Int) - 1 = (n : Nat) := by omega
      refine iteF ⟨_, rfl, bx, bi, 3, rfl, BG, by decide, by decide, fun r2 G2 q0 q1 BG2 kG2 => ?_⟩
      have kH2 : Kp (bF bx bi) H G2 := kG.trans kG2 fun _ z => .inl z
      have ga2 : G2 a = some (.lst xs) := kG2.t.lst ga nb
      refine ⟨rfl, _, rfl, ?_⟩
      refine ite2 (fun _ => ?_) (fun _ => ?_)
      · -- (nest(..), (), nest(..))
        refine ⟨_, rfl, _, rfl, _, rfl, _, rfl, a, xs, rfl, SqL.of ga2, fun p1 np1 => ?_⟩
        rw [cut_pre xs h0 h2]
        refine ⟨_, rfl, _, _, rfl, rfl, bx, bi, p1, xs.take r.toNat, (by show [V.ref bx, V.ref p1, V.int (((n + 1 : Nat) : Int) - 1)] = _; rw [en]), BG2.new np1, upd_same, BG2.out np1, fun v h => sub1 h, by omega, fun v1 z1 G3 D1 hz1 BG3 kG3 => ?_⟩
        have kH3 : Kp (bF bx bi) H G3 := (kH2.andN np1).trans kG3 fun _ z => .inl z
        have ga3 : G3 a = some (.lst xs) := kG3.t.lst (by rw [upd_ne (ne_of_none ga2 np1)]; exact ga2) nb
        refine ⟨Nat.zero_le _, fun e ne => ?_⟩
        have D1e := D1.kt (Kp.new (F := No) (o := .tup []) ne).t
        refine ⟨_, rfl, _, rfl, _, rfl, _, rfl, a, xs, rfl, SqL.of (by rw [upd_ne (ne_of_none ga3 ne)]; exact ga3), fun p2 np2 => ?_⟩
        rw [cut_suf xs h0 h2]
        have BG4 := (BG3.new (o := .tup []) ne).new (o := .lst (xs.drop r.toNat)) np2
        refine ⟨_, rfl, _, _, rfl, rfl, bx, bi, p2, xs.drop r.toNat, (by show [V.ref bx, V.ref p2, V.int (((n + 1 : Nat) : Int) - 1)] = _; rw [en]), BG4, upd_same, (BG3.new (o := .tup []) ne).out np2, fun v h => sub2 h, by omega, fun v2 z2 G5 D2 hz2 BG5 kG5 => ?_⟩
        have kE5 : Kp (bF bx bi) (upd G3 e (.tup [])) G5 := (Kp.new np2).trans kG5 fun _ z => .inl z
        have kH5 : Kp (bF bx bi) H G5 := (kH3.andN ne).trans kE5 fun _ z => .inl z
        refine ⟨sz 3 (by decide), fun t nt => ?_⟩
        have D1t := (D1e.kt kE5.t).kt (Kp.new (F := No) (o := .tup [v1, .ref e, v2]) nt).t
        have D2t := D2.kt (Kp.new (F := No) (o := .tup [v1, .ref e, v2]) nt).t
        have ht : upd G5 t (.tup [v1, .ref e, v2]) e = some (.tup []) := by
          have q : G5 e = some (.tup []) := kE5.t.tup upd_same
          rw [upd_ne (ne_of_none q nt)]
          exact q
        refine k _ (z1 + 1 + z2 + 1) _ (.inr ⟨t, _, z1 + 1 + z2, rfl, upd_same, ⟨_, _, _, _, D1t, ⟨0, _, 1, _, .inr ⟨e, [], 0, rfl, ht, ⟨rfl, rfl⟩, rfl⟩, ⟨_, 0, _, 0, D2t, ⟨rfl, rfl⟩, rfl, rfl⟩, rfl, rfl⟩, by omega, by omega⟩, rfl⟩) ?_ (BG5.new nt) (kH5.andN nt)
        show z1 + 1 + z2 + 1 ≤ xs.length + (2 * cN n + 2)
        omega
      · -- tuple(..) + (nest(..),)
        refine ⟨_, rfl, _, rfl, _, rfl, a, xs, rfl, SqL.of ga2, fun p1 np1 => ⟨p1, _, rfl, .inl ⟨SqL.of upd_same, fun t1 nt1 => ?_⟩⟩⟩
        rw [cut_pre xs h0 h2] at nt1 ⊢
        obtain ⟨_, nt1'⟩ := upd_none nt1
        have ga3 : upd (upd G2 p1 (.lst (xs.take r.toNat))) t1 (.tup (xs.take r.toNat)) a = some (.lst xs) := by rw [upd_ne (ne_of_none ga2 nt1'), upd_ne (ne_of_none ga2 np1)]; exact ga2
        refine ⟨_, rfl, _, rfl, _, rfl, _, rfl, a, xs, rfl, SqL.of ga3, fun p2 np2 => ?_⟩
        rw [cut_suf xs h0 h2] at *
        have BG3 := (BG2.new (o := .lst (xs.take r.toNat)) np1).new (o := .tup (xs.take r.toNat)) nt1
        refine ⟨_, rfl, _, _, rfl, rfl, bx, bi, p2, xs.drop r.toNat, (by show [V.ref bx, V.ref p2, V.int (((n + 1 : Nat) : Int) - 1)] = _; rw [en]), BG3.new np2, upd_same, BG3.out np2, fun v h => sub2 h, by omega, fun v2 z2 G5 D2 hz2 BG5 kG5 => ?_⟩
        have kE5 : Kp (bF bx bi) (upd (upd G2 p1 (.lst (xs.take r.toNat))) t1 (.tup (xs.take r.toNat))) G5 := (Kp.new np2).trans kG5 fun _ z => .inl z
        have kH5 : Kp (bF bx bi) H G5 := ((kH2.andN np1).andN nt1).trans kE5 fun _ z => .inl z
        refine ⟨sz 1 (by decide), fun t2 nt2 => ?_⟩
        have k6 : Kp (bF bx bi) H (upd G5 t2 (.tup [v2])) := kH5.andN nt2
        have q1 : upd G5 t2 (.tup [v2]) t1 = some (.tup (xs.take r.toNat)) := by
          have q : G5 t1 = some (.tup (xs.take r.toNat)) := kE5.t.tup upd_same
          rw [upd_ne (ne_of_none q nt2)]
          exact q
        have D2t := D2.kt (Kp.new (F := No) (o := .tup [v2]) nt2).t
        refine ⟨t1, t2, _, _, rfl, rfl, SqT.of q1, SqT.of upd_same, sz _ (by show (xs.take r.toNat).length + 1 ≤ 16777216; omega), fun e => ?_, (fun _ e => nomatch e), fun _ _ t3 nt3 => ?_⟩
        · have hr0 : r.toNat = 0 := by rw [← l1, e]; rfl
          refine k _ (z2 + 1) _ (.inr ⟨t2, [v2], z2, rfl, upd_same, ⟨_, 0, _, 0, D2t, ⟨rfl, rfl⟩, by rw [l2, hr0]; rfl, rfl⟩, rfl⟩) ?_ (BG5.new nt2) k6
          show z2 + 1 ≤ xs.length + (2 * cN n + 2)
          omega
        · have D3 := D2t.kt (Kp.new (F := No) (o := .tup (xs.take r.toNat ++ [v2])) nt3).t
          refine k _ (r.toNat + z2 + 1) _ (.inr ⟨t3, _, r.toNat + z2, rfl, upd_same, ?_, rfl⟩) ?_ ((BG5.new nt2).new nt3) (k6.andN nt3)
          · have lf : SumD (Dat (upd (upd G5 t2 (.tup [v2])) t3 (.tup (xs.take r.toNat ++ [v2]))) (n + 1 + 1)) (xs.take r.toNat) _ _ := leaves fun v h => sub1 h
            have q := lf.app (ys := [v2]) ⟨_, 0, _, 0, D3, ⟨rfl, rfl⟩, rfl, rfl⟩
            rw [l1, l2] at q
            have e3 : r.toNat + (xs.length - r.toNat + 0) = xs.length := by omega
            rw [e3] at q
            exact q
          · show r.toNat + z2 + 1 ≤ xs.length + (2 * cN n + 2)
            omega
  induction n with
  | zero => exact main 0 (fun _ _ _ _ => False) hn ⟨fun vs H Q E h => h.elim, fun _ _ _ _ _ _ _ _ _ _ _ _ _ h => h.elim⟩ fun m e => by omega
  | succ n ih => exact main (n + 1) (spNest n) hn (ih (by omega)) fun m e => congrArg spNest (by omega)
end
end K5

set_option Elab.async false
set_option linter.all false
set_option maxRecDepth 100000
set_option maxHeartbeats 2000000
namespace K5
open PySem PySem.Spec PyProof.Rows L2
section
variable {P : Program} {w : World} {K : PySem.W.Frag} {mg : Str → Option Value} {base : Heap} {A : Ad} {L : Nat → Addr}
/-! ### what -/
def spNestA : Sp := fun vs H Q E => ∃ n, n ≤ 3 ∧ spNest n vs H Q E
theorem ok_nestA (T : Lw K mg A L) : ∃ fd, FnOk P w K mg base CX0 5 (L 27) fd ["_law_box", "_law_parts", "_law_deep"] spNestA ∧ Binds K fd ["_law_box", "_law_parts", "_law_deep"] [] := by
  obtain ⟨fd, b, G⟩ := ok_nest (P := P) (w := w) (base := base) T
  exact ⟨fd, ⟨fun vs H Q E ⟨n, _, h⟩ => spn_len h, fun Ar outer s H args us vs Q E hr e0 hb r ⟨n, hn, h⟩ => (G n hn).run Ar outer s H args us vs Q E (hr.mono (by omega)) e0 hb r h⟩, b⟩
abbrev NscWhat : List Str := ["_law_box", "_law_way", "_law_some", "_law_parts", "_law_k"]
theorem scWhat : FnScope NscWhat ["_law_box"] (defScope sWhat) := ⟨rfl, rfl, rfl, by decide +kernel, rfl, by decide +kernel, by decide +kernel⟩
def spWhat : Sp := fun vs H Q _ => ∃ bx bi, vs = [.ref bx] ∧ BoxAt H bx bi ∧ ∀ v x z G, Dat G 5 v x z → z ≤ 200 → BoxAt G bx bi → Kp (bF bx bi) H G → Q v G
theorem lfS (i : Nat) (h : i < 4) (r : Int) : ∃ v, ([V.int r, V.str "text", V.non, V.bl true] : List V)[i]? = some v ∧ leafV v = true := by
  match i, h with
  | 0, _ => exact ⟨_, rfl, rfl⟩
  | 1, _ => exact ⟨_, rfl, by decide +kernel⟩
  | 2, _ => exact ⟨_, rfl, rfl⟩
  | 3, _ => exact ⟨_, rfl, rfl⟩
theorem ok_what (T : Lw K mg A L) : ∃ fd, FnOk P w K mg base CX0 6 (L 28) fd ["_law_box"] spWhat ∧ Binds K fd ["_law_box"] [] := by
  obtain ⟨fd, F⟩ := T.what.fn
  obtain ⟨fdT, Gtake, btake⟩ := ok_take (P := P) (w := w) (base := base) T
  obtain ⟨fdN, Gnest, bnest⟩ := ok_nestA (P := P) (w := w) (base := base) T
  refine ⟨fd, F.ok scWhat (fun vs H Q E h => ?_) (fun cdv Ar outer s H vs Q E hr h => ?_), F.binds fun _ _ _ _ _ _ us hl => match us, hl with | [_], _ => rfl⟩
  · obtain ⟨bx, bi, rfl, _⟩ := h
    rfl
  · obtain ⟨bx, bi, rfl, B, k⟩ := h
    refine ⟨_, (pss_cons (ps_set (i := 1) scWhat.nd rfl (Or.inl rfl) (pe_call Gtake (hr.mono (by first | decide | omega)) rfl T.take.at_ T.take.kp btake .nil pass0 (pa_cons (pv 0) (pa_cons pe_int pa_nil))))
      (pss_cons (ps_if (pt_cmpR op_eq (pv 1) pe_int (nomark _))
        (pss_cons (ps_set (i := 2) scWhat.nd rfl (Or.inr rfl) (pe_lst (pa_cons (pe_call Gtake (hr.mono (by first | decide | omega)) rfl T.take.at_ T.take.kp btake .nil pass0 (pa_cons (pv 0) (pa_cons pe_int pa_nil))) (pa_cons pe_str (pa_cons pe_non (pa_cons pe_bl pa_nil))))))
        (pss_cons (ps_setLc (i := 3) (own := [("_law_k", 4)]) (g := gName 4) (te := tOp (rIxL K) (tVar 2) (tCall spTake [] E0 (tCons (tVar 0) (tCons (tC (.int 4)) tNil)))) (by rfl) scWhat.nd rfl rfl (sw_true rfl rfl rfl (by decide +kernel)) (pi_range1 (by rfl) T.range (pa_cons (pe_op op_add pe_int (pe_call Gtake (hr.mono (by first | decide | omega)) rfl T.take.at_ T.take.kp btake .nil pass0 (pa_cons (pv 0) (pa_cons pe_int pa_nil)))) pa_nil)) (blkOk_by (N := NscWhat) (sc := defScope sWhat) (by decide +kernel)) (fun _ _ _ _ _ => pg_name (i := 4) scWhat.nd rfl (Or.inl rfl)) (fun _ _ _ _ _ => pts_nil) (fun _ _ _ _ _ => (pe_ix ix_list (pv 2) (pe_call Gtake (hr.mono (by first | decide | omega)) rfl T.take.at_ T.take.kp btake .nil pass0 (pa_cons (pv 0) (pa_cons pe_int pa_nil))) (fun _ _ => rfl))))
        (pss_one (ps_ret (pe_call Gnest (hr.mono (by first | decide | omega)) rfl T.nest.at_ T.nest.kp bnest .nil pass0 (pa_cons (pv 0) (pa_cons (pv 3) (pa_cons (pe_call Gtake (hr.mono (by first | decide | omega)) rfl T.take.at_ T.take.kp btake .nil pass0 (pa_cons (pv 0) (pa_cons pe_int pa_nil))) pa_nil))))))))
        pss_nil)
      (pss_cons (ps_set (i := 2) scWhat.nd rfl (Or.inr rfl) (pe_lst (pa_cons pe_non (pa_cons (pe_call Gtake (hr.mono (by first | decide | omega)) rfl T.take.at_ T.take.kp btake .nil pass0 (pa_cons (pv 0) (pa_cons pe_int pa_nil))) (pa_cons (pe_tup (pa_cons pe_str (pa_cons (pe_tup (pa_cons pe_int (pa_cons (pe_call Gtake (hr.mono (by first | decide | omega)) rfl T.take.at_ T.take.kp btake .nil pass0 (pa_cons (pv 0) (pa_cons pe_int pa_nil))) (pa_cons pe_non pa_nil)))) pa_nil))) (pa_cons pe_str (pa_cons (pe_tup (pa_cons (pe_tup pa_nil) (pa_cons (pe_tup (pa_cons pe_bl (pa_cons (pe_tup (pa_cons (pe_tup (pa_cons pe_int pa_nil)) pa_nil)) pa_nil))) pa_nil))) pa_nil)))))))
      (pss_one (ps_ret (pe_ix ix_list (pv 2) (pv 1) (fun _ _ => rfl))))))), ?_⟩
    refine ⟨_, rfl, bx, bi, 6, rfl, B, by decide, by decide, fun way G0 w0 w1 B0 k0 => ?_⟩
    refine ⟨_, rfl, rfl, _, rfl, ?_⟩
    refine ite2 (fun _ => ?_) (fun hw => ?_)
    · -- a long row of leaves, nested
      refine ⟨_, rfl, bx, bi, 9, rfl, B0, by decide, by decide, fun r G1 r0 r1 B1 k1 => ⟨sz 4 (by decide), fun sl nsl => ?_⟩⟩
      have kH1 := k0.trans k1 fun _ z => .inl z
      have Bs := B1.new (o := .lst [V.int r, .str "text", .non, .bl true]) nsl
      refine ⟨_, rfl, bx, bi, 8, rfl, Bs, by decide, by decide, fun c G2 c0 c1 B2 k2 => ?_⟩
      have kH2 := (kH1.andN nsl).trans k2 fun _ z => .inl z
      have hs2 : G2 sl = some (.lst [V.int r, .str "text", .non, .bl true]) := k2.t.lst upd_same (B1.out nsl)
      have nsb : ¬ bF bx bi sl := B1.out nsl
      refine ⟨_, _, rfl, rfl, (36 + c : Int), rfl, by omega, by omega, fun D nD => lc_range (lo := 0) (n := (36 + c : Int).toNat) (fun i G => ∃ acc, G D = some (.lst acc) ∧ acc.length = i ∧ (∀ v ∈ acc, leafV v = true) ∧ BoxAt G bx bi ∧ G sl = some (.lst [V.int r, .str "text", .non, .bl true]) ∧ Kp (bF bx bi) H G) ⟨[], upd_same, rfl, (fun v h => by cases h), B2.new nD, by rw [upd_ne (ne_of_none hs2 nD)]; exact hs2, kH2.andN nD⟩ ?_ ?_⟩
      · rintro i G hi ⟨acc, hG, hl, hlf, BG, hsG, kG⟩
        refine ⟨rfl, ?_⟩
        refine ⟨_, rfl, _, rfl, bx, bi, 4, rfl, BG, by decide, by decide, fun j J j0 j1 BJ kJ => ?_⟩
        have nDb : ¬ bF bx bi D := B2.out nD
        have hJ : J D = some (.lst acc) := kJ.t.lst hG nDb
        have hsJ := kJ.t.lst hsG nsb
        obtain ⟨v, hv, lv⟩ := lfS j.toNat (by omega) r
        have hat : atI ([V.int r, V.str "text", V.non, V.bl true] : List V) j = some v := by
          obtain ⟨m, rfl⟩ := Int.eq_ofNat_of_zero_le j0
          exact atI_nat (by simpa using hv)
        refine ⟨sl, _, j, v, rfl, rfl, SqL.of hsJ, hat, acc, hJ, Nat.lt_of_lt_of_le (show acc.length < 100 by omega) (sz _ (by decide)), acc ++ [v], upd_same, by rw [List.length_append, hl]; rfl, fun u hu => ?_, BJ.kt (Kp.updL (F := fun b => b = D) hJ rfl).t (fun a e z => nDb (e ▸ z)), ?_, ?_⟩
        · rcases List.mem_append.mp hu with h | h
          · exact hlf u h
          · have := List.mem_singleton.mp h
            rw [this]
            exact lv
        · rw [upd_ne (fun e => by rw [e] at hs2; rw [nD] at hs2; cases hs2)]
          exact hsJ
        · exact fun b o e n => by
            have nb : b ≠ D := fun z => by
              have q := kH2 b o e n
              rw [z, nD] at q
              cases q
            rw [upd_ne nb]
            exact kJ b o (kG b o e n) n
      · rintro G ⟨acc, hG, hl, hlf, BG, hsG, kG⟩
        refine ⟨_, rfl, _, rfl, _, rfl, bx, bi, 4, rfl, BG, by decide, by decide, fun dp J d0 d1 BJ kJ => ?_⟩
        have hJ : J D = some (.lst acc) := kJ.t.lst hG (B2.out nD)
        refine ⟨dp.toNat, by omega, bx, bi, D, acc, by show [V.ref bx, V.ref D, V.int dp] = _; rw [Int.toNat_of_nonneg d0], BJ, hJ, B2.out nD, hlf, by omega, fun v z I Dv hz BI kI => ?_⟩
        have hc : cN dp.toNat ≤ 22 := by
          have h4 : dp.toNat < 4 := by omega
          match dp.toNat, h4 with
          | 0, _ => decide
          | 1, _ => decide
          | 2, _ => decide
          | 3, _ => decide
        exact k v _ z I (Dv.le (by omega)) (by omega) BI ((kG.trans kJ fun _ z => .inl z).trans kI fun _ z => .inl z)
    · -- one of five
      refine ⟨_, rfl, bx, bi, 100, rfl, B0, by decide, by decide, fun r G1 r0 r1 B1 k1 => ?_⟩
      have kH1 := k0.trans k1 fun _ z => .inl z
      refine ⟨_, rfl, bx, bi, 9, rfl, B1, by decide, by decide, fun r2 G2 s0 s1 B2 k2 => ⟨sz 3 (by decide), fun t1 n1 => ⟨sz 2 (by decide), fun t2 n2 => ⟨Nat.zero_le _, fun e ne => ⟨sz 1 (by decide), fun q1 m1 => ⟨sz 1 (by decide), fun q2 m2 => ⟨sz 2 (by decide), fun q3 m3 => ⟨sz 2 (by decide), fun q4 m4 => ⟨sz 5 (by decide), fun l nl => ?_⟩⟩⟩⟩⟩⟩⟩⟩⟩
      have kH2 := kH1.trans k2 fun _ z => .inl z
      have K4 := Kp.new (F := bF bx bi) (o := .lst [.non, .int r, .ref t2, .str "text", .ref q4]) nl
      have K3 := (Kp.new (F := bF bx bi) (o := .tup [.ref e, .ref q3]) m4).trans K4 fun _ z => .inl z
      have K2 := (Kp.new (F := bF bx bi) (o := .tup [.bl true, .ref q2]) m3).trans K3 fun _ z => .inl z
      have K1 := (Kp.new (F := bF bx bi) (o := .tup [.ref q1]) m2).trans K2 fun _ z => .inl z
      have K0 := (Kp.new (F := bF bx bi) (o := .tup [.int 2]) m1).trans K1 fun _ z => .inl z
      have Ke := (Kp.new (F := bF bx bi) (o := .tup []) ne).trans K0 fun _ z => .inl z
      have Kt2 := (Kp.new (F := bF bx bi) (o := .tup [.str "a", .ref t1]) n2).trans Ke fun _ z => .inl z
      have Kt1 := (Kp.new (F := bF bx bi) (o := .tup [.int 1, .int r2, .non]) n1).trans Kt2 fun _ z => .inl z
      have kH := kH2.trans Kt1 fun _ z => .inl z
      have BL := (((((((B2.new n1).new n2).new ne).new m1).new m2).new m3).new m4).new (o := .lst [.non, .int r, .ref t2, .str "text", .ref q4]) nl
      have ft1 := Kt2.t.tup upd_same
      have ft2 := Ke.t.tup upd_same
      have fe := K0.t.tup upd_same
      have fq1 := K1.t.tup upd_same
      have fq2 := K2.t.tup upd_same
      have fq3 := K3.t.tup upd_same
      have fq4 := K4.t.tup upd_same
      have hw5 : way ≠ 5 := fun z => hw (by rw [z]; rfl)
      have get : ∀ (j : Nat) (v : V), ([.non, .int r, .ref t2, .str "text", .ref q4] : List V)[j]? = some v → way = (j : Nat) → atI ([.non, .int r, .ref t2, .str "text", .ref q4] : List V) way = some v := fun j v e1 e2 => by
        rw [e2]
        exact atI_nat e1
      have lf : ∀ {J : Hp} {n : Nat} {v : V}, leafV v = true → Dat J (n + 1) v 1 1 := fun h => .inl ⟨h, rfl, rfl⟩
      refine ⟨_, rfl, _, rfl, ?_⟩
      rcases (show way = 0 ∨ way = 1 ∨ way = 2 ∨ way = 3 ∨ way = 4 by omega) with z | z | z | z | z
      · exact ⟨l, _, way, _, rfl, rfl, SqL.of upd_same, get 0 _ rfl z, k _ _ 1 _ (lf rfl) (by decide) BL kH⟩
      · exact ⟨l, _, way, _, rfl, rfl, SqL.of upd_same, get 1 _ rfl z, k _ _ 1 _ (lf rfl) (by decide) BL kH⟩
      · refine ⟨l, _, way, _, rfl, rfl, SqL.of upd_same, get 2 _ rfl z, k _ 4 6 _ (.inr ⟨t2, _, 5, rfl, ft2, ⟨1, 3, 1, 4, lf (by decide +kernel), ⟨3, 0, 4, 0, .inr ⟨t1, _, 3, rfl, ft1, ⟨1, 2, 1, 2, lf rfl, ⟨1, 1, 1, 1, lf rfl, ⟨1, 0, 1, 0, lf rfl, ⟨rfl, rfl⟩, rfl, rfl⟩, rfl, rfl⟩, rfl, rfl⟩, rfl⟩, ⟨rfl, rfl⟩, rfl, rfl⟩, rfl, rfl⟩, rfl⟩) (by decide) BL kH⟩
      · exact ⟨l, _, way, _, rfl, rfl, SqL.of upd_same, get 3 _ rfl z, k _ _ 1 _ (lf (by decide +kernel)) (by decide) BL kH⟩
      · refine ⟨l, _, way, _, rfl, rfl, SqL.of upd_same, get 4 _ rfl z, k _ 2 7 _ (.inr ⟨q4, _, 6, rfl, fq4, ⟨0, 2, 1, 5, .inr ⟨e, [], 0, rfl, fe, ⟨rfl, rfl⟩, rfl⟩, ⟨2, 0, 5, 0, .inr ⟨q3, _, 4, rfl, fq3, ⟨1, 1, 1, 3, lf rfl, ⟨1, 0, 3, 0, .inr ⟨q2, _, 2, rfl, fq2, ⟨1, 0, 2, 0, .inr ⟨q1, _, 1, rfl, fq1, ⟨1, 0, 1, 0, lf rfl, ⟨rfl, rfl⟩, rfl, rfl⟩, rfl⟩, ⟨rfl, rfl⟩, rfl, rfl⟩, rfl⟩, ⟨rfl, rfl⟩, rfl, rfl⟩, rfl, rfl⟩, rfl⟩, ⟨rfl, rfl⟩, rfl, rfl⟩, rfl, rfl⟩, rfl⟩) (by decide) BL kH⟩
end
end K5

set_option Elab.async false
set_option linter.all false
set_option maxRecDepth 100000
set_option maxHeartbeats 2000000
namespace K5
open PySem PySem.Spec PyProof.Rows L2
/-- picks that lack are as good as not there -/
theorem putIf_lack : ∀ (ps : List (Int × V)) (bs : List Bool) (n : Nat) (s : List V), putIf s (ps.zip (bs ++ List.replicate n false)) = putIf s (ps.zip bs)
  | [], _, _, _ => rfl
  | p :: ps, b :: bs, n, s => by
    show putIf (if b then put1 s p else s) (ps.zip (bs ++ List.replicate n false)) = putIf (if b then put1 s p else s) (ps.zip bs)
    exact putIf_lack ps bs n _
  | p :: ps, [], 0, s => rfl
  | p :: ps, [], n + 1, s => by
    show putIf s (ps.zip ([] ++ List.replicate n false)) = s
    rw [putIf_lack ps [] n s, List.zip_nil_right]
    rfl
section
variable {P : Program} {w : World} {K : PySem.W.Frag} {mg : Str → Option Value} {base : Heap} {A : Ad} {L : Nat → Addr}
/-! ### fall -/
theorem scFall : FnScope ["_law_own", "_law_picks", "_law_k", "_law_block", "_law_what_here"] ["_law_own", "_law_picks"] (defScope sFall) := ⟨rfl, rfl, rfl, by decide +kernel, rfl, by decide +kernel, by decide +kernel⟩
def spFall : Sp := fun vs H Q _ => ∃ d l1 l2 l3 b m bs, vs = [.ref d, .ref b] ∧ OwnAt H d l1 l2 l3 m ∧ Good m ∧ m.pend.length ≤ 200 ∧ H b = some (.lst (bs.map V.bl)) ∧ b ≠ l1 ∧ l1 ≠ l2 ∧ l3 ≠ l1 ∧ bs.length ≤ 1000 ∧
  ∀ G l2', H l2' = none → OwnAt G d l1 l2' l3 (m.stop bs) → Kp (oF d l1 l2 l3) H G → Q .non G
theorem ok_fall (T : Lw K mg A L) : ∃ fd, FnOk P w K mg base CX0 1 (L 31) fd ["_law_own", "_law_picks"] spFall ∧ Binds K fd ["_law_own", "_law_picks"] [] := by
  obtain ⟨fd, F⟩ := T.fall.fn
  refine ⟨fd, F.ok scFall (fun vs H Q E h => ?_) (fun cdv Ar outer s H vs Q E hr h => ?_), F.binds fun _ _ _ _ _ _ us hl => match us, hl with | [_, _], _ => rfl⟩
  · obtain ⟨d, l1, l2, l3, b, m, bs, rfl, _⟩ := h
    rfl
  · obtain ⟨d, l1, l2, l3, b, m, bs, rfl, O, Gm, hlen, hb, nb1, n12, n31, hbl, k⟩ := h
    have hu := hu_of hr
    obtain ⟨rs, h3, h4⟩ := O.pend
    have nd1 : d ≠ l1 := ne_of O.dc O.sure (by intro z; cases z)
    have nd2 : d ≠ l2 := ne_of O.dc h3 (by intro z; cases z)
    have hrl := Paired.length h4
    refine ⟨_, (pss_cons (ps_for PassesOwn.never rfl (pi_range1 (by rfl) T.range (pa_cons (pe_callB call_len_seq (by rfl) T.len PySem.boot_len (pa_cons (pe_dget hu (pv 0) pe_str (fun _ _ => rfl)) pa_nil)) pa_nil)) (pg_name (i := 2) scFall.nd rfl (Or.inl rfl))
        (pss_cons (ps_asg (pe_ix ix_list (pe_dget hu (pv 0) pe_str (fun _ _ => rfl)) (pv 2) (fun _ _ => rfl)) (pg_tup rfl (pgs_cons (pg_name (i := 3) scFall.nd rfl (Or.inl rfl)) (pgs_cons (pg_name (i := 4) scFall.nd rfl (Or.inl rfl)) pgs_nil))))
        (pss_one (ps_if (pt_val (pe_ix ix_list (pe_op op_cat (pe_callTy call_list_of (by rfl) T.list (by decide +kernel) (pa_cons (pv 1) pa_nil)) (pe_op op_rep (pe_lst (pa_cons pe_bl pa_nil)) pe_int)) (pv 2) (fun _ _ => rfl)))
          (pss_one (ps_asg (pv 4) (pg_sub (pe_dget hu (pv 0) pe_str (fun _ _ => rfl)) (pv 3) set_list)))
          pss_nil))))
      (pss_cons (ps_dput hu (pv 0) pe_str (pe_lst pa_nil) rfl)
      (pss_one (ps_dput hu (pv 0) pe_str pe_bl rfl)))), ?_⟩
    have dg : ∀ {G : Hp} (n : Str) (v : V), G d = some (.dK (ofl l1 l2 l3 (optV m.left) (!m.run))) → valV (ofl l1 l2 l3 (optV m.left) (!m.run)) (.inr n : Key) = some v → DGet G d (.str n) (some v) := fun n v hG e => by
      have q := DGet.k (k := (.inr n : Key)) hG
      rw [e] at q
      exact q
    refine ⟨_, rfl, d, _, rfl, dg "pending" _ O.dc rfl, l2, rs, rfl, .inl (SqL.of h3), (rs.length : Int), rfl, by omega, by omega, for_range (lo := 0) (n := (rs.length : Int).toNat) (fun i σ G => (∃ o1 o2 o3, σ = [some (.ref d), some (.ref b), o1, o2, o3]) ∧ Kp (fun a => a = l1) H G ∧ G l1 = some (.lst (putIf m.sure ((m.pend.zip (bs ++ List.replicate 200 false)).take i))))
      ⟨⟨none, none, none, rfl⟩, Kp.refl _ _, by rw [List.take_zero]; exact O.sure⟩ ?_ ?_⟩
    · rintro i σ G hi ⟨⟨o1, o2, o3, rfl⟩, kp, h1⟩
      rw [Int.toNat_natCast] at hi
      have hx : rs[i]? = some rs[i] := List.getElem?_eq_getElem hi
      obtain ⟨q, hq, t, et, ht⟩ := Paired.at h4 hx
      rw [et] at hx
      have gd := kp.t.dK O.dc nd1
      have g2 := kp.t.lst h3 n12.symm
      refine ⟨_, rfl, d, _, rfl, dg "pending" _ gd rfl, _, rfl, l2, rs, ((0 : Int) + i), .ref t, rfl, rfl, SqL.of g2, by rw [Int.zero_add]; exact atI_nat hx, t, _, rfl, SqT.of (kp.t.tup ht), rfl, _, _, rfl, _, _, rfl, rfl, ?_⟩
      -- (list(_law_picks) + [False] * 200)[_law_k]
      have gb := kp.t.lst hb nb1
      refine ⟨_, rfl, b, _, rfl, .inl (SqL.of gb), fun c nc => ⟨sz 1 (by decide), fun f nf => ⟨f, 200, _, rfl, rfl, upd_same, by decide, by decide, sz 200 (by decide), fun f2 nf2 => ?_⟩⟩⟩
      obtain ⟨x1, nf2'⟩ := upd_none nf2
      obtain ⟨x2, nf2''⟩ := upd_none nf2'
      obtain ⟨x3, nf'⟩ := upd_none nf
      refine ⟨c, f2, _, _, rfl, rfl, by rw [upd_ne x2.symm, upd_ne x3.symm, upd_same], upd_same, sz _ (by rw [List.length_map]; show bs.length + 200 ≤ 16777216; omega), fun e ne => ?_⟩
      have hc : ∃ pk, (bs ++ List.replicate 200 false)[i]? = some pk := ⟨_, List.getElem?_eq_getElem (by rw [List.length_append, List.length_replicate]; omega)⟩
      obtain ⟨pk, hpk⟩ := hc
      have hit : (bs.map V.bl ++ (List.replicate (Int.toNat 200) [V.bl false]).flatten)[i]? = some (V.bl pk) := by
        have e1 : (List.replicate (Int.toNat 200) [V.bl false]).flatten = (List.replicate 200 false).map V.bl := rfl
        rw [e1, ← List.map_append, List.getElem?_map, hpk]
        rfl
      refine ⟨_, rfl, e, _, ((0 : Int) + i), .bl pk, rfl, rfl, SqL.of upd_same, by rw [Int.zero_add]; exact atI_nat hit, _, rfl, ?_⟩
      have hz : (m.pend.zip (bs ++ List.replicate 200 false))[i]? = some (q, pk) := by rw [List.getElem?_zip_eq_some]; exact ⟨hq, hpk⟩
      have e1 := take_succ_of hz
      have kn : Kp (fun a => a = l1) G _ := ((((Kp.new (F := fun a => a = l1) (o := .lst (bs.map V.bl)) nc).andN (o' := .lst [.bl false]) nf).andN (o' := .lst (List.replicate (Int.toNat 200) [V.bl false]).flatten) nf2).andN (o' := .lst (bs.map V.bl ++ (List.replicate (Int.toNat 200) [V.bl false]).flatten)) ne)
      have q1 : upd (upd (upd (upd G c (.lst (bs.map V.bl))) f (.lst [.bl false])) f2 (.lst (List.replicate (Int.toNat 200) [V.bl false]).flatten)) e (.lst (bs.map V.bl ++ (List.replicate (Int.toNat 200) [V.bl false]).flatten)) l1 = some (.lst (putIf m.sure ((m.pend.zip (bs ++ List.replicate 200 false)).take i))) := by
        obtain ⟨y1, ne'⟩ := upd_none ne
        obtain ⟨y2, ne'⟩ := upd_none ne'
        obtain ⟨y3, ne'⟩ := upd_none ne'
        rw [upd_ne (ne_of_none h1 ne'), upd_ne (ne_of_none h1 nf2''), upd_ne (ne_of_none h1 nf'), upd_ne (ne_of_none h1 nc)]
        exact h1
      cases pk with
      | false =>
        refine iteF ⟨⟨_, _, _, rfl⟩, kp.trans kn fun _ z => .inl z, ?_⟩
        rw [e1, putIf_app]
        exact q1
      | true =>
        have hr' := Gm.blk q (List.mem_of_getElem? hq)
        have hl' : (putIf m.sure ((m.pend.zip (bs ++ List.replicate 200 false)).take i)).length = 35 := by rw [putIf_len, Gm.len]
        refine iteT ⟨_, rfl, _, rfl, d, _, rfl, dg "settled" _ (kn.t.dK gd nd1) rfl, _, rfl, l1, _, q.1, q.1.toNat, rfl, rfl, q1, ixN_in hr'.1 (by rw [hl']; omega), ⟨_, _, _, rfl⟩, (kp.trans kn fun _ z => .inl z).andL q1 rfl, ?_⟩
        rw [upd_same, e1, putIf_app]
        rfl
    · rintro σ G ⟨⟨o1, o2, o3, rfl⟩, kp, h1⟩
      have et : (m.pend.zip (bs ++ List.replicate 200 false)).take (rs.length : Int).toNat = m.pend.zip (bs ++ List.replicate 200 false) := by
        refine List.take_of_length_le ?_
        rw [List.length_zip, Int.toNat_natCast, hrl]
        exact Nat.min_le_left _ _
      rw [et, putIf_lack] at h1
      have gd := kp.t.dK O.dc nd1
      refine ⟨Nat.zero_le _, fun x nx => ?_⟩
      have ndx : d ≠ x := ne_of_none gd nx
      have hxH : H x = none := kp.free nx fun z => by rw [z, h1] at nx; cases nx
      refine ⟨_, rfl, d, _, rfl, DPut.k (k := (.inr "pending" : Key)) (by rw [upd_ne ndx]; exact gd) (Nat.lt_of_lt_of_le (show 5 < 100 by decide) (sz _ (by decide))), ?_⟩
      refine ⟨_, rfl, d, _, rfl, DPut.k (k := (.inr "fallen" : Key)) upd_same (Nat.lt_of_lt_of_le (show 5 < 100 by decide) (sz _ (by decide))), ?_⟩
      have es : m.stop bs = ⟨putIf m.sure (m.pend.zip bs), [], m.left, m.picks, false⟩ := by
        unfold M.stop
        cases er : m.run with
        | true => rfl
        | false =>
          have hp := Gm.fal er
          obtain ⟨a1, a2, a3, a4, a5⟩ := m
          dsimp only at hp er
          subst hp er
          rfl
      have n3d : l3 ≠ d := ne_of O.picks O.dc (by intro z; cases z)
      have kG : Kp (oF d l1 l2 l3) H G := kp.sub fun a z => .inr (.inl z)
      refine k _ x hxH ?_ (((kG.andN nx).andD (by rw [upd_ne ndx]; exact gd) (.inl rfl)).andD upd_same (.inl rfl))
      rw [es]
      refine ⟨upd_same, ?_, ⟨[], ?_, .nil⟩, ?_⟩
      · rw [upd_ne nd1.symm, upd_ne nd1.symm, upd_ne (ne_of_none h1 nx)]
        exact h1
      · rw [upd_ne ndx.symm, upd_ne ndx.symm, upd_same]
      · have g3 := kp.t.lst O.picks n31
        rw [upd_ne n3d, upd_ne n3d, upd_ne (ne_of_none g3 nx)]
        exact g3
end
end K5

set_option Elab.async false
set_option linter.all false
set_option maxRecDepth 100000
set_option maxHeartbeats 2000000
namespace K5
open PySem PySem.Spec PyProof.Rows L2
section
variable {P : Program} {w : World} {K : PySem.W.Frag} {mg : Str → Option Value} {base : Heap} {A : Ad} {L : Nat → Addr}
/-! ### count -/
theorem dgO {H : Hp} {d l1 l2 l3 : Addr} {m : M} (n : Str) (v : V) (O : H d = some (.dK (ofl l1 l2 l3 (optV m.left) (!m.run)))) (e : valV (ofl l1 l2 l3 (optV m.left) (!m.run)) (.inr n : Key) = some v) : DGet H d (.str n) (some v) := by
  have q := DGet.k (k := (.inr n : Key)) O
  rw [e] at q
  exact q
theorem scCount : FnScope ["_law_own"] ["_law_own"] (defScope sCount) := ⟨rfl, rfl, rfl, by decide +kernel, rfl, by decide +kernel, by decide +kernel⟩
def spCount : Sp := fun vs H Q _ => ∃ d l1 l2 l3 m, vs = [.ref d] ∧ OwnAt H d l1 l2 l3 m ∧ Good m ∧ m.pend.length ≤ 200 ∧ l1 ≠ l2 ∧ l3 ≠ l1 ∧ m.picks.length ≤ 1000 ∧
  ∀ G l2', (l2' = l2 ∨ H l2' = none) → OwnAt G d l1 l2' l3 m.count.2 → Kp (oF d l1 l2 l3) H G → (m.count.1 = true → l2' = l2) → Q (.bl m.count.1) G
theorem ok_count (T : Lw K mg A L) : ∃ fd, FnOk P w K mg base CX0 2 (L 32) fd ["_law_own"] spCount ∧ Binds K fd ["_law_own"] [] := by
  obtain ⟨fd, F⟩ := T.count.fn
  obtain ⟨fdF, Gfall, bfall⟩ := ok_fall (P := P) (w := w) (base := base) T
  refine ⟨fd, F.ok scCount (fun vs H Q E h => ?_) (fun cdv Ar outer s H vs Q E hr h => ?_), F.binds fun _ _ _ _ _ _ us hl => match us, hl with | [_], _ => rfl⟩
  · obtain ⟨d, l1, l2, l3, m, rfl, _⟩ := h
    rfl
  · obtain ⟨d, l1, l2, l3, m, rfl, O, Gm, hlen, n12, n31, hpk, k⟩ := h
    have hu := hu_of hr
    refine ⟨_, (pss_cons (ps_if (pt_val (pe_dget hu (pv 0) pe_str (fun _ _ => rfl)))
        (pss_one (ps_ret pe_bl))
        pss_nil)
      (pss_cons (ps_if (pt_cmpR op_eq (pe_dget hu (pv 0) pe_str (fun _ _ => rfl)) pe_int (nomark _))
        (pss_cons (ps_expr (pe_call Gfall (hr.mono (by first | decide | omega)) rfl T.fall.at_ T.fall.kp bfall .nil pass0 (pa_cons (pv 0) (pa_cons (pe_dget hu (pv 0) pe_str (fun _ _ => rfl)) pa_nil))))
        (pss_one (ps_ret pe_bl)))
        pss_nil)
      (pss_cons (ps_if (pt_cmp (pc_notN (pe_dget hu (pv 0) pe_str (fun _ _ => rfl))))
        (pss_one (ps_dput hu (pv 0) pe_str (pe_op op_sub (pe_dget hu (pv 0) pe_str (fun _ _ => rfl)) pe_int) rfl))
        pss_nil)
      (pss_one (ps_ret pe_bl))))), ?_⟩
    refine ⟨_, rfl, d, _, rfl, dgO "fallen" _ O.dc rfl, _, rfl, ?_⟩
    cases er : m.run with
    | false =>
      have ec : m.count = (false, m) := by unfold M.count; rw [er]; rfl
      rw [ec] at k
      exact iteT (k H l2 (.inl rfl) O (Kp.refl _ _) fun z => by cases z)
    | true =>
      refine iteF ⟨_, rfl, d, _, rfl, dgO "left" _ O.dc rfl, ?_⟩
      cases el : m.left with
      | none =>
        have ec : m.count = (true, m) := by unfold M.count; rw [er, el]; rfl
        rw [ec] at k
        refine ⟨rfl, _, rfl, ?_⟩
        rw [decide_eq_false (show ¬ optV none = V.int 0 from fun z => by cases z)]
        refine iteF ⟨_, rfl, d, optV m.left, rfl, dgO "left" _ O.dc rfl, _, rfl, ?_⟩
        rw [el]
        exact iteF (k H l2 (.inl rfl) O (Kp.refl _ _) fun _ => rfl)
      | some l =>
        have hl0 := Gm.nat l el
        refine ⟨rfl, _, rfl, ?_⟩
        by_cases z : l = 0
        · subst z
          have ec : m.count = (false, m.stop m.picks) := by
            unfold M.count
            rw [er, el]
            rfl
          rw [ec] at k
          rw [decide_eq_true (show optV (some 0) = V.int 0 from rfl)]
          refine iteT ⟨_, rfl, _, rfl, d, _, rfl, dgO "picks" _ O.dc rfl, d, l1, l2, l3, l3, m, m.picks, rfl, O, Gm, hlen, O.picks, n31, n12, n31, hpk, fun G x nx OG kG => ?_⟩
          exact k G x (.inr nx) OG kG fun z => by cases z
        · have ec : m.count = (true, ⟨m.sure, m.pend, some (l - 1), m.picks, m.run⟩) := by
            unfold M.count
            rw [er, el]
            show (if l ≤ 0 then _ else _) = _
            rw [if_neg (by omega)]
          rw [ec] at k
          rw [decide_eq_false (show ¬ optV (some l) = V.int 0 from fun e => by injection e with e; exact z e)]
          refine iteF ⟨_, rfl, d, optV m.left, rfl, dgO "left" _ O.dc rfl, _, rfl, ?_⟩
          rw [el]
          have gl : DGet H d (.str "left") (some (.int l)) := dgO "left" _ O.dc (by rw [el]; rfl)
          refine iteT ⟨_, rfl, d, .int l, rfl, gl, _, _, rfl, rfl, _, rfl, d, _, rfl, DPut.k (k := (.inr "left" : Key)) O.dc (Nat.lt_of_lt_of_le (show 5 < 100 by decide) (sz _ (by decide))), ?_⟩
          obtain ⟨rs, h3, h4⟩ := O.pend
          have kp := Kp.updD (F := oF d l1 l2 l3) (o' := .dK (putK (ofl l1 l2 l3 (optV m.left) (!m.run)) (.inr "left" : Key) (.int (l - 1)))) O.dc (.inl rfl)
          have nd : ∀ {a : Addr} {xs : List V}, H a = some (.lst xs) → a ≠ d := fun h => ne_of h O.dc (by intro z; cases z)
          exact k _ l2 (.inl rfl) ⟨by rw [upd_same, q_left]; rfl, by rw [upd_ne (nd O.sure)]; exact O.sure, ⟨rs, by rw [upd_ne (nd h3)]; exact h3, h4.kt kp.t⟩, by rw [upd_ne (nd O.picks)]; exact O.picks⟩ kp fun _ => rfl
end
end K5

set_option Elab.async false
set_option linter.all false
set_option maxRecDepth 100000
set_option maxHeartbeats 2000000
/-! ### 6. A disk beside the law's own telling of it -/
namespace K5
open PySem PySem.Spec PyProof.Rows L2
theorem Txt.m_arm {K : PySem.W.Frag} {mg : Str → Option Value} {A : Ad} (T : Txt K mg A) : Md K A.disk "arm" "Disk.arm" (sDk 4) (A.dm 4) := T.m4
theorem Txt.m_stop {K : PySem.W.Frag} {mg : Str → Option Value} {A : Ad} (T : Txt K mg A) : Md K A.disk "stop" "Disk.stop" (sDk 5) (A.dm 5) := T.m5
theorem Txt.m_again {K : PySem.W.Frag} {mg : Str → Option Value} {A : Ad} (T : Txt K mg A) : Md K A.disk "again" "Disk.again" (sDk 6) (A.dm 6) := T.m6
theorem Txt.m_settled {K : PySem.W.Frag} {mg : Str → Option Value} {A : Ad} (T : Txt K mg A) : Md K A.disk "settled" "Disk.settled" (sDk 7) (A.dm 7) := T.m7
/-- the two tell the same; what is armed is asked only while it runs -/
structure Sim (m o : M) : Prop where
  sure : m.sure = o.sure
  pend : m.pend = o.pend
  run : m.run = o.run
  arm : m.run = true → m.left = o.left ∧ m.picks = o.picks
structure Five (a b c d e : Addr) : Prop where
  ab : a ≠ b
  ac : a ≠ c
  ad : a ≠ d
  ae : a ≠ e
  bc : b ≠ c
  bd : b ≠ d
  be : b ≠ e
  cd : c ≠ d
  ce : c ≠ e
  de : d ≠ e
def DatL (H : Hp) (v : V) : Prop := ∃ x z, Dat H 5 v x z ∧ z ≤ 200
structure Side (A : Ad) (H : Hp) (p d ls lu l1 l2 l3 : Addr) (m o : M) : Prop where
  disk : DiskAt A H p ls lu m
  own : OwnAt H d l1 l2 l3 o
  sim : Sim m o
  five : Five ls lu l1 l2 l3
  good : Good m
  goodo : Good o
  few : o.picks.length ≤ 1000
  dat : ∀ v ∈ m.sure, DatL H v
  pdat : ∀ q ∈ m.pend, DatL H q.2
def sF (p d ls lu l1 l2 l3 : Addr) : Addr → Prop := fun b => dF p ls lu b ∨ oF d l1 l2 l3 b
theorem DatL.kt {F : Addr → Prop} {H G : Hp} {v : V} (k : Kt F H G) (h : DatL H v) : DatL G v := by
  obtain ⟨x, z, h, l⟩ := h
  exact ⟨x, z, h.kt k, l⟩
section
variable {A : Ad} {H G : Hp} {p d ls lu l1 l2 l3 : Addr} {m o : M}
theorem DiskAt.there (D : DiskAt A H p ls lu m) {b : Addr} (h : dF p ls lu b) : ∃ u, H b = some u ∧ Mu u := by
  obtain ⟨dx, tp, st, h1, _⟩ := D.ex
  obtain ⟨rs, h3, _⟩ := D.uns
  rcases h with rfl | rfl | rfl
  · exact ⟨_, h1, trivial⟩
  · exact ⟨_, D.sure, trivial⟩
  · exact ⟨_, h3, trivial⟩
theorem OwnAt.there (O : OwnAt H d l1 l2 l3 o) {b : Addr} (h : oF d l1 l2 l3 b) : ∃ u, H b = some u ∧ Mu u := by
  obtain ⟨rs, h3, _⟩ := O.pend
  rcases h with rfl | rfl | rfl | rfl
  · exact ⟨_, O.dc, trivial⟩
  · exact ⟨_, O.sure, trivial⟩
  · exact ⟨_, h3, trivial⟩
  · exact ⟨_, O.picks, trivial⟩
theorem Side.there (S : Side A H p d ls lu l1 l2 l3 m o) {b : Addr} (h : sF p d ls lu l1 l2 l3 b) : ∃ u, H b = some u ∧ Mu u := h.elim S.disk.there S.own.there
theorem Side.out (S : Side A H p d ls lu l1 l2 l3 m o) {b : Addr} (h : H b = none) : ¬ sF p d ls lu l1 l2 l3 b := fun z => by
  obtain ⟨u, e, _⟩ := S.there z
  rw [h] at e
  cases e
theorem Side.kt {F : Addr → Prop} (k : Kt F H G) (S : Side A H p d ls lu l1 l2 l3 m o) (n : ∀ b, F b → ¬ sF p d ls lu l1 l2 l3 b) : Side A G p d ls lu l1 l2 l3 m o :=
  ⟨S.disk.kt k fun b f z => n b f (.inl z), S.own.kt k fun b f z => n b f (.inr z), S.sim, S.five, S.good, S.goodo, S.few, fun v h => (S.dat v h).kt k, fun q h => (S.pdat q h).kt k⟩
theorem sep (D : DiskAt A H p ls lu m) (O : OwnAt H d l1 l2 l3 o) (f : Five ls lu l1 l2 l3) {b : Addr} (h : dF p ls lu b) : ¬ oF d l1 l2 l3 b := fun z => by
  obtain ⟨dx, tp, st, h1, _⟩ := D.ex
  obtain ⟨rs, h3, _⟩ := D.uns
  obtain ⟨rs', h4, _⟩ := O.pend
  have no : ∀ {u v : HO}, H b = some u → H b = some v → u = v := fun e1 e2 => Option.some.inj (e1.symm.trans e2)
  rcases h with rfl | rfl | rfl <;> rcases z with rfl | rfl | rfl | rfl
  · exact nomatch no h1 O.dc
  · exact nomatch no h1 O.sure
  · exact nomatch no h1 h4
  · exact nomatch no h1 O.picks
  · exact nomatch no D.sure O.dc
  · exact f.ac rfl
  · exact f.ad rfl
  · exact f.ae rfl
  · exact nomatch no h3 O.dc
  · exact f.bc rfl
  · exact f.bd rfl
  · exact f.be rfl
end
/-- with the addresses left open: S is what of the heap it has, no more than t writes are not settled -/
def SideE (A : Ad) (H : Hp) (p d : Addr) (S : Addr → Prop) (t : Nat) : Prop := ∃ ls lu l1 l2 l3 m o, Side A H p d ls lu l1 l2 l3 m o ∧ (∀ b, S b ↔ sF p d ls lu l1 l2 l3 b) ∧ m.pend.length ≤ t
theorem SideE.out {A : Ad} {H : Hp} {p d : Addr} {S : Addr → Prop} {t : Nat} (s : SideE A H p d S t) {b : Addr} (h : H b = none) : ¬ S b := by
  obtain ⟨ls, lu, l1, l2, l3, m, o, x, e, _⟩ := s
  exact fun z => x.out h ((e b).mp z)
theorem SideE.there {A : Ad} {H : Hp} {p d : Addr} {S : Addr → Prop} {t : Nat} (s : SideE A H p d S t) {b : Addr} (h : S b) : ∃ u, H b = some u ∧ Mu u := by
  obtain ⟨ls, lu, l1, l2, l3, m, o, x, e, _⟩ := s
  exact x.there ((e b).mp h)
theorem SideE.kt {A : Ad} {F : Addr → Prop} {H G : Hp} {p d : Addr} {S : Addr → Prop} {t : Nat} (k : Kt F H G) (s : SideE A H p d S t) (n : ∀ b, F b → ¬ S b) : SideE A G p d S t := by
  obtain ⟨ls, lu, l1, l2, l3, m, o, x, e, l⟩ := s
  exact ⟨ls, lu, l1, l2, l3, m, o, x.kt k fun b f z => n b f ((e b).mpr z), e, l⟩
theorem mem_put1 {s : List V} {q : Int × V} {v : V} (h : v ∈ put1 s q) : v ∈ s ∨ v = q.2 := by
  unfold put1 at h
  exact List.mem_or_eq_of_mem_set h
theorem mem_putIf : ∀ {ps : List ((Int × V) × Bool)} {s : List V} {v : V}, v ∈ putIf s ps → v ∈ s ∨ ∃ q ∈ ps, v = q.1.2
  | [], _, _, h => .inl h
  | (q, b) :: ps, s, v, h => by
    rcases mem_putIf (ps := ps) (s := if b then put1 s q else s) h with h | ⟨r, h1, h2⟩
    · cases b with
      | false => exact .inl h
      | true =>
        rcases mem_put1 h with h | h
        · exact .inl h
        · exact .inr ⟨_, List.mem_cons_self, h⟩
    · exact .inr ⟨r, List.mem_cons_of_mem _ h1, h2⟩
theorem mem_putAll : ∀ {ps : List (Int × V)} {s : List V} {v : V}, v ∈ putAll s ps → v ∈ s ∨ ∃ q ∈ ps, v = q.2
  | [], _, _, h => .inl h
  | q :: ps, s, v, h => by
    rcases mem_putAll (ps := ps) (s := put1 s q) h with h | ⟨r, h1, h2⟩
    · rcases mem_put1 h with h | h
      · exact .inl h
      · exact .inr ⟨_, List.mem_cons_self, h⟩
    · exact .inr ⟨r, List.mem_cons_of_mem _ h1, h2⟩
theorem Good.stop {m : M} (g : Good m) (bs : List Bool) : Good (m.stop bs) := by
  unfold M.stop
  cases e : m.run with
  | true => exact ⟨by show (putIf _ _).length = 35; rw [putIf_len, g.len], (fun q h => by cases h), Nat.zero_le _, (fun _ => rfl), g.nat⟩
  | false => exact g
theorem Sim.stop {m o : M} (s : Sim m o) (bs : List Bool) : Sim (m.stop bs) (o.stop bs) := by
  unfold M.stop
  rw [← s.run]
  cases e : m.run with
  | true => exact ⟨by show putIf _ _ = putIf _ _; rw [s.sure, s.pend], rfl, rfl, fun z => by cases z⟩
  | false => exact s
theorem Sim.count {m o : M} (s : Sim m o) : m.count.1 = o.count.1 ∧ Sim m.count.2 o.count.2 := by
  unfold M.count
  rw [← s.run]
  cases e : m.run with
  | false => exact ⟨rfl, s⟩
  | true =>
    obtain ⟨e1, e2⟩ := s.arm e
    rw [if_pos rfl, if_pos rfl, ← e1, ← e2]
    cases el : m.left with
    | none => exact ⟨rfl, s⟩
    | some l =>
      dsimp only
      by_cases hl : l ≤ 0
      · rw [if_pos hl, if_pos hl]
        exact ⟨rfl, s.stop _⟩
      · rw [if_neg hl, if_neg hl]
        exact ⟨rfl, ⟨s.sure, s.pend, rfl, fun _ => ⟨rfl, rfl⟩⟩⟩
theorem stop_few {m : M} (bs : List Bool) : (m.stop bs).pend.length ≤ m.pend.length := by
  unfold M.stop
  cases m.run
  · exact Nat.le_refl _
  · exact Nat.zero_le _
theorem stop_dat {H : Hp} {m : M} (bs : List Bool) (h1 : ∀ v ∈ m.sure, DatL H v) (h2 : ∀ q ∈ m.pend, DatL H q.2) : (∀ v ∈ (m.stop bs).sure, DatL H v) ∧ ∀ q ∈ (m.stop bs).pend, DatL H q.2 := by
  unfold M.stop
  cases m.run with
  | false => exact ⟨h1, h2⟩
  | true =>
    refine ⟨fun v h => ?_, fun q h => by cases h⟩
    rcases mem_putIf h with h | ⟨q, hq, rfl⟩
    · exact h1 v h
    · exact h2 _ (List.of_mem_zip (a := q.1) (b := q.2) hq).1
theorem stop_picks {m : M} (bs : List Bool) : (m.stop bs).picks = m.picks := by
  unfold M.stop
  cases m.run <;> rfl
theorem Good.stop2 {m : M} (g : Good m) : Good m.again := ⟨g.len, (fun q h => by cases h), Nat.zero_le _, (fun z => by cases z), fun l h => by cases h⟩
theorem Good.arm {m : M} (g : Good m) (n : Int) (bs : List Bool) (h : 0 ≤ n) : Good (m.arm n bs) := by
  unfold M.arm
  cases e : m.run with
  | true => exact ⟨g.len, g.blk, g.few, (fun z => by cases z), fun l z => by cases z; exact h⟩
  | false => exact g
end K5

set_option Elab.async false
set_option linter.all false
set_option maxRecDepth 100000
set_option maxHeartbeats 4000000
namespace K5
open PySem PySem.Spec PyProof.Rows L2
theorem dp_bools {K : PySem.W.Frag} {H : Hp} : ∀ bs : List Bool, DpAll K H (bs.map V.bl) (bs.map PyData.bool)
  | [] => .nil
  | b :: bs => .cons (.bl b) (dp_bools bs)
theorem lay_bools : ∀ bs : List Bool, PyData.canLayAll0 (bs.map PyData.bool) = true ∧ PyData.depthAll (bs.map PyData.bool) = 0
  | [] => ⟨by simp only [List.map_nil, PyData.canLayAll0], by simp only [List.map_nil, PyData.depthAll]⟩
  | b :: bs => by
    obtain ⟨h1, h2⟩ := lay_bools bs
    exact ⟨by simp only [List.map_cons, PyData.canLayAll0, PyData.canLay0, h1, Bool.and_self], by simp only [List.map_cons, PyData.depthAll, PyData.depth, h2]; rfl⟩
theorem shaped_bools (bs : List Bool) : SeqAt.shaped (.list (bs.map PyData.bool)) = true := by
  obtain ⟨h1, h2⟩ := lay_bools bs
  exact shaped_of (by simp only [PyData.canLay0]; exact h1) (by simp only [PyData.depth, h2]; omega)
theorem Sim.arm2 {m o : M} (s : Sim m o) (n : Int) (bs : List Bool) : Sim (m.arm n bs) ⟨o.sure, o.pend, some n, bs, o.run⟩ := by
  unfold M.arm
  by_cases e : m.run = true
  · rw [if_pos e]
    exact ⟨s.sure, s.pend, s.run, fun _ => ⟨rfl, rfl⟩⟩
  · rw [if_neg e]
    exact ⟨s.sure, s.pend, s.run, fun z => absurd z e⟩
section
variable {P : Program} {w : World} {K : PySem.W.Frag} {mg : Str → Option Value} {base : Heap} {A : Ad} {L : Nat → Addr}
/-! ### arms -/
abbrev NscArms : List Str := ["_law_box", "_law_disk", "_law_own", "_law_picks", "_law_handed", "_law_way", "_law_good", "_law_k"]
theorem scArms : FnScope NscArms ["_law_box", "_law_disk", "_law_own"] (defScope sArms) := ⟨rfl, rfl, rfl, by decide +kernel, rfl, by decide +kernel, by decide +kernel⟩
/-- what a turn's deed leaves: another state of the side, the box changed -/
def Turned (A : Ad) (bx bi p d : Addr) (S : Addr → Prop) (t : Nat) (H G : Hp) : Prop := BoxAt G bx bi ∧ (∃ S', SideE A G p d S' t ∧ (∀ b, S' b → S b ∨ H b = none)) ∧ Kp (fun b => bF bx bi b ∨ S b) H G
def spArms (A : Ad) : Sp := fun vs H Q _ => ∃ bx bi p d S t, vs = [.ref bx, .ref p, .ref d] ∧ BoxAt H bx bi ∧ SideE A H p d S t ∧ t ≤ 100 ∧ (∀ b, bF bx bi b → ¬ S b) ∧ ∀ G, Turned A bx bi p d S t H G → Q (.bl true) G
theorem ok_arms (T : Lw K mg A L) : ∃ fd, FnOk P w K mg base CX0 2 (L 35) fd ["_law_box", "_law_disk", "_law_own"] (spArms A) ∧ Binds K fd ["_law_box", "_law_disk", "_law_own"] [] := by
  obtain ⟨fd, F⟩ := T.arms.fn
  obtain ⟨fdT, Gtake, btake⟩ := ok_take (P := P) (w := w) (base := base) T
  obtain ⟨fdF, Gfall, bfall⟩ := ok_fall (P := P) (w := w) (base := base) T
  obtain ⟨fd4, G_arm, b_arm⟩ := ok_dk4 (P := P) (w := w) (base := base) T.toTxt
  obtain ⟨fd5, G_stop, b_stop⟩ := ok_dk5 (P := P) (w := w) (base := base) T.toTxt
  obtain ⟨fd6, G_again, b_again⟩ := ok_dk6 (P := P) (w := w) (base := base) T.toTxt
  refine ⟨fd, F.ok scArms (fun vs H Q E h => ?_) (fun cdv Ar outer s H vs Q E hr h => ?_), F.binds fun _ _ _ _ _ _ us hl => match us, hl with | [_, _, _], _ => rfl⟩
  · obtain ⟨bx, bi, p, d, S, t, rfl, _⟩ := h
    rfl
  · obtain ⟨bx, bi, p, d, S, t, rfl, B, SE, ht, hdis, k⟩ := h
    have hu := hu_of hr
    refine ⟨_, (pss_cons (ps_setLc (i := 3) (own := [("_law_k", 7)]) (g := gName 7) (by rfl) scArms.nd rfl rfl (sw_true rfl rfl rfl (by decide +kernel)) (pi_range1 (by rfl) T.range (pa_cons (pe_call Gtake (hr.mono (by first | decide | omega)) rfl T.take.at_ T.take.kp btake .nil pass0 (pa_cons (pv 0) (pa_cons pe_int pa_nil))) pa_nil)) (blkOk_by (N := NscArms) (sc := defScope sArms) (by decide +kernel)) (fun _ _ _ _ _ => pg_name (i := 7) scArms.nd rfl (Or.inl rfl)) (fun _ _ _ _ _ => pts_nil) (fun _ _ _ _ _ => (pe_cmpR op_eq (pe_call Gtake (hr.mono (by first | decide | omega)) rfl T.take.at_ T.take.kp btake .nil pass0 (pa_cons (pv 0) (pa_cons pe_int pa_nil))) pe_int (nomark _))))
      (pss_cons (ps_set (i := 4) scArms.nd rfl (Or.inl rfl) (pe_callTy call_list_of (by rfl) T.list (by decide +kernel) (pa_cons (pv 3) pa_nil)))
      (pss_cons (ps_set (i := 5) scArms.nd rfl (Or.inl rfl) (pe_call Gtake (hr.mono (by first | decide | omega)) rfl T.take.at_ T.take.kp btake .nil pass0 (pa_cons (pv 0) (pa_cons pe_int pa_nil))))
      (C8.pss_cut (ps_if (pt_cmpR op_lt (pv 5) pe_int (nomark _))
        (pss_cons (ps_dput hu (pv 2) pe_str (pe_call Gtake (hr.mono (by first | decide | omega)) rfl T.take.at_ T.take.kp btake .nil pass0 (pa_cons (pv 0) (pa_cons (pe_ix ix_list (pe_lst (pa_cons pe_int (pa_cons pe_int pa_nil))) (pv 5) (fun _ _ => rfl)) pa_nil))) rfl)
        (pss_cons (ps_dput hu (pv 2) pe_str (pv 3) rfl)
        (pss_one (ps_expr (pe_meth (pv 1) T.cl T.m_arm.me G_arm (hr.mono (by first | decide | omega)) b_arm .nil pass0 (pa_cons (pe_dget hu (pv 2) pe_str (fun _ _ => rfl)) (pa_cons (pv 4) pa_nil)))))))
        (pss_one (ps_if (pt_cmpR op_eq (pv 5) pe_int (nomark _))
          (pss_cons (ps_expr (pe_call Gfall (hr.mono (by first | decide | omega)) rfl T.fall.at_ T.fall.kp bfall .nil pass0 (pa_cons (pv 2) (pa_cons (pv 3) pa_nil))))
          (pss_one (ps_expr (pe_meth (pv 1) T.cl T.m_stop.me G_stop (hr.mono (by first | decide | omega)) b_stop .nil pass0 (pa_cons (pv 4) pa_nil)))))
          (pss_cons (ps_expr (pe_bm PySem.F.plainAttrs_dict PySem.F.slot_dict_update PySem.F.type_dict_update (mt_updP rfl) (pv 2) (pa_cons (pe_lst (pa_cons (pe_tup (pa_cons pe_str (pa_cons (pe_lst pa_nil) pa_nil))) (pa_cons (pe_tup (pa_cons pe_str (pa_cons pe_non pa_nil))) (pa_cons (pe_tup (pa_cons pe_str (pa_cons (pe_lst pa_nil) pa_nil))) (pa_cons (pe_tup (pa_cons pe_str (pa_cons pe_bl pa_nil))) pa_nil))))) pa_nil)))
          (pss_one (ps_expr (pe_meth0 (pv 1) T.cl T.m_again.me G_again (hr.mono (by first | decide | omega)) b_again .nil pass0)))))))
      (pss_cons (ps_set (i := 6) scArms.nd rfl (Or.inl rfl) (pe_cmpR (op_eqD hr.units) (pv 4) (pv 3) (nomark _)))
      (pss_cons (ps_expr (pe_bm PySem.F.plainAttrs_list PySem.F.slot_list_append PySem.F.type_list_append mt_append (pv 4) (pa_cons pe_bl pa_nil)))
      (pss_one (ps_ret (pv 6))))))))), ?_⟩
    -- _law_picks = [..]
    refine ⟨_, rfl, bx, bi, 9, rfl, B, by decide, by decide, fun c G0 c0 c1 B0 k0 => ⟨c, rfl, by omega, by omega, fun D nD => ?_⟩⟩
    refine lc_range (lo := 0) (n := c.toNat) (fun i G => ∃ bs : List Bool, G D = some (.lst (bs.map V.bl)) ∧ bs.length = i ∧ BoxAt G bx bi ∧ Kp (bF bx bi) H G) ⟨[], upd_same, rfl, B0.new nD, k0.andN nD⟩ ?_ ?_
    · rintro i G hi ⟨bs, hG, hl, BG, kG⟩
      refine ⟨rfl, ?_⟩
      refine ⟨_, rfl, bx, bi, 2, rfl, BG, by decide, by decide, fun j J j0 j1 BJ kJ => ⟨rfl, ?_⟩⟩
      have nDb : ¬ bF bx bi D := B0.out nD
      have hJ : J D = some (.lst (bs.map V.bl)) := kJ.t.lst hG nDb
      refine ⟨_, hJ, Nat.lt_of_lt_of_le (show (bs.map V.bl).length < 100 by rw [List.length_map]; omega) (sz _ (by decide)), bs ++ [decide (V.int j = V.int 0)], ?_, by rw [List.length_append, hl]; rfl, BJ.kt (Kp.updL (F := fun b => b = D) hJ rfl).t (fun a e z => nDb (e ▸ z)), ?_⟩
      · rw [upd_same, List.map_append]
        rfl
      · exact fun b o e n => by
          have nb : b ≠ D := fun z => by
            have q := k0 b o e n
            rw [z, nD] at q
            cases q
          rw [upd_ne nb]
          exact kJ b o (kG b o e n) n
    · rintro G ⟨bs, hG, hl, BG, kG⟩
      have nDH : H D = none := k0.free nD fun z => by have := B0.out nD z; exact this.elim
      have nDb : ¬ bF bx bi D := B0.out nD
      -- _law_handed = list(_law_picks)
      refine ⟨_, rfl, D, _, rfl, .inl (SqL.of hG), fun h nh => ?_⟩
      have nDh : D ≠ h := ne_of_none hG nh
      have nhH : H h = none := kG.free nh fun z => (BG.out nh z).elim
      have nhb : ¬ bF bx bi h := BG.out nh
      have Bh := BG.new (o := .lst (bs.map V.bl)) nh
      -- _law_way
      refine ⟨_, rfl, bx, bi, 4, rfl, Bh, by decide, by decide, fun way G1 w0 w1 B1 k1 => ?_⟩
      have kH1 : Kp (bF bx bi) H G1 := (kG.andN nh).trans k1 fun _ z => .inl z
      have hD1 : G1 D = some (.lst (bs.map V.bl)) := k1.t.lst (by rw [upd_ne nDh]; exact hG) nDb
      have hh1 : G1 h = some (.lst (bs.map V.bl)) := k1.t.lst upd_same nhb
      obtain ⟨ls, lu, l1, l2, l3, m, o, Sd, eS, hfew⟩ := SE.kt kH1.t fun b z => hdis b z
      have nDS : ¬ sF p d ls lu l1 l2 l3 D := fun z => SE.out nDH ((eS D).mpr z)
      have nhS : ¬ sF p d ls lu l1 l2 l3 h := fun z => SE.out nhH ((eS h).mpr z)
      have dS : ∀ b, bF bx bi b → ¬ sF p d ls lu l1 l2 l3 b := fun b z y => hdis b z ((eS b).mpr y)
      have hbs : bs.length ≤ 1000 := by omega
      have subS : ∀ b, sF p d ls lu l1 l2 l3 b → (fun b => bF bx bi b ∨ S b) b := fun b z => .inr ((eS b).mpr z)
      have kS1 : Kp (fun b => bF bx bi b ∨ S b) H G1 := kH1.sub fun b z => .inl z
      refine ⟨fun σ J => (∃ o6 o7, σ = [some (.ref bx), some (.ref p), some (.ref d), some (.ref D), some (.ref h), some (.int way), o6, o7]) ∧ BoxAt J bx bi ∧ J D = some (.lst (bs.map V.bl)) ∧ J h = some (.lst (bs.map V.bl)) ∧ (∃ S', SideE A J p d S' t ∧ (∀ b, S' b → S b ∨ H b = none) ∧ ¬ S' h) ∧ Kp (fun b => bF bx bi b ∨ S b) H J, ?_, ?_⟩
      · refine ⟨_, rfl, _, _, rfl, rfl, _, rfl, ?_⟩
        refine ite2 (fun h2 => ?_) (fun h2 => ?_)
        · -- armed
          have h2 : way < 2 := by simpa using h2
          refine ⟨_, rfl, sz 2 (by decide), fun l nl => ?_⟩
          have hv : ∃ n : Int, atI ([V.int 3, V.int 20] : List V) way = some (V.int n) ∧ 0 < n ∧ n ≤ 20 := by
            rcases (show way = 0 ∨ way = 1 by omega) with z | z
            · rw [z]
              exact ⟨3, rfl, by decide, by decide⟩
            · rw [z]
              exact ⟨20, rfl, by decide, by decide⟩
          obtain ⟨n, hn, n0, n1⟩ := hv
          refine ⟨_, rfl, l, _, way, _, rfl, rfl, SqL.of upd_same, hn, bx, bi, n, rfl, B1.new nl, n0, by omega, fun r G2 r0 r1 B2 k2 => ?_⟩
          have k12 : Kp (bF bx bi) G1 G2 := (Kp.new nl).trans k2 fun _ z => .inl z
          have S2 := Sd.kt k12.t dS
          have hD2 := k12.t.lst hD1 nDb
          have hh2 := k12.t.lst hh1 nhb
          have O2 := S2.own
          have nd : ∀ {J : Hp} {a : Addr} {xs : List V}, G2 a = some (.lst xs) → a ≠ d := fun h => ne_of h O2.dc (by intro z; cases z)
          have five := Sd.five
          obtain ⟨rs, h3, h4⟩ := O2.pend
          refine ⟨_, rfl, d, _, rfl, DPut.k (k := (.inr "left" : Key)) O2.dc (Nat.lt_of_lt_of_le (show 5 < 100 by decide) (sz _ (by decide))), ?_⟩
          refine ⟨_, rfl, _, rfl, d, _, rfl, DPut.k (k := (.inr "picks" : Key)) upd_same (Nat.lt_of_lt_of_le (show 5 < 100 by decide) (sz _ (by decide))), ?_⟩
          rw [q_left, q_picks, upd_upd]
          have kd : Kp (fun b => b = d) G2 (upd G2 d (.dK (ofl l1 l2 D (.int r) (!o.run)))) := Kp.updD O2.dc rfl
          have D3 := S2.disk.kt kd.t fun b e z => sep S2.disk O2 five (e ▸ z : dF p ls lu d) (.inl rfl)
          have O3 : OwnAt (upd G2 d (.dK (ofl l1 l2 D (.int r) (!o.run)))) d l1 l2 D ⟨o.sure, o.pend, some r, bs, o.run⟩ :=
            ⟨upd_same, by rw [upd_ne (nd (J := H) O2.sure)]; exact O2.sure, ⟨rs, by rw [upd_ne (nd (J := H) h3)]; exact h3, h4.kt kd.t⟩, by rw [upd_ne (nd (J := H) hD2)]; exact hD2⟩
          obtain ⟨dx, tp, st, g1, _⟩ := D3.ex
          have nhd : h ≠ d := nd (J := H) hh2
          refine ⟨_, rfl, p, dx, _, rfl, g1, rfl, _, rfl, d, .int r, rfl, DGet.k (k := (.inr "left" : Key)) O3.dc, _, rfl, p, ls, lu, m, r, h, bs, rfl, D3, by rw [upd_ne nhd]; exact hh2, fun J DJ kJ => ?_⟩
          have five' : Five ls lu l1 l2 D := ⟨five.ab, five.ac, five.ad, fun e => nDS (.inl (.inr (.inl e.symm))), five.bc, five.bd, fun e => nDS (.inl (.inr (.inr e.symm))), five.cd, fun e => nDS (.inr (.inr (.inl e.symm))), fun e => nDS (.inr (.inr (.inr (.inl e.symm))))⟩
          have OJ := O3.kt kJ.t fun b z y => sep D3 O3 five' z y
          have k2J : Kp (sF p d ls lu l1 l2 l3) G2 J := (kd.sub fun b (e : b = d) => (.inr (.inl e) : sF p d ls lu l1 l2 l3 b)).trans kJ fun b z => .inl (.inl z)
          refine ⟨⟨_, _, rfl⟩, B2.kt k2J.t fun b y z => dS b z y, k2J.t.lst hD2 nDS, k2J.t.lst hh2 nhS, ⟨sF p d ls lu l1 l2 D, ⟨ls, lu, l1, l2, D, m.arm r bs, _, ⟨DJ, OJ, ?_, five', Sd.good.arm r bs r0, ⟨Sd.goodo.len, Sd.goodo.blk, Sd.goodo.few, Sd.goodo.fal, fun l z => by cases z; exact r0⟩, hbs, ?_, ?_⟩, fun b => Iff.rfl, ?_⟩, ?_, ?_⟩, ?_⟩
          · exact Sd.sim.arm2 r bs
          · intro v hv
            have : v ∈ m.sure := by
              unfold M.arm at hv
              split at hv <;> exact hv
            exact (S2.dat v this).kt k2J.t
          · intro q hq
            have : q ∈ m.pend := by
              unfold M.arm at hq
              split at hq <;> exact hq
            exact (S2.pdat q this).kt k2J.t
          · unfold M.arm
            split <;> exact hfew
          · intro b z
            rcases z with z | z | z | z | z
            · exact .inl ((eS b).mpr (.inl z))
            · exact .inl ((eS b).mpr (.inr (.inl z)))
            · exact .inl ((eS b).mpr (.inr (.inr (.inl z))))
            · exact .inl ((eS b).mpr (.inr (.inr (.inr (.inl z)))))
            · exact .inr (z ▸ nDH)
          · intro z
            rcases z with z | z | z | z | z
            · exact nhS (.inl z)
            · exact nhS (.inr (.inl z))
            · exact nhS (.inr (.inr (.inl z)))
            · exact nhS (.inr (.inr (.inr (.inl z))))
            · exact nDh z.symm
          · exact (kS1.trans k12 fun b z => .inl (.inl z)).trans k2J fun b z => .inl (subS b z)
        · refine ⟨_, rfl, rfl, _, rfl, ?_⟩
          refine ite2 (fun _ => ?_) (fun _ => ?_)
          · -- stopped at once
            have five := Sd.five
            refine ⟨_, rfl, _, rfl, d, l1, l2, l3, D, o, bs, rfl, Sd.own, Sd.goodo, by rw [← Sd.sim.pend]; omega, hD1, fun e => nDS (.inr (.inr (.inl e))), five.cd, five.ce.symm, hbs, fun G2 x nx O2 k2 => ?_⟩
            have xl : ∀ {a : Addr} {xs : List V}, G1 a = some (.lst xs) → a ≠ x := fun h => ne_of_none h nx
            obtain ⟨rs, h3, _⟩ := Sd.disk.uns
            have five2 : Five ls lu l1 x l3 := ⟨five.ab, five.ac, xl Sd.disk.sure, five.ae, five.bc, xl h3, five.be, xl Sd.own.sure, five.ce, (xl Sd.own.picks).symm⟩
            have D2 := Sd.disk.kt k2.t fun b z y => sep Sd.disk Sd.own five y z
            have hh2 : G2 h = some (.lst (bs.map V.bl)) := k2.t.lst hh1 fun z => nhS (.inr z)
            obtain ⟨dx, tp, st, g1, _⟩ := D2.ex
            refine ⟨_, rfl, p, dx, _, rfl, g1, rfl, _, rfl, p, ls, lu, m, h, bs, rfl, D2, Sd.good, .inl hh2, fun e => nhS (.inl (.inr (.inl e))), fun J lu' hlu DJ kJ => ?_⟩
            have OJ := O2.kt kJ.t fun b z y => sep D2 O2 five2 z y
            have k2S : Kp (sF p d ls lu l1 l2 l3) G1 G2 := k2.sub fun b z => .inr z
            have k1J : Kp (sF p d ls lu l1 l2 l3) G1 J := k2S.trans kJ fun b z => .inl (.inl z)
            have frH : ∀ {a : Addr}, G1 a = none → H a = none := fun {a} e => kH1.free e fun z => (B1.out e z).elim
            have newS : ∀ {a : Addr}, G2 a = none → S a ∨ H a = none := fun {a} e => by
              by_cases z : sF p d ls lu l1 l2 l3 a
              · exact .inl ((eS a).mpr z)
              · refine .inr (frH ?_)
                exact k2S.free e fun y => (z y).elim
            have five3 : Five ls lu' l1 x l3 := by
              rcases hlu with rfl | e
              · exact five2
              · have nl : ∀ {a : Addr} {xs : List V}, G2 a = some (.lst xs) → a ≠ lu' := fun h => ne_of_none h e
                obtain ⟨rs2, y3, _⟩ := O2.pend
                exact ⟨nl D2.sure, five2.ac, five2.ad, five2.ae, (nl O2.sure).symm, (nl y3).symm, (nl O2.picks).symm, five2.cd, five2.ce, five2.de⟩
            have dat := stop_dat (H := J) bs (fun v hv => (Sd.dat v hv).kt k1J.t) fun q hq => (Sd.pdat q hq).kt k1J.t
            refine ⟨⟨_, _, rfl⟩, B1.kt k1J.t fun b y z => dS b z y, k1J.t.lst hD1 nDS, k1J.t.lst hh1 nhS, ⟨sF p d ls lu' l1 x l3, ⟨ls, lu', l1, x, l3, m.stop bs, o.stop bs, ⟨DJ, OJ, Sd.sim.stop bs, five3, Sd.good.stop bs, Sd.goodo.stop bs, by rw [stop_picks]; exact Sd.few, dat.1, dat.2⟩, fun b => Iff.rfl, Nat.le_trans (stop_few bs) hfew⟩, ?_, ?_⟩, ?_⟩
            · intro b z
              rcases z with (z | z | z) | z | z | z | z
              · exact .inl ((eS b).mpr (.inl (.inl z)))
              · exact .inl ((eS b).mpr (.inl (.inr (.inl z))))
              · rcases hlu with e | e
                · exact .inl ((eS b).mpr (.inl (.inr (.inr (z.trans e)))))
                · rw [z]
                  exact newS e
              · exact .inl ((eS b).mpr (.inr (.inl z)))
              · exact .inl ((eS b).mpr (.inr (.inr (.inl z))))
              · exact .inr (z ▸ frH nx)
              · exact .inl ((eS b).mpr (.inr (.inr (.inr (.inr z)))))
            · intro z
              rcases z with (z | z | z) | z | z | z | z
              · exact nhS (.inl (.inl z))
              · exact nhS (.inl (.inr (.inl z)))
              · rcases hlu with e | e
                · exact nhS (.inl (.inr (.inr (z.trans e))))
                · rw [← z, hh2] at e
                  cases e
              · exact nhS (.inr (.inl z))
              · exact nhS (.inr (.inr (.inl z)))
              · exact xl hh1 z
              · exact nhS (.inr (.inr (.inr (.inr z))))
            · exact kS1.trans k1J fun b z => .inl (subS b z)
          · -- begun again
            have five := Sd.five
            have O1 := Sd.own
            refine ⟨_, rfl, .inr (.inr (.inl ⟨rfl, .inl ⟨_, O1.dc⟩⟩)), Nat.zero_le _, fun a1 n1 => ⟨sz 2 (by decide), fun t1 m1 => ⟨sz 2 (by decide), fun t2 m2 => ⟨Nat.zero_le _, fun a3 n3 => ⟨sz 2 (by decide), fun t3 m3 => ⟨sz 2 (by decide), fun t4 m4 => ⟨sz 4 (by decide), fun l nl => ?_⟩⟩⟩⟩⟩⟩⟩
            have F6 := Kp.new (F := No) (o := .lst [.ref t1, .ref t2, .ref t3, .ref t4]) nl
            have F5 := (Kp.new (F := No) (o := .tup [.str "fallen", .bl false]) m4).trans F6 fun _ z => .inl z
            have F4 := (Kp.new (F := No) (o := .tup [.str "picks", .ref a3]) m3).trans F5 fun _ z => .inl z
            have F3 := (Kp.new (F := No) (o := .lst []) n3).trans F4 fun _ z => .inl z
            have F2 := (Kp.new (F := No) (o := .tup [.str "left", .non]) m2).trans F3 fun _ z => .inl z
            have F1 := (Kp.new (F := No) (o := .tup [.str "pending", .ref a1]) m1).trans F2 fun _ z => .inl z
            have F0 := (Kp.new (F := No) (o := .lst []) n1).trans F1 fun _ z => .inl z
            have h0 := F0.t.dK O1.dc fun z => z
            refine ⟨d, l, [t1, t2, t3, t4], _, [(.inr "pending", .ref a1), (.inr "left", .non), (.inr "picks", .ref a3), (.inr "fallen", .bl false)], rfl, rfl, h0, SqL.of upd_same, .cons (SqT.of (F2.t.tup upd_same)) (.cons (SqT.of (F3.t.tup upd_same)) (.cons (SqT.of (F5.t.tup upd_same)) (.cons (SqT.of (F6.t.tup upd_same)) .nil))), sz _ (by show 9 ≤ 16777216; decide), ?_⟩
            have em : mergeK (ofl l1 l2 l3 (optV o.left) (!o.run)) [(.inr "pending", .ref a1), (.inr "left", .non), (.inr "picks", .ref a3), (.inr "fallen", .bl false)] = ofl l1 a1 a3 .non false := rfl
            rw [em]
            have kd := Kp.updD (F := fun b => b = d) (o' := .dK (ofl l1 a1 a3 .non false)) h0 rfl
            have ka : Kp (oF d l1 l2 l3) G1 _ := (F0.sub fun b z => z.elim).trans (kd.sub (F' := oF d l1 l2 l3) fun b z => .inl z) fun b z => .inl z
            have nd : ∀ {a : Addr} {xs : List V}, G1 a = some (.lst xs) → a ≠ d := fun h => ne_of h O1.dc (by intro z; cases z)
            have n3' : G1 a3 = none := by
              obtain ⟨_, q⟩ := upd_none n3
              obtain ⟨_, q⟩ := upd_none q
              exact (upd_none q).2
            have n13 : a1 ≠ a3 := by
              obtain ⟨_, q⟩ := upd_none n3
              obtain ⟨_, q⟩ := upd_none q
              exact (upd_none q).1.symm
            have f1 : ∀ {a : Addr} {xs : List V}, G1 a = some (.lst xs) → a ≠ a1 := fun h => ne_of_none h n1
            have f3 : ∀ {a : Addr} {xs : List V}, G1 a = some (.lst xs) → a ≠ a3 := fun h => ne_of_none h n3'
            have d1 : a1 ≠ d := fun z => by rw [z, O1.dc] at n1; cases n1
            have d3 : a3 ≠ d := fun z => by rw [z, O1.dc] at n3'; cases n3'
            have O2 : OwnAt _ d l1 a1 a3 ⟨o.sure, [], none, [], true⟩ := ⟨upd_same, (upd_ne (nd O1.sure)).trans (F0.t.lst O1.sure fun z => z), ⟨[], (upd_ne d1).trans (F1.t.lst upd_same fun z => z), .nil⟩, (upd_ne d3).trans (F4.t.lst upd_same fun z => z)⟩
            have D2 := Sd.disk.kt ka.t fun b z y => sep Sd.disk O1 five y z
            obtain ⟨rs, h3, _⟩ := Sd.disk.uns
            obtain ⟨dx, tp, st, g1, _⟩ := D2.ex
            refine ⟨_, rfl, p, dx, _, rfl, g1, rfl, p, ls, lu, m, rfl, D2, fun J lu' nlu DJ kJ => ?_⟩
            have five2 : Five ls lu l1 a1 a3 := ⟨five.ab, five.ac, f1 Sd.disk.sure, f3 Sd.disk.sure, five.bc, f1 h3, f3 h3, f1 O1.sure, f3 O1.sure, n13⟩
            have OJ := O2.kt kJ.t fun b z y => sep D2 O2 five2 z y
            have k1J : Kp (sF p d ls lu l1 l2 l3) G1 J := (ka.sub fun b z => .inr z).trans kJ fun b z => .inl (.inl z)
            have frH : ∀ {a : Addr}, G1 a = none → H a = none := fun {a} e => kH1.free e fun z => (B1.out e z).elim
            have nlx : ∀ {a : Addr} {u : HO}, upd _ d (.dK (ofl l1 a1 a3 .non false)) a = some u → a ≠ lu' := fun h => ne_of_none h nlu
            have five3 : Five ls lu' l1 a1 a3 := ⟨nlx D2.sure, five2.ac, five2.ad, five2.ae, (nlx O2.sure).symm, (by obtain ⟨_, q, _⟩ := O2.pend; exact (nlx q).symm), (nlx O2.picks).symm, five2.cd, five2.ce, five2.de⟩
            have hh2 := ka.t.lst hh1 fun z => nhS (.inr z)
            refine ⟨⟨_, _, rfl⟩, B1.kt k1J.t fun b y z => dS b z y, k1J.t.lst hD1 nDS, k1J.t.lst hh1 nhS, ⟨sF p d ls lu' l1 a1 a3, ⟨ls, lu', l1, a1, a3, m.again, o.again, ⟨DJ, OJ, ⟨Sd.sim.sure, rfl, rfl, fun _ => ⟨rfl, rfl⟩⟩, five3, Sd.good.stop2, Sd.goodo.stop2, Nat.zero_le _, fun v hv => (Sd.dat v hv).kt k1J.t, fun q hq => by cases hq⟩, fun b => Iff.rfl, Nat.zero_le _⟩, ?_, ?_⟩, ?_⟩
            · intro b z
              rcases z with (z | z | z) | z | z | z | z
              · exact .inl ((eS b).mpr (.inl (.inl z)))
              · exact .inl ((eS b).mpr (.inl (.inr (.inl z))))
              · rw [z]
                by_cases y : sF p d ls lu l1 l2 l3 lu'
                · exact .inl ((eS _).mpr y)
                · exact .inr (frH (ka.free nlu fun q => (y (.inr q)).elim))
              · exact .inl ((eS b).mpr (.inr (.inl z)))
              · exact .inl ((eS b).mpr (.inr (.inr (.inl z))))
              · exact .inr (z ▸ frH n1)
              · exact .inr (z ▸ frH n3')
            · intro z
              rcases z with (z | z | z) | z | z | z | z
              · exact nhS (.inl (.inl z))
              · exact nhS (.inl (.inr (.inl z)))
              · exact nlx hh2 z
              · exact nhS (.inr (.inl z))
              · exact nhS (.inr (.inr (.inl z)))
              · exact f1 hh1 z
              · exact f3 hh1 z
            · exact kS1.trans k1J fun b z => .inl (subS b z)
      · rintro σ J ⟨⟨o6, o7, rfl⟩, BJ, hDJ, hhJ, ⟨S', SJ, hS', nhS'⟩, kJ⟩
        -- _law_good = _law_handed == _law_picks
        have eq1 : PyData.eqv (.list (bs.map PyData.bool)) (.list (bs.map PyData.bool)) = true := SeqAt.eqv_refl _ (by simp only [PyData.canLay0]; exact (lay_bools bs).1)
        refine ⟨_, rfl, _, rfl, _, _, .lst (SqL.of hhJ) (dp_bools bs), .lst (SqL.of hDJ) (dp_bools bs), shaped_bools bs, shaped_bools bs, ?_⟩
        rw [eq1]
        refine ⟨_, rfl, .inl ⟨rfl, _, SqL.of hhJ⟩, h, _, _, rfl, rfl, hhJ, Nat.lt_of_lt_of_le (show (bs.map V.bl).length < 100 by rw [List.length_map]; omega) (sz _ (by decide)), _, rfl, ?_⟩
        have kh : Kp (fun b => b = h) J (upd J h (.lst (bs.map V.bl ++ [.bl true]))) := Kp.updL hhJ rfl
        refine k _ ⟨BJ.kt kh.t fun a e z => nhb (e ▸ z), ⟨S', SJ.kt kh.t fun a e z => nhS' (e ▸ z), hS'⟩, fun b u e n => ?_⟩
        have nb : b ≠ h := ne_of_none e nhH
        rw [upd_ne nb]
        exact kJ b u e n
end
end K5

set_option Elab.async false
set_option linter.all false
set_option maxRecDepth 100000
set_option maxHeartbeats 2000000
/-! ### 7. A lambda that may raise, handed to a def that catches it: the exceptions' contexts are None -/
namespace K5
open PySem PySem.Spec PyProof.Rows L2 LamX
/-- what is wanted of an exception that leaves the lambda -/
def lamXe (X : Cx) (Ar : Around) (outer : List Env) (s : Shared) (H : Hp) (E : XK) (scope : Scope) (f c' : Addr) : Value → Shared → Prop := fun e s' =>
  wpAny (model X.prog X.w) (Ar.deeper (lamEnv X scope s.heap.objs.size f c')) (leaving (lamEnv X scope s.heap.objs.size f c') e) (fun _ t => L2N.CX X.prog X.w outer H s E e t) (fun e' t => L2N.CX X.prog X.w outer H s E e' t) s'
/-- the context of the lambda's body -/
abbrev lamN (X : Cx) (Ar : Around) (outer : List Env) (s : Shared) (H : Hp) (E : XK) (scope : Scope) (f c' : Addr) : Cx := (lamCx X Ar outer s H E scope f c').wish (lamXe X Ar outer s H E scope f c')
section
variable {X : Cx} {pins : List (Addr × Obj)} {σ : L2.St} {H HZ : Hp} {s s1 : Shared}
abbrev cxG (X : Cx) (Ng : List Str) (qg : Str) (sg : Scope) (g : Addr) (cdg : Value) (s : Shared) (H : Hp) : Cx := cxOf C8.CX0 X.prog X.w X.K X.mg X.base Ng qg sg g cdg X.A X.stack s H C8.E0
/-- x(), within the def that got the lambda -/
theorem actN {Ng : List Str} {qg : Str} {sg : Scope} {g f c' : Addr} {cdg pm ctv : Value} {params : Arguments} {body : Expr} {scope : Scope} {k i : Nat} {a : Str} {pn : List (Addr × Obj)} {xe : Value → Shared → Prop} {W : WX} {E : XK} {tb : TE} {p1 p2 : Pos}
    (I : Inv X pins σ H s) (Ls : LamS X.env.scope scope) (hf : s.heap.get? f = some (PySem.W.kla_obj "<lambda>" (X.env.qual ++ "<lambda>") params body scope (cloFrom X.env.cells scope.names []) pm c' ctv)) (hfn : H f = none) (hfr : f ∉ frs X.stack)
    (hb0 : bindArgs (PySem.W.kla_fn "<lambda>" (X.env.qual ++ "<lambda>") params body scope (cloFrom X.env.cells scope.names []) pm (.ref c') ctv) ⟨[], []⟩ = pure [])
    (tk : L2N.Takes ((cxG X Ng qg sg g cdg s H).tr pn xe) W) (hW : ∀ cls d τ G, E cls d G → W cls d τ G) (hr : Room (k + 1) (X.A.deeper (envOfC qg sg s.heap.objs.size g cdg)))
    (hbody : ∀ (Ar : Around) (outer : List Env) (t : Shared) (G : Hp), Room k (Ar.deeper (lamEnv X scope t.heap.objs.size f c')) → PE (lamN X Ar outer t G E scope f c') body tb)
    (hN : Ng[i]? = some a) (hv : Vis sg a) (hd : (a == ("__debug__" : Str)) = false := by decide) (hcd : (a == ("__classdict__" : Str)) = false := by decide) :
    PE ((cxG X Ng qg sg g cdg s H).tr pn xe) (.Call (.Name a p1) [] [] p2) (fun τ G Q => τ[i]? = some (some (.ref f)) ∧ G c' = some (CodeO c' (X.env.qual ++ "<lambda>")) ∧ tb σ G Q) := by
  refine ⟨fun pz sz τ G Q IZ ⟨hs, hc, ht⟩ => wpAny_Call_Name_kw (thn ((pe_var (pos := p1) (i := i) hN hv hd hcd).run pz sz τ G (fun v J => v = .ref f ∧ J = G) IZ ⟨.ref f, hs, rfl, rfl⟩) fun u s1 ⟨v, J, I1, r1, ev, eJ⟩ => ?_)⟩
  subst ev eJ
  cases (show u = Value.ref f from r1)
  have of1 : s1.heap.get? f = some _ := I1.base.keep f _ hf hfn hfr nofun
  refine PySem.W.callWith_F0 ⟨_, _, _, _, of1⟩ ?_
  obtain ⟨⟨oc, vs, t, hoc, hdc, hvc⟩, _, _⟩ := I1.hok c' _ hc
  have key : codeAny (model X.prog X.w) (X.A.deeper (envOfC qg sg s.heap.objs.size g cdg)) (.call (.ref f) ⟨[], []⟩) (CR (L2N.CX X.prog X.w) (envOfC qg sg s.heap.objs.size g cdg :: X.stack) X.prog X.w J s1 Q E) s1 := by
    refine PySem.W.kla_callFunE hr.depth of1 rfl Ls.co Ls.gen rfl ⟨c', oc, vs, t, rfl, hoc, hdc, hvc⟩ ?_
    rw [hb0]
    refine wpAny_pure (wpAny_newFunctionEnv (fun y hy => (Ls.own y hy).2) (fun y hy => absurd hy (by simp)) (fun h₁ hns hsb => ⟨I1.nolimit.fresh _ hsb, ?_⟩) Ls.kind)
    have kp : ∀ b o, s1.heap.get? b = some o → h₁.get? b = some o := fun b o e => hsb.extBut b o (Nat.ne_of_lt (Heap.lt_size e)) (Heap.get?_push_of_some _ e)
    have J0 := lam_start2 (E := E) (tk := s1.toks + ([] : List (Str × Value)).length) (f := f) (c' := c') I Ls I1.env0 hr.hd (show Un (frs X.stack) [] H J s.heap s1.heap from I1.base) hns kp
    have J1 : Inv (lamN X (X.A.deeper (envOfC qg sg s.heap.objs.size g cdg)) (envOfC qg sg s.heap.objs.size g cdg :: X.stack) s1 J E scope f c') [] σ J _ := J0.wish _
    show codeAny _ _ (.expr body (lamEnv X scope s1.heap.objs.size f c')) _ _
    refine PySem.W.kla_codeExpr (wpAny_mono ((hbody _ _ s1 J (hr.deeper _)).run [] _ _ J Q J1 ht) (fun v s' ⟨w', G', J', rv, q⟩ => ?_) fun e s' hq => hq)
    exact ⟨w', G', J'.os, J'.bare, J'.base, J'.hok, rv, q⟩
  refine wpAny_call (codeAny_mono key fun r s' hq => ?_)
  match r, hq with
  | .error e, hq => exact L2N.passes_call tk hW pz τ J s1 e s' I1 hq
  | .ok (.ret u), hq => exact I1.after hq
  | .ok .next, hq => exact False.elim hq
  | .ok .brk, hq => exact False.elim hq
  | .ok .cont, hq => exact False.elim hq
end
/-- the def at g, called with a lambda, makes TT of the lambda's reading -/
def GivesN (X : Cx) (Ng : List Str) (x : Str) (sg : Scope) (g : Addr) (cdg : Value) (bg : List Stmt) (a q : Str) (TT : (XK → Hp → VK → Prop) → Hp → VK → Prop) : Prop :=
  ∀ (f c' : Addr) (s : Shared) (H : Hp) (Q : VK) (tl : XK → Hp → VK → Prop), Room 3 (X.A.deeper (envOfC x sg s.heap.objs.size g cdg)) →
    (∀ (W : WX) (pn : List (Addr × Obj)) (xe : Value → Shared → Prop) (E : XK) (p1 p2 : Pos), L2N.Takes ((cxG X Ng x sg g cdg s H).tr pn xe) W → (∀ cls d τ G, E cls d G → W cls d τ G) →
      PE ((cxG X Ng x sg g cdg s H).tr pn xe) (.Call (.Name a p1) [] [] p2) (fun τ G Q => τ[0]? = some (some (.ref f)) ∧ G c' = some (CodeO c' q) ∧ tl E G Q)) →
    H c' = some (CodeO c' q) → TT tl H Q →
    ∃ t, PSs (cxG X Ng x sg g cdg s H).nox bg t ∧ t { nx := fun _ G => Q .non G, rt := Q } (L2.start Ng [.ref f]) H
def tLamN (T : List (Addr × Str)) (TT : (XK → Hp → VK → Prop) → Hp → VK → Prop) (t : XK → TE) : TE := fun σ H Q => Tabs T H ∧ ∀ G, ExtN H G → Tabs T G → TT (fun E J R => t E σ J R) G Q
section
variable {X : Cx}
/-- x(lambda: body) -/
theorem lamcallN {T : List (Addr × Str)} {TT : (XK → Hp → VK → Prop) → Hp → VK → Prop} {x a : Str} {g c P : Addr} {k : Nat} {pg : Arguments} {bg : List Stmt} {sg : Scope} {dV kV doc pm cdv ct oc : Value} {an od : Option Addr} {osl : Array (Option Value)} {Ng : List Str}
    {params : Arguments} {body : Expr} {scope : Scope} {t : XK → TE} {p lpos pos : Pos} (hg : Gl X x) (hm : X.mg x = some (.ref g)) (hk : PySem.W.keepIn X.K (.ref g) = true)
    (lk : X.K.lookup g = some ⟨oc, od, .func (PySem.W.fnOf x x pg bg sg dV kV doc pm an cdv ct), osl⟩) (hcg : PySem.W.codeIn X.K cdv x = true) (hb : L2.Binds X.K (PySem.W.fnOf x x pg bg sg dV kV doc pm an cdv ct) [a] []) (Sg : FnScope Ng [a] sg) (hNg : Ng[0]? = some a) (hva : Vis sg a)
    (hG : GivesN X Ng x sg g cdv bg a (X.env.qual ++ "<lambda>") TT) (k3 : 2 ≤ k)
    (TB : TabB X.base X.mg c P) (hcode : X.env.code = .ref c) (hmT : (P, X.env.qual ++ "<lambda>") ∈ T) (hu : ∀ p ∈ T, p.1 = P → p.2 = X.env.qual ++ "<lambda>") (hr : Room (k + 2) X.A) (Ls : LamS X.env.scope scope) (hdef : defaultsOf params X.env = ([], []))
    (hbind : ∀ (q : Str) (cl : List (Str × Addr)) (pm cv ctv : Value), bindArgs (PySem.W.kla_fn "<lambda>" q params body scope cl pm cv ctv) ⟨[], []⟩ = pure [])
    (hbody : ∀ (Ar : Around) (outer : List Env) (s : Shared) (H : Hp) (E : XK) (f c' : Addr), Room k (Ar.deeper (lamEnv X scope s.heap.objs.size f c')) → PE (lamN X Ar outer s H E scope f c') body (t E))
    (hdb : (x == ("__debug__" : Str)) = false := by decide) (hd : (a == ("__debug__" : Str)) = false := by decide) (hcd : (a == ("__classdict__" : Str)) = false := by decide) :
    PE X (.Call (.Name x p) [.Lambda params body scope lpos] [] pos) (tLamN T TT t) := by
  refine ⟨fun pins s σ H Q I ⟨hT, h⟩ => wpAny_Call_Name_kw (ld_glob I hg hm (PySem.W.callWith_K (h₀ := X.base) I.ok.mod.kin hk ?_ (by rfl) (by rfl)) hdb)⟩
  show wpAny _ _ (spliced ((false, eval (.Lambda params body scope lpos) X.env) :: backTo pos (starEach [] X.env))) _ _ s
  refine Calls.spliced_cons (lam_make2 I TB hcode hmT hu hT hdef (Ls.has I.ok) fun f c' pm' ctv G s1 I1 eN T1 hf hfn hfr hco => Calls.spliced_nil ⟨I1.kIn, ?_⟩)
  have key : codeAny (model X.prog X.w) X.A (.call (.ref g) ⟨[.ref f], []⟩) (CR C8.CX0 X.stack X.prog X.w G s1 Q C8.E0) s1 := by
    refine run_ofS (N := Ng) (ps := [a]) (us := [.ref f]) (vs := [.ref f]) lk hcg Sg hr I1.env0 (hb s1 [.ref f] I1.kIn rfl) (.cons rfl .nil) rfl fun hr2 => ?_
    obtain ⟨u, hu1, hu2⟩ := hG f c' s1 G Q (fun E J R => t E σ J R) (hr2.mono (by omega)) (fun W pn xe E p1 p2 tk hW => actN (i := 0) I1 Ls hf hfn hfr (hbind _ _ _ _ _) tk hW hr2 (fun Ar outer s H q => hbody Ar outer s H E f c' q) hNg hva hd hcd) hco (h G eN T1)
    exact ⟨u, hu1.nox, hu2⟩
  refine wpAny_call (codeAny_mono key fun r s' hq => ?_)
  match r, hq with
  | .error e, hq => exact (show False from hq).elim
  | .ok (.ret u), hq => exact I1.after hq
  | .ok .next, hq => exact False.elim hq
  | .ok .brk, hq => exact False.elim hq
  | .ok .cont, hq => exact False.elim hq
end
end K5

set_option Elab.async false
set_option linter.all false
set_option maxRecDepth 100000
set_option maxHeartbeats 2000000
/-! ### 8. The class of a refusal, and what is told -/
namespace K5
open PySem PySem.Spec PyProof.Rows L2
/-- the law's defs that catch, and the classes -/
structure Lc (K : PySem.W.Frag) (mg : Str → Option Value) (A : Ad) (L : Nat → Addr) (XC : Nat → Addr) (SE : Addr) : Prop extends Lw K mg A L where
  cls : Df K mg "_law_class" sClass (L 26)
  told : Df K mg "_law_told" sTold (L 33)
  still : mg "StillError" = some (.ref SE)
  valueError : mg "ValueError" = none
  x0 : mg "BadDeal" = some (.ref (XC 0))
  x1 : mg "BadHand" = some (.ref (XC 1))
  x2 : mg "BadLetter" = some (.ref (XC 2))
  x3 : mg "BadTime" = some (.ref (XC 3))
  x4 : mg "BadKey" = some (.ref (XC 4))
  x5 : mg "BadHouse" = some (.ref (XC 5))
  x6 : mg "NoCopy" = some (.ref (XC 6))
  x7 : mg "Behind" = some (.ref (XC 7))
  x8 : mg "BadBlock" = some (.ref (XC 8))
  x9 : mg "BadEntry" = some (.ref (XC 9))
  x10 : mg "BadText" = some (.ref (XC 10))
  x11 : mg "Stopped" = some (.ref (XC 11))
/-- D is just the j-th of the twelve classes -/
structure Cis (K : PySem.W.Frag) (XC : Nat → Addr) (D : Addr) (j : Nat) : Prop where
  ex : ExcC K D
  lt : j < 12
  is : ∀ i, i < 12 → PySem.W.kitOne K (.ref D) (.ref (XC i)) = some (decide (i = j))
  ve : PySem.W.kitOne K (.ref D) (.type "ValueError") = some true
def clsW : List Str := ["BadDeal", "BadHand", "BadLetter", "BadTime", "BadKey", "BadHouse", "NoCopy", "Behind", "BadBlock", "BadEntry", "BadText", "Stopped"]
def bsJ (j : Nat) : List Bool := [decide (0 = j), decide (1 = j), decide (2 = j), decide (3 = j), decide (4 = j), decide (5 = j), decide (6 = j), decide (7 = j), decide (8 = j), decide (9 = j), decide (10 = j), decide (11 = j)]
theorem bsJ_count : ∀ j, j < 12 → decide (V.int ((bsJ j).count true : Nat) = V.int 1) = true := by decide
theorem bsJ_at : ∀ j, j < 12 → (bsJ j)[j]? = some true ∧ ∀ m, m < j → (bsJ j)[m]? = some false := by decide
/-- isinstance(e, c): e is the pinned exception -/
theorem isE {X : Cx} {p : Addr × Obj} {D : Addr} (C : ExcC X.K D) (hp : p ∈ X.pn) (hz : Zc (.ref D) none p.2) (hf : ∃ vs, p.2.data = .fields vs) : CallR X (.builtin "isinstance") (rIsE X.K D p.1) := by
  intro pins s σ H xs us Q I r ⟨c, cv, b, ex, hcv, e, q⟩
  subst ex
  obtain ⟨u1, u2, eu, r1, r2⟩ := vals2 r
  subst eu
  cases r1
  cases hcv _ r2
  obtain ⟨vs, hv⟩ := hf
  have hget := (I.pin p (List.mem_append_left _ hp)).1
  obtain ⟨pa, oc, od, oda, osl⟩ := p
  obtain ⟨h1, h2⟩ := hz
  dsimp only at h1 h2 hv hget ⊢
  subst h1 h2 hv
  have at_ : PySem.W.InstAt s.heap pa _ D none := ⟨hget, rfl, rfl, trivial⟩
  exact PySem.W.kia_one (PySem.W.handS_kitx_exc C.hg C.hk C.hs C.hd C.ha C.hn C.ht C.hm) I.kIn at_ e nofun fun tk => ⟨.bl b, H, I.tok tk, rfl, q⟩
section
variable {P : Program} {w : World} {K : PySem.W.Frag} {mg : Str → Option Value} {base : Heap} {A : Ad} {L XC : Nat → Addr} {SE : Addr}
theorem scClass : FnScope ["_law_e", "_law_kinds", "_law_words"] ["_law_e"] (defScope sClass) := ⟨rfl, rfl, rfl, by decide +kernel, rfl, by decide +kernel, by decide +kernel⟩
theorem class_body (T : Lc K mg A L XC SE) {cdv : Value} {Ar : Around} {outer : List Env} {s : Shared} {H : Hp} {E : XK} {p : Addr × Obj} {D : Addr} {j : Nat} {Q : VK} (C : Cis K XC D j) (hz : Zc (.ref D) none p.2) (hf : ∃ vs, p.2.data = .fields vs) (hu : Ar.units + 64 < cLine)
    (k : ∀ (x : Str) (G : Hp), clsW[j]? = some x → Kp No H G → Q (.str x) G) :
    ∃ t, PSs (L2H.cxH L2.CX0 P w K mg base ["_law_e", "_law_kinds", "_law_words"] "_law_class" (defScope sClass) (L 26) cdv Ar outer s H E p) (defBody sClass) t ∧ t { nx := fun _ G => Q .non G, rt := Q } (L2.start ["_law_e", "_law_kinds", "_law_words"] [.ref p.1]) H := by
  have IS : CallR (L2H.cxH L2.CX0 P w K mg base ["_law_e", "_law_kinds", "_law_words"] "_law_class" (defScope sClass) (L 26) cdv Ar outer s H E p) (.builtin "isinstance") (rIsE K D p.1) := isE C.ex (List.mem_singleton.mpr rfl) hz hf
  refine ⟨_, (pss_cons (ps_set (i := 1) scClass.nd rfl (Or.inl rfl) (pe_lst (pa_cons (pe_callB IS (by rfl) T.isinstance (by decide +kernel) (pa_cons (pv 0) (pa_cons (pe_glob (v := .ref (XC 0)) rfl T.x0 rfl) pa_nil))) (pa_cons (pe_callB IS (by rfl) T.isinstance (by decide +kernel) (pa_cons (pv 0) (pa_cons (pe_glob (v := .ref (XC 1)) rfl T.x1 rfl) pa_nil))) (pa_cons (pe_callB IS (by rfl) T.isinstance (by decide +kernel) (pa_cons (pv 0) (pa_cons (pe_glob (v := .ref (XC 2)) rfl T.x2 rfl) pa_nil))) (pa_cons (pe_callB IS (by rfl) T.isinstance (by decide +kernel) (pa_cons (pv 0) (pa_cons (pe_glob (v := .ref (XC 3)) rfl T.x3 rfl) pa_nil))) pa_nil))))))
      (pss_cons (ps_set (i := 1) scClass.nd rfl (Or.inl rfl) (pe_op op_cat (pv 1) (pe_lst (pa_cons (pe_callB IS (by rfl) T.isinstance (by decide +kernel) (pa_cons (pv 0) (pa_cons (pe_glob (v := .ref (XC 4)) rfl T.x4 rfl) pa_nil))) (pa_cons (pe_callB IS (by rfl) T.isinstance (by decide +kernel) (pa_cons (pv 0) (pa_cons (pe_glob (v := .ref (XC 5)) rfl T.x5 rfl) pa_nil))) (pa_cons (pe_callB IS (by rfl) T.isinstance (by decide +kernel) (pa_cons (pv 0) (pa_cons (pe_glob (v := .ref (XC 6)) rfl T.x6 rfl) pa_nil))) (pa_cons (pe_callB IS (by rfl) T.isinstance (by decide +kernel) (pa_cons (pv 0) (pa_cons (pe_glob (v := .ref (XC 7)) rfl T.x7 rfl) pa_nil))) pa_nil)))))))
      (pss_cons (ps_set (i := 1) scClass.nd rfl (Or.inl rfl) (pe_op op_cat (pv 1) (pe_lst (pa_cons (pe_callB IS (by rfl) T.isinstance (by decide +kernel) (pa_cons (pv 0) (pa_cons (pe_glob (v := .ref (XC 8)) rfl T.x8 rfl) pa_nil))) (pa_cons (pe_callB IS (by rfl) T.isinstance (by decide +kernel) (pa_cons (pv 0) (pa_cons (pe_glob (v := .ref (XC 9)) rfl T.x9 rfl) pa_nil))) (pa_cons (pe_callB IS (by rfl) T.isinstance (by decide +kernel) (pa_cons (pv 0) (pa_cons (pe_glob (v := .ref (XC 10)) rfl T.x10 rfl) pa_nil))) (pa_cons (pe_callB IS (by rfl) T.isinstance (by decide +kernel) (pa_cons (pv 0) (pa_cons (pe_glob (v := .ref (XC 11)) rfl T.x11 rfl) pa_nil))) pa_nil)))))))
      (pss_cons (ps_set (i := 2) scClass.nd rfl (Or.inl rfl) (pe_lst (pa_cons pe_str (pa_cons pe_str (pa_cons pe_str (pa_cons pe_str (pa_cons pe_str (pa_cons pe_str (pa_cons pe_str (pa_cons pe_str (pa_cons pe_str pa_nil)))))))))))
      (pss_cons (ps_set (i := 2) scClass.nd rfl (Or.inl rfl) (pe_op op_cat (pv 2) (pe_lst (pa_cons pe_str (pa_cons pe_str (pa_cons pe_str pa_nil))))))
      (pss_one (ps_ret (pe_ifExp (PW.pt (pw_and (pt_cmpR op_eq (pe_bm PySem.F.plainAttrs_list PySem.F.slot_list_count PySem.F.type_list_count mt_cntB (pv 1) (pa_cons pe_bl pa_nil)) pe_int (nomark _)) (pw_and1 (pt_val (pe_callB IS (by rfl) T.isinstance (by decide +kernel) (pa_cons (pv 0) (pa_cons (pe_bltn (v := .ty "ValueError") (by rfl) T.valueError (by decide +kernel) rfl) pa_nil))))))) (pe_ix ix_list (pv 2) (pe_bm PySem.F.plainAttrs_list PySem.F.slot_list_index PySem.F.type_list_index mt_index (pv 1) (pa_cons pe_bl pa_nil)) (fun _ _ => rfl)) pe_str)))))))), ?_⟩
  refine ⟨_, rfl, .ref (XC 0), .ref (XC 0), _, rfl, (fun u e => e), C.is 0 (by decide), _, rfl, .ref (XC 1), .ref (XC 1), _, rfl, (fun u e => e), C.is 1 (by decide), _, rfl, .ref (XC 2), .ref (XC 2), _, rfl, (fun u e => e), C.is 2 (by decide), _, rfl, .ref (XC 3), .ref (XC 3), _, rfl, (fun u e => e), C.is 3 (by decide), sz 4 (by decide), fun l1 n1 => ?_⟩
  refine ⟨_, rfl, _, rfl, .ref (XC 4), .ref (XC 4), _, rfl, (fun u e => e), C.is 4 (by decide), _, rfl, .ref (XC 5), .ref (XC 5), _, rfl, (fun u e => e), C.is 5 (by decide), _, rfl, .ref (XC 6), .ref (XC 6), _, rfl, (fun u e => e), C.is 6 (by decide), _, rfl, .ref (XC 7), .ref (XC 7), _, rfl, (fun u e => e), C.is 7 (by decide), sz 4 (by decide), fun l2 n2 => ?_⟩
  refine ⟨l1, l2, _, _, rfl, rfl, (upd_ne (ne_of_none upd_same n2)).trans upd_same, upd_same, sz 8 (by decide), fun l3 n3 => ?_⟩
  refine ⟨_, rfl, _, rfl, .ref (XC 8), .ref (XC 8), _, rfl, (fun u e => e), C.is 8 (by decide), _, rfl, .ref (XC 9), .ref (XC 9), _, rfl, (fun u e => e), C.is 9 (by decide), _, rfl, .ref (XC 10), .ref (XC 10), _, rfl, (fun u e => e), C.is 10 (by decide), _, rfl, .ref (XC 11), .ref (XC 11), _, rfl, (fun u e => e), C.is 11 (by decide), sz 4 (by decide), fun l4 n4 => ?_⟩
  refine ⟨l3, l4, _, _, rfl, rfl, (upd_ne (ne_of_none upd_same n4)).trans upd_same, upd_same, sz 12 (by decide), fun l5 n5 => ?_⟩
  refine ⟨sz 9 (by decide), fun w1 m1 => ?_⟩
  refine ⟨_, rfl, sz 3 (by decide), fun w2 m2 => ?_⟩
  refine ⟨w1, w2, _, _, rfl, rfl, (upd_ne (ne_of_none upd_same m2)).trans upd_same, upd_same, sz 12 (by decide), fun w3 m3 => ?_⟩
  have b0 : Kp No (upd _ l5 (.lst ((bsJ j).map V.bl))) _ := ((Kp.new (F := No) m1).andN m2).andN (o' := .lst (clsW.map V.str)) m3
  have hk := b0.t.lst upd_same fun z => z
  have kp : Kp No H _ := (((((((Kp.new (F := No) n1).andN n2).andN n3).andN n4).andN n5).andN m1).andN m2).andN (o' := .lst (clsW.map V.str)) m3
  have hj := C.lt
  have fl : ((bsJ j).map V.bl).all flatV = true := flat_bools _
  refine ⟨_, rfl, .inl ⟨rfl, _, SqL.of hk⟩, l5, bsJ j, rfl, rfl, SqL.of hk, rfl, _, rfl, ?_⟩
  rw [bsJ_count j hj]
  refine iteT ⟨_, rfl, ⟨.ty "ValueError", .type "ValueError", true, rfl, (fun u e => e), C.ve, true, rfl, iteT ?_⟩⟩
  refine ⟨_, rfl, _, rfl, .inl ⟨rfl, _, SqL.of hk⟩, l5, _, .bl true, j, .bl true, rfl, rfl, SqL.of hk, rfl, fl, by rw [List.getElem?_map, (bsJ_at j hj).1]; rfl, rfl, fun m z' hm e => ?_, ?_⟩
  · rw [List.getElem?_map, (bsJ_at j hj).2 m hm] at e
    cases e
    rfl
  · obtain ⟨x, hx⟩ : ∃ x, clsW[j]? = some x := ⟨_, List.getElem?_eq_getElem hj⟩
    refine ⟨w3, clsW.map V.str, (j : Nat), .str x, rfl, rfl, SqL.of upd_same, atI_nat (by rw [List.getElem?_map, hx]; rfl), k x _ hx kp⟩
end
end K5

set_option Elab.async false
set_option linter.all false
set_option maxRecDepth 100000
set_option maxHeartbeats 2000000
namespace K5
open PySem PySem.Spec PyProof.Rows L2 L2H LamX
/-- a def called where the exception p is handled: its promise may speak of p -/
theorem run_ofP {CX : CXT} {P : Program} {w : World} {K : PySem.W.Frag} {mg : Str → Option Value} {base : Heap} {k : Nat} {f : Addr} {name qual : Str} {params : Arguments} {body : List Stmt} {scope : Scope} {dV kV doc pm cdv ct oc : Value} {an od : Option Addr} {osl : Array (Option Value)} {N ps : List Str}
    (lk : K.lookup f = some ⟨oc, od, .func (PySem.W.fnOf name qual params body scope dV kV doc pm an cdv ct), osl⟩) (hcd : PySem.W.codeIn K cdv qual = true) (S : FnScope N ps scope) {Ar : Around} {outer : List Env} {s : Shared} {H : Hp} {args : Args} {us : List Value} {vs : List V} {Q : VK} {E : XK} {p : Addr × Obj}
    (hr : RoomH (k + 1) Ar) (hpin : PinOk outer H s p) (e0 : Env0 P w K mg base Ar outer s H) (hb : BindsTo s (PySem.W.fnOf name qual params body scope dV kV doc pm an cdv ct) args (ps.zip us)) (r : Vals vs us) (hl : vs.length = ps.length)
    (hbody : RoomH k (Ar.deeper (envOfC qual scope s.heap.objs.size f cdv)) → ∃ t, PSs (cxH CX P w K mg base N qual scope f cdv Ar outer s H E p) body t ∧ t { nx := fun _ G => Q .non G, rt := Q } (L2.start N vs) H) :
    codeAny (model P w) Ar (.call (.ref f) args) (CR CX outer P w H s Q E) s := by
  have KX : K.In s.heap := e0.mod.kin.keeps fun b o e => (e0.bs b o e).1
  have lim : s.heap.NoLimit := e0.mod.nolimit.keeps fun b o e => (e0.bs b o e).1
  have kinds : ∀ y ∈ ps.zip us, scope.names.lookup y.1 = some .local ∨ (scope.names.lookup y.1 = some .cell ∧ ((cellsFrom (s.heap.objs.size + 1) scope.names []).lookup y.1).isSome = true) := fun ⟨n, v⟩ hy =>
    (S.par n (List.of_mem_zip hy).1).imp id fun q => ⟨q, PySem.W.cellsFrom_some _ _ _ (.inl q)⟩
  refine codeAny_call_function hr.depth (KX _ _ lk) rfl S.co S.gen rfl (PySem.W.codeRec_of KX hcd) (hb _ _ _ _ (wpAny_newFunctionEnv_cells S.kind kinds fun env he s1 x => ?_))
  subst he
  obtain ⟨t, ht, hq⟩ := hbody (hr.deeper _)
  refine ⟨lim.keeps x.toInCall.keep, codeAny_func (wpAny_mono (ht.run [] s1 (L2.start N vs) H _ (inv_startH S hpin e0 hl r x) hq) (fun fl s' hs => ?_) fun e s' hs => hs)⟩
  match fl, hs with
  | .ret u, ⟨v, σ', G, J, rv, q⟩ => exact ⟨v, G, J.os, J.bare, J.base, J.hok, rv, q⟩
  | .next, ⟨σ', G, J, q⟩ => exact (⟨V.non, G, J.os, J.bare, J.base, J.hok, rfl, q⟩ : CE outer P w H s Q Value.none s')
  | .brk, ⟨_, _, _, q⟩ => exact q.elim
  | .cont, ⟨_, _, _, q⟩ => exact q.elim
section
variable {P : Program} {w : World} {K : PySem.W.Frag} {mg : Str → Option Value} {base : Heap} {A : Ad} {L XC : Nat → Addr} {SE : Addr}
/-- _law_class(_law_e), within the suite -/
theorem suite_class {X : Cx} {a : Addr} {oe : Obj} {pn : List (Addr × Obj)} {D : Addr} {j : Nat} {p1 p2 pos : Pos} (T : Lc X.K X.mg A L XC SE) (hg : Gl X "_law_class") (hN : X.N[1]? = some ("_law_e" : Str)) (hv : Vis X.env.scope "_law_e") (hr : Room 2 X.A)
    (C : Cis X.K XC D j) (hz : L2N.Zn (.ref D) none oe) (hf : ∃ vs, oe.data = .fields vs)
    (he : starEach [.Name "_law_e" p2] X.env = (false, eval (.Name "_law_e" p2) X.env) :: starEach [] X.env := by rfl) (hpl : (backTo pos (starEach [] X.env)).any (·.1) = false := by rfl) :
    PE (X.suite a ((a, oe) :: pn)) (.Call (.Name "_law_class" p1) [.Name "_law_e" p2] [] pos) (fun σ H Q => σ[1]? = some (some (.ref a)) ∧ ∀ (x : Str) (G : Hp), clsW[j]? = some x → Kp No H G → Q (.str x) G) := by
  refine ⟨fun pins s σ H Q I ⟨hσ, h⟩ => wpAny_Call_Name_kw (ld_glob I hg T.cls.at_ (PySem.W.callWith_K (h₀ := X.base) I.ok.mod.kin T.cls.kp (thn ((pa_cons (pe_var (X := X.suite a ((a, oe) :: pn)) (i := 1) hN hv) pa_nil).run pos pins s σ H (fun vs G => vs = [.ref a] ∧ G = H) I ⟨_, hσ, rfl, rfl⟩) fun us s1 ⟨vs, G, I1, r, ev, eG⟩ => ⟨I1.kIn, ?_⟩) he hpl))⟩
  subst ev eG
  obtain ⟨fd, F⟩ := T.cls.fn
  have bC : Binds X.K fd ["_law_e"] [] := F.binds fun _ _ _ _ _ _ us hl => match us, hl with | [_], _ => rfl
  obtain ⟨oc, od, kV, doc, pm, an, cdv, ct, osl, rfl, lk, hcd⟩ := F.ex
  have P1 := I1.pin (a, oe) (List.mem_append_left _ List.mem_cons_self)
  have pin : PinOk X.stack G s1 (a, oe) := ⟨P1.1, P1.2.1, fun hm => (List.mem_cons.mp (I1.stkSub a hm)).elim P1.2.2.1 P1.2.2.2.1, P1.2.2.2.2⟩
  have hl : us.length = 1 := by rw [← r.length]; rfl
  have b := bC s1 us I1.kIn (by rw [List.append_nil]; exact hl)
  rw [List.append_nil] at b
  have hr1 : RoomH 2 (X.A.mark (some (.ref a))) := ⟨hr.dp, hr.un⟩
  have key : codeAny (model X.prog X.w) (X.A.mark (some (.ref a))) (.call (.ref (L 26)) ⟨us, []⟩) (CR L2.CX0 X.stack X.prog X.w G s1 Q L2.E0) s1 := by
    refine run_ofP (N := ["_law_e", "_law_kinds", "_law_words"]) (ps := ["_law_e"]) (p := (a, oe)) lk hcd scClass hr1 pin I1.env0 b r rfl fun hr2 => ?_
    exact class_body T C hz.zc hf (by have := hr1.un; omega) h
  refine wpAny_call (codeAny_mono key fun r s' hq => ?_)
  match r, hq with
  | .error e, hq => exact (show False from hq).elim
  | .ok (.ret u), hq => exact I1.after hq
  | .ok .next, hq => exact False.elim hq
  | .ok .brk, hq => exact False.elim hq
  | .ok .cont, hq => exact False.elim hq
/-- told: what the lambda gives, or the name of the class of what it raises -/
def TTn (K : PySem.W.Frag) (XC : Nat → Addr) (SE : Addr) : (XK → Hp → VK → Prop) → Hp → VK → Prop := fun tl H Q =>
  tl (fun cls d G => ∃ D j, cls = .ref D ∧ d = none ∧ Cis K XC D j ∧ PySem.W.exmOne K (.ref D) (.ref SE) = some true ∧ ∀ (x : Str) (J : Hp), clsW[j]? = some x → Kp No G J → Q (.str x) J) H Q
theorem takesN0 {X : Cx} : L2N.Takes X (fun _ _ _ _ => False) := fun _ _ ⟨_, _, _, _, _, _, _, _, _, _, _, _, _, _, _, _, w⟩ => w.elim
theorem scTold : FnScope ["_law_work", "_law_e"] ["_law_work"] (defScope sTold) := ⟨rfl, rfl, rfl, by decide +kernel, rfl, by decide +kernel, by decide +kernel⟩
theorem told_ok {X : Cx} {cdg : Value} {q : Str} (T : Lc X.K X.mg A L XC SE) : GivesN X ["_law_work", "_law_e"] "_law_told" (defScope sTold) (L 33) cdg (defBody sTold) "_law_work" q (TTn X.K XC SE) := by
  intro f c' s H Q tl hr act hc h
  refine ⟨_, pss_one (L2N.ps_try_as (X := (cxG X ["_law_work", "_law_e"] "_law_told" (defScope sTold) (L 33) cdg s H).nox) (i := 1) (c := .ref SE) (Wout := fun _ _ _ _ => False)
      (tb := fun W D σ G => ∃ Ech : XK, (∀ cls d τ J, Ech cls d J → W cls d τ J) ∧ σ[0]? = some (some (.ref f)) ∧ G c' = some (CodeO c' q) ∧ tl Ech G D.rt)
      (ts := fun a cls d D σ G => (∃ τ : L2.St, σ = τ.set 1 (some (.ref a))) ∧ ∃ Dc j, cls = .ref Dc ∧ d = none ∧ Cis X.K XC Dc j ∧ ∀ (x : Str) (J : Hp), clsW[j]? = some x → Kp No G J → D.rt (.str x) J)
      rfl rfl scTold.nd rfl rfl ⟨rfl, by decide, .inl T.still⟩ takesN0 (fun W pn xe tk _ => ?_) (fun a oe cls d pn hz hf => ?_)), ?_⟩
  · exact ⟨fun pins s' σ G D I ⟨Ech, hW, h1, h2, h3⟩ => (pss_one (ps_ret (act W pn xe Ech _ _ tk hW))).run pins s' σ G D I ⟨h1, h2, h3⟩⟩
  · refine ⟨fun pins s' σ G D I ⟨⟨τ, eτ⟩, Dc, j, e1, e2, C, k⟩ => ?_⟩
    subst e1 e2
    have hσ : σ[1]? = some (some (.ref a)) := by
      have hl : σ.length = 2 := I.len
      rw [eτ, List.length_set] at hl
      rw [eτ, List.getElem?_set_self (by omega)]
    exact (pss_one (ps_ret (suite_class (X := (cxG X ["_law_work", "_law_e"] "_law_told" (defScope sTold) (L 33) cdg s H).nox) T rfl rfl (.inl rfl) (hr.mono (by decide)) C hz hf))).run pins s' σ G D I ⟨hσ, k⟩
  · refine ⟨_, fun cls d τ J hx => ?_, rfl, hc, h⟩
    obtain ⟨D, j, e1, e2, C, e3, k⟩ := hx
    subst e1 e2
    exact ⟨true, e3, fun _ a _ => ⟨⟨τ, rfl⟩, D, j, rfl, rfl, C, k⟩, fun z => by cases z⟩
end
end K5

set_option Elab.async false
set_option linter.all false
set_option maxRecDepth 100000
set_option maxHeartbeats 4000000
/-! ### 9. The defs that hand out lambdas -/
namespace K5
open PySem PySem.Spec PyProof.Rows L2 LamX
/-- a def whose code object is known -/
structure DfC (K : PySem.W.Frag) (mg : Str → Option Value) (x : Str) (st : Stmt) (f c : Addr) : Prop where
  ex : ∃ (oc : Value) (od : Option Addr) (kV doc pm : Value) (an : Option Addr) (ct : Value) (osl : Array (Option Value)), K.lookup f = some ⟨oc, od, .func (PySem.W.fnOf x x (defArgs st) (defBody st) (defScope st) .none kV doc pm an (.ref c) ct), osl⟩ ∧ PySem.W.codeIn K (.ref c) x = true
  at_ : mg x = some (.ref f)
  kp : PySem.W.keepIn K (.ref f) = true
theorem okC {P : Program} {w : World} {K : PySem.W.Frag} {mg : Str → Option Value} {base : Heap} {x : Str} {st : Stmt} {f c : Addr} {N ps : List Str} {k : Nat} {sp : Sp} (D : DfC K mg x st f c) (S : FnScope N ps (defScope st)) (len : ∀ vs H Q E, sp vs H Q E → vs.length = ps.length)
    (hb : ∀ (kV doc pm : Value) (an : Option Addr) (cdv ct : Value) (us : List Value), us.length = ps.length → bindArgs (PySem.W.fnOf x x (defArgs st) (defBody st) (defScope st) .none kV doc pm an cdv ct) ⟨us, []⟩ = pure (ps.zip us))
    (body : ∀ (Ar : Around) (outer : List Env) (s : Shared) (H : Hp) (vs : List V) (Q : VK) (E : XK), Room k (Ar.deeper (envOfC x (defScope st) s.heap.objs.size f (.ref c))) → sp vs H Q E →
      ∃ t, PSs (cxOf CX0 P w K mg base N x (defScope st) f (.ref c) Ar outer s H E).nox (defBody st) t ∧ t { nx := fun _ G => Q .non G, rt := Q } (L2.start N vs) H) :
    ∃ fd, FnOk P w K mg base CX0 (k + 1) f fd ps sp ∧ Binds K fd ps [] := by
  obtain ⟨oc, od, kV, doc, pm, an, ct, osl, lk, hcd⟩ := D.ex
  refine ⟨_, fn_of lk hcd S len fun Ar outer s H vs Q E hr hsp => ?_, (fun_mk lk hcd D.kp).binds hb⟩
  obtain ⟨t, h, q⟩ := body Ar outer s H vs Q E hr hsp
  exact ⟨t, h.nox, q⟩
/-- _law_told(lambda: ..) -/
theorem lam_tell {X : Cx} {A : Ad} {L XC : Nat → Addr} {SE : Addr} (T : Lc X.K X.mg A L XC SE) {Tb : List (Addr × Str)} {c P : Addr} {params : Arguments} {body : Expr} {scope : Scope} {t : XK → TE} {p lpos pos : Pos} (hg : Gl X "_law_told")
    (TB : TabB X.base X.mg c P) (hcode : X.env.code = .ref c) (hmT : (P, X.env.qual ++ "<lambda>") ∈ Tb) (hu : ∀ p ∈ Tb, p.1 = P → p.2 = X.env.qual ++ "<lambda>") (hr : Room 5 X.A) (Ls : LamS X.env.scope scope) (hdef : defaultsOf params X.env = ([], []))
    (hbind : ∀ (q : Str) (cl : List (Str × Addr)) (pm cv ctv : Value), bindArgs (PySem.W.kla_fn "<lambda>" q params body scope cl pm cv ctv) ⟨[], []⟩ = pure [])
    (hbody : ∀ (Ar : Around) (outer : List Env) (s : Shared) (H : Hp) (E : XK) (f c' : Addr), Room 3 (Ar.deeper (lamEnv X scope s.heap.objs.size f c')) → PE (lamN X Ar outer s H E scope f c') body (t E)) :
    PE X (.Call (.Name "_law_told" p) [.Lambda params body scope lpos] [] pos) (tLamN Tb (TTn X.K XC SE) t) := by
  obtain ⟨fd, F⟩ := T.told.fn
  have bT : Binds X.K fd ["_law_work"] [] := F.binds fun _ _ _ _ _ _ us hl => match us, hl with | [_], _ => rfl
  obtain ⟨oc, od, kV, doc, pm, an, cdv, ct, osl, rfl, lk, hcd⟩ := F.ex
  exact lamcallN (k := 3) hg T.told.at_ T.told.kp lk hcd bT scTold rfl (.inl rfl) (told_ok T) (by decide) TB hcode hmT hu hr Ls hdef hbind hbody
/-- the three tables of code objects -/
structure Tbs where
  cW : Addr
  pW : Addr
  cI : Addr
  pI : Addr
  cL : Addr
  pL : Addr
def lamQ (x : Str) : Str := (envOfC x { kind := .function, names := [], isGenerator := false, isCoroutine := false } 0 0 .none).qual ++ "<lambda>"
def Tbs.list (t : Tbs) : List (Addr × Str) := [(t.pW, lamQ "_law_write"), (t.pI, lamQ "_law_is"), (t.pL, lamQ "law")]
structure TbOk (K : PySem.W.Frag) (mg : Str → Option Value) (L : Nat → Addr) (t : Tbs) : Prop where
  write : DfC K mg "_law_write" sWrite (L 34) t.cW
  is_ : DfC K mg "_law_is" sIs (L 36) t.cI
  law : DfC K mg "law" sLaw (L 37) t.cL
  wi : t.pW ≠ t.pI
  wl : t.pW ≠ t.pL
  il : t.pI ≠ t.pL
structure TbB (base : Heap) (mg : Str → Option Value) (t : Tbs) : Prop where
  w : TabB base mg t.cW t.pW
  i : TabB base mg t.cI t.pI
  l : TabB base mg t.cL t.pL
theorem Tbs.uW {K : PySem.W.Frag} {mg : Str → Option Value} {L : Nat → Addr} {t : Tbs} (o : TbOk K mg L t) : ∀ p ∈ t.list, p.1 = t.pW → p.2 = lamQ "_law_write" := fun p hp e => by
  simp only [Tbs.list, List.mem_cons, List.not_mem_nil, or_false] at hp
  rcases hp with rfl | rfl | rfl
  · rfl
  · exact absurd e.symm o.wi
  · exact absurd e.symm o.wl
theorem Tbs.uI {K : PySem.W.Frag} {mg : Str → Option Value} {L : Nat → Addr} {t : Tbs} (o : TbOk K mg L t) : ∀ p ∈ t.list, p.1 = t.pI → p.2 = lamQ "_law_is" := fun p hp e => by
  simp only [Tbs.list, List.mem_cons, List.not_mem_nil, or_false] at hp
  rcases hp with rfl | rfl | rfl
  · exact absurd e o.wi
  · rfl
  · exact absurd e.symm o.il
theorem Tbs.uL {K : PySem.W.Frag} {mg : Str → Option Value} {L : Nat → Addr} {t : Tbs} (o : TbOk K mg L t) : ∀ p ∈ t.list, p.1 = t.pL → p.2 = lamQ "law" := fun p hp e => by
  simp only [Tbs.list, List.mem_cons, List.not_mem_nil, or_false] at hp
  rcases hp with rfl | rfl | rfl
  · exact absurd e o.wl
  · exact absurd e o.il
  · rfl
/-- nothing that may change lies there -/
def Fresh (H : Hp) (b : Addr) : Prop := ∀ u, H b = some u → ¬ Mu u
theorem Fresh.of {H : Hp} {b : Addr} (h : H b = none) : Fresh H b := fun u e => by rw [h] at e; cases e
theorem Kt.fresh {F : Addr → Prop} {H G : Hp} {a : Addr} (k : Kt F H G) (h : G a = Option.none) (n : ¬ F a) : Fresh H a := fun u e m => by
  rw [k a u e (fun ps z => by rw [z] at m; exact m) fun _ => n] at h
  cases h
/-- what a deed of the law's leaves -/
def TurnedL (A : Ad) (bx bi p d : Addr) (S : Addr → Prop) (t : Nat) (tb : Tbs) (H G : Hp) : Prop := BoxAt G bx bi ∧ (∃ S', SideE A G p d S' t ∧ (∀ b, S' b → S b ∨ Fresh H b)) ∧ Kt (fun b => bF bx bi b ∨ S b) H G ∧ Tabs tb.list G
theorem turn_end {A : Ad} {H G J G2 I I2 : Hp} {bx bi p d ls lu l1 l2 l3 lu' l2' : Addr} {S : Addr → Prop} {t' : Nat} {tb : Tbs} {m o m' o' : M} (kG : Kp (bF bx bi) H G) (BG : BoxAt G bx bi) (Sd : Side A G p d ls lu l1 l2 l3 m o) (eS : ∀ b, S b ↔ sF p d ls lu l1 l2 l3 b)
    (hdis : ∀ b, bF bx bi b → ¬ S b) (k1 : Kp (oF d l1 l2 l3) G J) (e : ExtN J G2) (hT2 : Tabs tb.list G2) (k2 : Kp (dF p ls lu) G2 I) (k3 : Kp No I I2) (nl2 : l2' = l2 ∨ G l2' = none) (OJ : OwnAt J d l1 l2' l3 o') (nlu : lu' = lu ∨ G2 lu' = none) (DI : DiskAt A I p ls lu' m')
    (sim : Sim m' o') (gm : Good m') (go : Good o') (few : o'.picks.length ≤ 1000) (dat : ∀ v ∈ m'.sure, DatL G v) (pdat : ∀ q ∈ m'.pend, DatL G q.2) (hl : m'.pend.length ≤ t') : TurnedL A bx bi p d S t' tb H I2 := by
  have dS : ∀ b, bF bx bi b → ¬ sF p d ls lu l1 l2 l3 b := fun b z y => hdis b z ((eS b).mpr y)
  have five := Sd.five
  have kt2 : Kt (oF d l1 l2 l3) G G2 := k1.t.trans (Kt.ext (F := No) e) fun b z => z.elim
  have D2 : DiskAt A G2 p ls lu m := Sd.disk.kt kt2 fun b oz dz => sep Sd.disk Sd.own five dz oz
  have O2 : OwnAt G2 d l1 l2' l3 o' := OJ.kt (Kt.ext (F := No) e) fun b z => z.elim
  have B2 : BoxAt G2 bx bi := BG.kt kt2 fun b z y => dS b y (.inr z)
  have no : ∀ (X : Hp) (a : Addr) (Y : Addr → Prop) , (∀ b, Y b → ∃ u, X b = some u ∧ Mu u) → X a = none → ¬ Y a := fun X a Y th h z => by
    obtain ⟨u, eu, _⟩ := th a z
    rw [h] at eu
    cases eu
  have five1 : Five ls lu l1 l2' l3 := by
    rcases nl2 with rfl | h
    · exact five
    · have n := no G l2' _ (fun b z => Sd.there z) h
      exact ⟨five.ab, five.ac, fun e => n (.inl (.inr (.inl e.symm))), five.ae, five.bc, fun e => n (.inl (.inr (.inr e.symm))), five.be, fun e => n (.inr (.inr (.inl e.symm))), five.ce, fun e => n (.inr (.inr (.inr (.inr e))))⟩
  have five2 : Five ls lu' l1 l2' l3 := by
    rcases nlu with rfl | h
    · exact five1
    · have n := no G2 lu' _ (fun b z => D2.there z) h
      have n' := no G2 lu' _ (fun b z => O2.there z) h
      exact ⟨fun e => n (.inr (.inl e.symm)), five1.ac, five1.ad, five1.ae, fun e => n' (.inr (.inl e)), fun e => n' (.inr (.inr (.inl e))), fun e => n' (.inr (.inr (.inr e))), five1.cd, five1.ce, five1.de⟩
  have OI : OwnAt I d l1 l2' l3 o' := O2.kt k2.t fun b dz oz => sep D2 O2 five1 dz oz
  have ktI : Kt (sF p d ls lu l1 l2 l3) G I2 := ((kt2.sub (F' := sF p d ls lu l1 l2 l3) fun b z => .inr z).trans k2.t fun b z => .inl (.inl z)).trans k3.t fun b z => z.elim
  have ktH : Kt (fun b => bF bx bi b ∨ S b) H G2 := (kG.t.sub (F' := fun b => bF bx bi b ∨ S b) fun b z => .inl z).trans kt2 fun b z => .inl (.inr ((eS b).mpr (.inr z)))
  have ktA : Kt (fun b => bF bx bi b ∨ S b) H I2 := (kG.t.sub (F' := fun b => bF bx bi b ∨ S b) fun b z => .inl z).trans ktI fun b z => .inl (.inr ((eS b).mpr z))
  refine ⟨BG.kt ktI fun b z y => dS b y z, ⟨sF p d ls lu' l1 l2' l3, ⟨ls, lu', l1, l2', l3, m', o', ⟨DI.kt k3.t fun b z => z.elim, OI.kt k3.t fun b z => z.elim, sim, five2, gm, go, few, fun v h => (dat v h).kt ktI, fun q h => (pdat q h).kt ktI⟩, fun b => Iff.rfl, hl⟩, fun b z => ?_⟩, ktA, k3.tabs (k2.tabs hT2)⟩
  have old : ∀ {a : Addr}, sF p d ls lu l1 l2 l3 a → S a ∨ Fresh H a := fun z => .inl ((eS _).mpr z)
  have new : ∀ {a : Addr}, G2 a = none → S a ∨ Fresh H a := fun {a} h => by
    by_cases z : S a
    · exact .inl z
    · exact .inr (ktH.fresh h fun y => y.elim (fun y => B2.out h y) z)
  have new1 : ∀ {a : Addr}, G a = none → S a ∨ Fresh H a := fun {a} h => .inr (kG.t.fresh h (BG.out h))
  rcases z with (z | z | z) | (z | z | z | z)
  · exact old (.inl (.inl z))
  · exact old (.inl (.inr (.inl z)))
  · rcases nlu with e | h
    · exact old (.inl (.inr (.inr (z.trans e))))
    · exact new (z ▸ h)
  · exact old (.inr (.inl z))
  · exact old (.inr (.inr (.inl z)))
  · rcases nl2 with e | h
    · exact old (.inr (.inr (.inr (.inl (z.trans e)))))
    · exact new1 (z ▸ h)
  · exact old (.inr (.inr (.inr (.inr z))))
/-- the classes that a disk raises -/
structure Rs (K : PySem.W.Frag) (A : Ad) (XC : Nat → Addr) (SE : Addr) : Prop where
  bad : Cis K XC A.bad 8
  badS : PySem.W.exmOne K (.ref A.bad) (.ref SE) = some true
  stopped : Cis K XC A.stopped 11
  stoppedS : PySem.W.exmOne K (.ref A.stopped) (.ref SE) = some true
theorem leafBB : leafV (.str "BadBlock") = true := by decide +kernel
theorem leafST : leafV (.str "Stopped") = true := by decide +kernel
theorem ix3 (a b c : Int) {j : Int} (h0 : 0 ≤ j) (h1 : j < 3) : ∃ y : Int, atI ([V.int a, V.int b, V.int c] : List V) j = some (V.int y) := by
  rcases (show j = 0 ∨ j = 1 ∨ j = 2 by omega) with rfl | rfl | rfl
  · exact ⟨a, rfl⟩
  · exact ⟨b, rfl⟩
  · exact ⟨c, rfl⟩
theorem Good.write {m : M} (g : Good m) (r : m.run = true) {b : Int} {v : V} (h0 : 0 ≤ b) (h1 : b ≤ 34) (hl : m.pend.length < 1000) : Good (m.write b v) :=
  ⟨g.len, fun q h => (List.mem_append.mp h).elim (g.blk q) fun e => by rw [List.mem_singleton.mp e]; exact ⟨h0, h1⟩, by show (m.pend ++ [(b, v)]).length ≤ 1000; rw [List.length_append]; exact hl, (fun z => by have : m.run = false := z; rw [r] at this; cases this), g.nat⟩
theorem count_few {m : M} : m.count.2.pend.length ≤ m.pend.length := by
  unfold M.count
  cases m.run with
  | false => exact Nat.le_refl _
  | true =>
    cases m.left with
    | none => exact Nat.le_refl _
    | some l =>
      rw [if_pos rfl]
      dsimp only
      by_cases h : l ≤ 0
      · rw [if_pos h]
        exact stop_few _
      · rw [if_neg h]
        exact Nat.le_refl _
theorem count_dat {H : Hp} {m : M} (h1 : ∀ v ∈ m.sure, DatL H v) (h2 : ∀ q ∈ m.pend, DatL H q.2) : (∀ v ∈ m.count.2.sure, DatL H v) ∧ ∀ q ∈ m.count.2.pend, DatL H q.2 := by
  unfold M.count
  cases m.run with
  | false => exact ⟨h1, h2⟩
  | true =>
    cases m.left with
    | none => exact ⟨h1, h2⟩
    | some l =>
      rw [if_pos rfl]
      dsimp only
      by_cases h : l ≤ 0
      · rw [if_pos h]
        exact stop_dat _ h1 h2
      · rw [if_neg h]
        exact ⟨h1, h2⟩
theorem count_picks {m : M} : m.count.2.picks = m.picks := by
  unfold M.count
  cases m.run with
  | false => rfl
  | true =>
    cases m.left with
    | none => rfl
    | some l =>
      rw [if_pos rfl]
      dsimp only
      by_cases h : l ≤ 0
      · rw [if_pos h]
        exact stop_picks _
      · rw [if_neg h]
theorem Good.countF {m : M} (g : Good m) : Good m.count.2 := by
  by_cases h : m.count.1 = true
  · exact g.count h
  · unfold M.count at h ⊢
    cases e : m.run with
    | false => exact g
    | true =>
      rw [e, if_pos rfl] at h
      cases el : m.left with
      | none => exact g
      | some l =>
        rw [if_pos rfl]
        dsimp only
        by_cases hl : l ≤ 0
        · rw [if_pos hl]
          exact g.stop _
        · rw [el] at h
          dsimp only at h
          rw [if_neg hl] at h
          exact absurd rfl h
section
variable {P : Program} {w : World} {K : PySem.W.Frag} {mg : Str → Option Value} {base : Heap} {A : Ad} {L XC : Nat → Addr} {SE : Addr} {tb : Tbs}
/-! ### write -/
theorem scWrite : FnScope ["_law_box", "_law_disk", "_law_own", "_law_due", "_law_block", "_law_what_here"] ["_law_box", "_law_disk", "_law_own"] (defScope sWrite) := ⟨rfl, rfl, rfl, by decide +kernel, rfl, by decide +kernel, by decide +kernel⟩
def spWrite (A : Ad) (tb : Tbs) : Sp := fun vs H Q _ => ∃ bx bi p d S t, vs = [.ref bx, .ref p, .ref d] ∧ BoxAt H bx bi ∧ SideE A H p d S t ∧ t ≤ 100 ∧ (∀ b, bF bx bi b → ¬ S b) ∧ Tabs tb.list H ∧ ∀ G, TurnedL A bx bi p d S (t + 1) tb H G → Q (.bl true) G
theorem ok_write (T : Lc K mg A L XC SE) (R : Rs K A XC SE) (O : TbOk K mg L tb) (TB : TbB base mg tb) : ∃ fd, FnOk P w K mg base CX0 8 (L 34) fd ["_law_box", "_law_disk", "_law_own"] (spWrite A tb) ∧ Binds K fd ["_law_box", "_law_disk", "_law_own"] [] := by
  obtain ⟨fdT, Gtake, btake⟩ := ok_take (P := P) (w := w) (base := base) T.toLw
  obtain ⟨fdH, Gwhat, bwhat⟩ := ok_what (P := P) (w := w) (base := base) T.toLw
  obtain ⟨fdG, bweight, GW⟩ := ok_weight (P := P) (w := w) (base := base) T.toLw
  have Gweight := GW 5
  obtain ⟨fdC, Gcount, bcount⟩ := ok_count (P := P) (w := w) (base := base) T.toLw
  obtain ⟨fdA, balike, GA⟩ := ok_alike (P := P) (w := w) (base := base) T.toLw
  have Galike := GA 1
  obtain ⟨fd1, G1, b1⟩ := ok_dk1 (P := P) (w := w) (base := base) T.toTxt
  refine okC O.write scWrite (fun vs H Q E h => ?_) (fun _ _ _ _ _ _ us hl => match us, hl with | [_, _, _], _ => rfl) (fun Ar outer s H vs Q E hr h => ?_)
  · obtain ⟨bx, bi, p, d, S, t, rfl, _⟩ := h
    rfl
  · obtain ⟨bx, bi, p, d, S, t, rfl, B, SE', ht, hdis, hT, k⟩ := h
    have hu := hu_of hr
    refine ⟨_, (pss_cons (ps_set (i := 4) scWrite.nd rfl (Or.inr rfl) (pe_ix ix_list (pe_lst (pa_cons (pe_call Gtake (hr.mono (by first | decide | omega)) rfl T.take.at_ T.take.kp btake .nil pass0 (pa_cons (pv 0) (pa_cons pe_int pa_nil))) (pa_cons (pe_call Gtake (hr.mono (by first | decide | omega)) rfl T.take.at_ T.take.kp btake .nil pass0 (pa_cons (pv 0) (pa_cons pe_int pa_nil))) (pa_cons (pe_ix ix_list (pe_lst (pa_cons (pe_un un_neg pe_int) (pa_cons pe_int (pa_cons (pe_op op_pow pe_int pe_int) pa_nil)))) (pe_call Gtake (hr.mono (by first | decide | omega)) rfl T.take.at_ T.take.kp btake .nil pass0 (pa_cons (pv 0) (pa_cons pe_int pa_nil))) (fun _ _ => rfl)) pa_nil)))) (pe_op op_fdiv (pe_call Gtake (hr.mono (by first | decide | omega)) rfl T.take.at_ T.take.kp btake .nil pass0 (pa_cons (pv 0) (pa_cons pe_int pa_nil))) pe_int) (fun _ _ => rfl)))
      (pss_cons (ps_set (i := 5) scWrite.nd rfl (Or.inr rfl) (pe_call Gwhat (hr.mono (by first | decide | omega)) rfl T.what.at_ T.what.kp bwhat .nil pass0 (pa_cons (pv 0) pa_nil)))
      (pss_cons (ps_set (i := 3) scWrite.nd rfl (Or.inl rfl) pe_str)
      (C8.pss_cut (ps_if (PW.pt (pw_and (pt_chain op_le op_lt pe_int (pv 4) pe_int) (pw_and1 (pt_cmpR op_le (pe_call Gweight (hr.mono (by first | decide | omega)) rfl T.weight.at_ T.weight.kp bweight .nil pass0 (pa_cons (pv 5) pa_nil)) pe_int (nomark _)))))
        (pss_cons (ps_set (i := 3) scWrite.nd rfl (Or.inl rfl) (pe_ifExp (pt_val (pe_call Gcount (hr.mono (by first | decide | omega)) rfl T.count.at_ T.count.kp bcount .nil pass0 (pa_cons (pv 2) pa_nil))) pe_non pe_str))
        (pss_one (ps_if (pt_cmp (pc_isN (pv 3)))
          (pss_one (ps_expr (pe_bm PySem.F.plainAttrs_list PySem.F.slot_list_append PySem.F.type_list_append mt_append (pe_dget hu (pv 2) pe_str (fun _ _ => rfl)) (pa_cons (pe_tup (pa_cons (pv 4) (pa_cons (pv 5) pa_nil))) pa_nil))))
          pss_nil)))
        pss_nil)
      (pss_one (ps_ret (pe_call Galike (hr.mono (by first | decide | omega)) rfl T.alike.at_ T.alike.kp balike .nil pass0 (pa_cons (lam_tell (Tb := tb.list) T rfl TB.w rfl (by exact List.mem_cons_self) (by exact Tbs.uW O) (hr.mono (by decide)) (lamS_by (by show lamSB (defScope sWrite) _ = true; decide +kernel)) rfl (fun _ _ _ _ _ => rfl) (fun Ar outer s H E f c' hr => pe_meth (E := E) (pv 1) T.cl T.m1.me G1 hr b1 .nil (L2N.passes_call (L2N.takes_of rfl rfl rfl rfl) fun _ _ _ _ h => h) (pa_cons (pv 4) (pa_cons (pv 5) pa_nil)))) (pa_cons (pv 3) pa_nil))))))))), ?_⟩
    -- _law_block
    refine ⟨_, rfl, bx, bi, 35, rfl, B, by decide, by decide, fun b1 G1 _ _ B1 k1 => ⟨_, rfl, bx, bi, 3, rfl, B1, by decide, by decide, fun b2 G2 _ _ B2 k2 => ?_⟩⟩
    refine ⟨1, rfl, _, _, rfl, rfl, ⟨by decide, by decide, by decide⟩, sz 3 (by decide), fun l1 n1 => ⟨_, rfl, bx, bi, 3, rfl, B2.new n1, by decide, by decide, fun j G3 j0 j1 B3 k3 => ?_⟩⟩
    obtain ⟨y, hy⟩ := ix3 (-1) 35 (10 ^ (18 : Int).toNat) j0 j1
    have h3 := k3.t.lst upd_same (B2.out n1)
    refine ⟨l1, _, j, .int y, rfl, rfl, SqL.of h3, hy, sz 3 (by decide), fun l2 n2 => ⟨_, rfl, bx, bi, 9, rfl, B3.new n2, by decide, by decide, fun q G4 q0 q1 B4 k4 => ?_⟩⟩
    have h4 := k4.t.lst upd_same (B3.out n2)
    obtain ⟨n, hn⟩ := ix3 b1 b2 y (j := q / 4) (by omega) (by omega)
    refine ⟨_, _, rfl, rfl, ⟨by decide, by decide⟩, l2, _, q / 4, .int n, rfl, rfl, SqL.of h4, hn, ?_⟩
    have kH4 : Kp (bF bx bi) H G4 := ((((k1.trans k2 fun _ z => .inl z).andN n1).trans k3 fun _ z => .inl z).andN n2).trans k4 fun _ z => .inl z
    -- _law_what_here
    refine ⟨_, rfl, bx, bi, rfl, B4, fun v x z G hd hz BG k5 => ?_⟩
    have kG : Kp (bF bx bi) H G := kH4.trans k5 fun _ z => .inl z
    obtain ⟨ls, lu, l1', l2', l3', m, o, Sd, eS, hfew⟩ := SE'.kt kG.t hdis
    have hTG := kG.tabs hT
    have dS : ∀ b, bF bx bi b → ¬ sF p d ls lu l1' l2' l3' b := fun b z y => hdis b z ((eS b).mpr y)
    have five := Sd.five
    have hfo : o.pend.length ≤ t := by rw [← Sd.sim.pend]; exact hfew
    obtain ⟨sc1, sc2⟩ := Sd.sim.count
    have frH : ∀ {a : Addr}, G a = none → H a = none := fun {a} e => kG.free e fun z => (BG.out e z).elim
    -- the end of each way: what is told is what is due
    have fin : ∀ (y : V) (J : Hp), leafV y = true → TurnedL A bx bi p d S (t + 1) tb H J → spAlike 1 ([y, y] ++ []) J Q E0 := fun y J hy h => ⟨y, y, rfl, .inl ⟨hy, rfl⟩, k J h⟩
    refine ⟨fun σ J => ∃ due, σ = [some (.ref bx), some (.ref p), some (.ref d), some due, some (.int n), some v] ∧
      ((due = .str "BadBlock" ∧ ¬ Fits n x ∧ (∃ o', OwnAt J d l1' l2' l3' o' ∧ o' = o) ∧ Kp (oF d l1' l2' l3') G J) ∨
       (Fits n x ∧ o.count.1 = false ∧ due = .str "Stopped" ∧ ∃ l2'', (l2'' = l2' ∨ G l2'' = none) ∧ OwnAt J d l1' l2'' l3' o.count.2 ∧ Kp (oF d l1' l2' l3') G J) ∨
       (Fits n x ∧ o.count.1 = true ∧ due = .non ∧ OwnAt J d l1' l2' l3' (o.count.2.write n v) ∧ Kp (oF d l1' l2' l3') G J)), ?_, ?_⟩
    · refine ⟨_, rfl, _, _, rfl, rfl, _, rfl, ?_⟩
      have bad : ¬ Fits n x → ∀ J, Kp No G J → ∃ due, [some (V.ref bx), some (V.ref p), some (V.ref d), some (V.str "BadBlock"), some (V.int n), some v] = [some (V.ref bx), some (V.ref p), some (V.ref d), some due, some (V.int n), some v] ∧
          ((due = .str "BadBlock" ∧ ¬ Fits n x ∧ (∃ o', OwnAt J d l1' l2' l3' o' ∧ o' = o) ∧ Kp (oF d l1' l2' l3') G J) ∨
           (Fits n x ∧ o.count.1 = false ∧ due = .str "Stopped" ∧ ∃ l2'', (l2'' = l2' ∨ G l2'' = none) ∧ OwnAt J d l1' l2'' l3' o.count.2 ∧ Kp (oF d l1' l2' l3') G J) ∨
           (Fits n x ∧ o.count.1 = true ∧ due = .non ∧ OwnAt J d l1' l2' l3' (o.count.2.write n v) ∧ Kp (oF d l1' l2' l3') G J)) := fun nf J kJ =>
        ⟨_, rfl, .inl ⟨rfl, nf, ⟨o, Sd.own.kt kJ.t fun b z => z.elim, rfl⟩, kJ.sub fun _ z => z.elim⟩⟩
      by_cases h1 : 0 ≤ n
      · rw [decide_eq_true h1]
        refine iteT ⟨_, _, rfl, rfl, _, rfl, ?_⟩
        by_cases h2 : n < 35
        · rw [decide_eq_true h2]
          refine iteT ⟨_, rfl, v, x, z, rfl, hd, by omega, fun J kJ => ⟨_, _, rfl, rfl, _, rfl, ?_⟩⟩
          by_cases h3 : x ≤ 40
          · rw [decide_eq_true (show ((x : Nat) : Int) ≤ 40 by omega)]
            have fit : Fits n x := ⟨h1, by omega, h3⟩
            have OJ := Sd.own.kt kJ.t fun b z => z.elim
            refine iteT ⟨_, rfl, d, l1', l2', l3', o, rfl, OJ, Sd.goodo, by omega, five.cd, five.ce.symm, Sd.few, fun I l2'' nl OI kI eI => ?_⟩
            have kGI : Kp (oF d l1' l2' l3') G I := (kJ.sub fun _ z => z.elim).trans kI fun _ z => .inl z
            have nl2 : l2'' = l2' ∨ G l2'' = none := nl.imp id fun e => kJ.free e fun z => z.elim
            cases ec : o.count.1 with
            | false =>
              refine ⟨_, rfl, iteF ⟨_, rfl, _, rfl, ?_⟩⟩
              rw [decide_eq_false (show ¬ V.str "Stopped" = V.non from fun z => by cases z)]
              exact iteF ⟨_, rfl, .inr (.inl ⟨fit, rfl, rfl, l2'', nl2, OI, kGI⟩)⟩
            | true =>
              have e2 := eI ec
              subst e2
              refine ⟨_, rfl, iteT ⟨_, rfl, _, rfl, ?_⟩⟩
              rw [decide_eq_true (rfl : V.non = V.non)]
              obtain ⟨c1, c2, c3, _, _⟩ := count_true ec
              obtain ⟨rs, h6, h7⟩ := OI.pend
              have hlr : rs.length = o.pend.length := by rw [← c2]; exact Paired.length h7
              refine iteT ⟨_, rfl, d, _, rfl, dgO "pending" _ OI.dc rfl, .inl ⟨rfl, _, SqL.of h6⟩, _, rfl, _, rfl, sz 2 (by decide), fun tt nt => ?_⟩
              have nlt : l2'' ≠ tt := ne_of_none h6 nt
              refine ⟨l2'', rs, _, rfl, rfl, by rw [upd_ne nlt]; exact h6, Nat.lt_of_lt_of_le (show rs.length < 1000 by omega) (sz _ (by decide)), ?_⟩
              have kn : Kp (oF d l1' l2'' l3') I _ := (Kp.new (F := oF d l1' l2'' l3') (o := .tup [.int n, v]) nt).andL (o' := .lst (rs ++ [.ref tt])) (by rw [upd_ne nlt]; exact h6) (.inr (.inr (.inl rfl)))
              have ndp : d ≠ l2'' := ne_of OI.dc h6 (by intro z; cases z)
              refine ⟨_, rfl, .inr (.inr ⟨fit, rfl, rfl, ⟨?_, ?_, ⟨rs ++ [.ref tt], upd_same, pairedApp (h7.kt kn.t) (.cons ⟨tt, rfl, by rw [upd_ne nlt.symm, upd_same]⟩ .nil)⟩, ?_⟩, kGI.trans kn fun b z => .inl z⟩)⟩
              · rw [upd_ne ndp, upd_ne (ne_of_none OI.dc nt)]
                exact OI.dc
              · rw [upd_ne five.cd, upd_ne (ne_of_none OI.sure nt)]
                exact OI.sure
              · rw [upd_ne five.de.symm, upd_ne (ne_of_none OI.picks nt)]
                exact OI.picks
          · rw [decide_eq_false (show ¬ ((x : Nat) : Int) ≤ 40 by omega)]
            exact iteF (bad (fun f => h3 f.2.2) J kJ)
        · rw [decide_eq_false h2]
          exact iteF (iteF (bad (fun f => h2 (by have := f.2.1; omega)) G (Kp.refl _ _)))
      · rw [decide_eq_false h1]
        exact iteF ⟨_, rfl, iteF (iteF (bad (fun f => h1 f.1) G (Kp.refl _ _)))⟩
    · rintro σ J ⟨due, rfl, hm⟩
      have nt : ∀ {y : V} {I : Hp}, spAlike 1 ([y, due] ++ []) I Q E0 → spAlike 1 ([y, due] ++ []) I Q E0 := fun h => h
      -- the promise of the disk's write, one way after the other
      have key : ∃ l2'' o', (l2'' = l2' ∨ G l2'' = none) ∧ OwnAt J d l1' l2'' l3' o' ∧ Kp (oF d l1' l2' l3') G J ∧
          ((¬ Fits n x ∧ due = .str "BadBlock" ∧ o' = o) ∨ (Fits n x ∧ o.count.1 = false ∧ due = .str "Stopped" ∧ o' = o.count.2) ∨ (Fits n x ∧ o.count.1 = true ∧ due = .non ∧ o' = o.count.2.write n v)) := by
        rcases hm with ⟨h1, h2, ⟨o', h3, h4⟩, h5⟩ | ⟨h1, h2, h3, l2'', h4, h5, h6⟩ | ⟨h1, h2, h3, h4, h5⟩
        · exact ⟨l2', o', .inl rfl, h3, h5, .inl ⟨h2, h1, h4⟩⟩
        · exact ⟨l2'', _, h4, h5, h6, .inr (.inl ⟨h1, h2, h3, rfl⟩)⟩
        · exact ⟨l2', _, .inl rfl, h4, h5, .inr (.inr ⟨h1, h2, h3, rfl⟩)⟩
      obtain ⟨l2'', o', nl2, OJ, k1', way⟩ := key
      refine ⟨k1'.tabs hTG, fun G2 eJ hT2 => ?_⟩
      have kt2 : Kt (oF d l1' l2' l3') G G2 := k1'.t.trans (Kt.ext (F := No) eJ) fun b z => z.elim
      have D2 : DiskAt A G2 p ls lu m := Sd.disk.kt kt2 fun b oz dz => sep Sd.disk Sd.own five dz oz
      obtain ⟨dx, tp, st, g1, _⟩ := D2.ex
      have te : ∀ {I I2 : Hp} {lu' : Addr} {m' : M}, Kp (dF p ls lu) G2 I → Kp No I I2 → (lu' = lu ∨ G2 lu' = none) → DiskAt A I p ls lu' m' → Sim m' o' → Good m' → Good o' → o'.picks.length ≤ 1000 → (∀ v ∈ m'.sure, DatL G v) → (∀ q ∈ m'.pend, DatL G q.2) → m'.pend.length ≤ t + 1 → TurnedL A bx bi p d S (t + 1) tb H I2 :=
        fun k2 k3 nlu DI sim gm go few dat pdat hl => turn_end kG BG Sd eS hdis k1' eJ hT2 k2 k3 nl2 OJ nlu DI sim gm go few dat pdat hl
      refine ⟨_, rfl, p, dx, _, rfl, g1, rfl, _, rfl, _, rfl, p, ls, lu, m, n, v, 5, x, z, rfl, D2, Sd.good, by omega, hd.kt kt2, by omega, fun I lu' nlu kI => ⟨fun nf elu DI => ?_, fun f c elu DI => ?_, fun f c DI => ?_⟩⟩
      · refine ⟨A.bad, 8, rfl, rfl, R.bad, R.badS, fun y I2 hy k3 => ?_⟩
        cases hy
        rcases way with ⟨_, rfl, rfl⟩ | ⟨f, _⟩ | ⟨f, _⟩
        · exact ⟨_, rfl, fin _ _ leafBB (te (lu' := lu) kI k3 (.inl rfl) DI Sd.sim Sd.good Sd.goodo Sd.few Sd.dat Sd.pdat (by omega))⟩
        · exact absurd f nf
        · exact absurd f nf
      · have hoc : o.count.1 = true := sc1 ▸ c
        rcases way with ⟨nf, _⟩ | ⟨_, e, _⟩ | ⟨_, _, rfl, rfl⟩
        · exact absurd f nf
        · rw [hoc] at e
          cases e
        · obtain ⟨c1, c2, c3, _, c5⟩ := count_true c
          obtain ⟨d1, d2, d3, _, d5⟩ := count_true hoc
          refine ⟨_, rfl, fin _ _ rfl (te (m' := m.count.2.write n v) (lu' := lu) kI (Kp.refl _ _) (.inl rfl) DI ⟨sc2.sure, ?_, sc2.run, sc2.arm⟩ (Good.write (Sd.good.count c) c3 f.1 (by have := f.2.1; omega) (by rw [c2]; omega)) (Good.write (Sd.goodo.count hoc) d3 f.1 (by have := f.2.1; omega) (by rw [d2]; omega)) ?_ ?_ ?_ ?_)⟩
          · show m.count.2.pend ++ _ = o.count.2.pend ++ _
            rw [sc2.pend]
          · show o.count.2.picks.length ≤ 1000
            rw [d5]
            exact Sd.few
          · intro u hu'
            have : u ∈ m.count.2.sure := hu'
            rw [c1] at this
            exact Sd.dat u this
          · intro q hq
            rcases List.mem_append.mp hq with hq | hq
            · rw [c2] at hq
              exact Sd.pdat q hq
            · rw [List.mem_singleton.mp hq]
              exact ⟨x, z, hd, hz⟩
          · show (m.count.2.pend ++ [(n, v)]).length ≤ t + 1
            rw [List.length_append, c2]
            exact Nat.add_le_add_right hfew 1
      · have hoc : o.count.1 = false := sc1 ▸ c
        refine ⟨A.stopped, 11, rfl, rfl, R.stopped, R.stoppedS, fun y I2 hy k3 => ?_⟩
        cases hy
        rcases way with ⟨nf, _⟩ | ⟨_, _, rfl, rfl⟩ | ⟨_, e, _⟩
        · exact absurd f nf
        · refine ⟨_, rfl, fin _ _ leafST (te kI k3 nlu DI sc2 Sd.good.countF Sd.goodo.countF ?_ (count_dat Sd.dat Sd.pdat).1 (count_dat Sd.dat Sd.pdat).2 (Nat.le_trans count_few (by omega)))⟩
          rw [count_picks]
          exact Sd.few
        · rw [hoc] at e
          cases e
end
end K5

set_option Elab.async false
set_option linter.all false
set_option maxRecDepth 100000
set_option maxHeartbeats 4000000
namespace K5
open PySem PySem.Spec PyProof.Rows L2 LamX
/-- what isn't settled of one block -/
def got (n : Int) (ps : List (Int × V)) : List V := (ps.filter fun q => decide (q.1 = n)).map (·.2)
theorem got_get (n : Int) : ∀ (ps : List (Int × V)) (z : V), ps.foldl (fun f q => if q.1 = n then q.2 else f) z = (got n ps).getLastD z
  | [], _ => rfl
  | q :: ps, z => by
    show ps.foldl _ (if q.1 = n then q.2 else z) = _
    rw [got_get n ps]
    unfold got
    by_cases h : q.1 = n
    · rw [if_pos h, List.filter_cons_of_pos (by simpa using h), List.map_cons, List.getLastD_cons]
    · rw [if_neg h, List.filter_cons_of_neg (by simpa using h)]
theorem got_app (n : Int) (ps : List (Int × V)) (q : Int × V) : got n (ps ++ [q]) = got n ps ++ (if q.1 = n then [q.2] else []) := by
  unfold got
  rw [List.filter_append, List.map_append]
  by_cases h : q.1 = n
  · rw [if_pos h, List.filter_cons_of_pos (by simpa using h)]
    rfl
  · rw [if_neg h, List.filter_cons_of_neg (by simpa using h)]
    rfl
theorem got_len (n : Int) (ps : List (Int × V)) : (got n ps).length ≤ ps.length := by
  unfold got
  rw [List.length_map]
  exact List.length_filter_le _ _
theorem got_mem {n : Int} {ps : List (Int × V)} {v : V} (h : v ∈ got n ps) : ∃ q ∈ ps, v = q.2 := by
  obtain ⟨q, h1, h2⟩ := List.mem_map.mp h
  exact ⟨q, (List.mem_filter.mp h1).1, h2.symm⟩
theorem datL_all {H : Hp} {K : PySem.W.Frag} : ∀ {xs : List V}, (∀ v ∈ xs, DatL H v) → ∃ ds, DpAll K H xs ds ∧ PyData.canLayAll0 ds = true ∧ PyData.depthAll ds ≤ 5 ∧ ds.isEmpty = xs.isEmpty
  | [], _ => ⟨[], .nil, by simp only [PyData.canLayAll0], by simp only [PyData.depthAll]; omega, rfl⟩
  | v :: vs, h => by
    obtain ⟨x, z, dv, _⟩ := h v List.mem_cons_self
    obtain ⟨d, h1, h2, h3⟩ := Dat.dp (K := K) dv
    obtain ⟨ds, h4, h5, h6, _⟩ := datL_all (K := K) (xs := vs) fun u hu => h u (List.mem_cons_of_mem _ hu)
    exact ⟨d :: ds, .cons h1 h4, by simp only [PyData.canLayAll0, h2, h5, Bool.and_self], by simp only [PyData.depthAll]; omega, rfl⟩
theorem datL_get {H : Hp} {m : M} {n : Int} (g : Good m) (h0 : 0 ≤ n) (h34 : n ≤ 34) (h1 : ∀ v ∈ m.sure, DatL H v) (h2 : ∀ q ∈ m.pend, DatL H q.2) : DatL H (m.get n) := by
  have hx : m.sure.getD n.toNat .non ∈ m.sure := by
    rw [List.getD_eq_getElem?_getD, List.getElem?_eq_getElem (by rw [g.len]; omega)]
    exact List.getElem_mem _
  unfold M.get
  rw [got_get]
  rcases List.eq_nil_or_concat (got n m.pend) with e | ⟨ys, v, e⟩
  · rw [e]
    exact h1 _ hx
  · rw [List.concat_eq_append] at e
    have hv : v ∈ got n m.pend := by rw [e]; exact List.mem_append_right _ List.mem_cons_self
    obtain ⟨q, hq, rfl⟩ := got_mem hv
    rw [e]
    simp only [List.getLastD_concat, List.getLastD_eq_getLast?, List.getLast?_concat, Option.getD_some]
    exact h2 q hq
theorem ix6 (a b c d e f : Int) {j : Int} (h0 : 0 ≤ j) (h1 : j < 6) : ∃ y : Int, atI ([V.int a, V.int b, V.int c, V.int d, V.int e, V.int f] : List V) j = some (V.int y) := by
  rcases (show j = 0 ∨ j = 1 ∨ j = 2 ∨ j = 3 ∨ j = 4 ∨ j = 5 by omega) with rfl | rfl | rfl | rfl | rfl | rfl
  · exact ⟨a, rfl⟩
  · exact ⟨b, rfl⟩
  · exact ⟨c, rfl⟩
  · exact ⟨d, rfl⟩
  · exact ⟨e, rfl⟩
  · exact ⟨f, rfl⟩
theorem Kp.updNew {F : Addr → Prop} {H G : Hp} {D : Addr} {o : HO} (k : Kp F H G) (h : H D = none) : Kp F H (L2.upd G D o) := fun b u e n => by
  have nb : b ≠ D := fun z => by
    rw [z, h] at e
    cases e
  rw [upd_ne nb]
  exact k b u e n
/-- the two tellings of all blocks -/
theorem al_sure {H : Hp} {l l1 : Addr} {xs : List V} (h1 : H l = some (.lst xs)) (h2 : H l1 = some (.lst xs)) (hl : xs.length = 35) (h : ∀ v ∈ xs, DatL H v) : Al H 6 (.ref l) (.ref l1) :=
  .inr ⟨l, l1, xs, xs, rfl, rfl, .inr ⟨h1, h2⟩, rfl, by omega, fun i x y hx hy => by
    rw [hx] at hy
    cases hy
    obtain ⟨a, z, d, hz⟩ := h x (List.mem_of_getElem? hx)
    exact d.al (by omega)⟩
section
variable {P : Program} {w : World} {K : PySem.W.Frag} {mg : Str → Option Value} {base : Heap} {A : Ad} {L XC : Nat → Addr} {SE : Addr} {tb : Tbs}
/-! ### is -/
abbrev NscIs : List Str := ["_law_box", "_law_disk", "_law_own", "_law_again", "_law_found", "_law_far", "_law_blocks", "_law_due", "_law_some", "_law_told_here", "_law_block", "_law_one", "_law_what_here"]
theorem scIs : FnScope NscIs ["_law_box", "_law_disk", "_law_own"] (defScope sIs) := ⟨rfl, rfl, rfl, by decide +kernel, rfl, by decide +kernel, by decide +kernel⟩
def spIs (A : Ad) (tb : Tbs) : Sp := fun vs H Q _ => ∃ bx bi p d S t, vs = [.ref bx, .ref p, .ref d] ∧ BoxAt H bx bi ∧ SideE A H p d S t ∧ t ≤ 100 ∧ (∀ b, bF bx bi b → ¬ S b) ∧ Tabs tb.list H ∧ ∀ G, BoxAt G bx bi → Kt (bF bx bi) H G → Tabs tb.list G → Q (.bl true) G
theorem ok_is (T : Lc K mg A L XC SE) (R : Rs K A XC SE) (O : TbOk K mg L tb) (TB : TbB base mg tb) : ∃ fd, FnOk P w K mg base CX0 8 (L 36) fd ["_law_box", "_law_disk", "_law_own"] (spIs A tb) ∧ Binds K fd ["_law_box", "_law_disk", "_law_own"] [] := by
  obtain ⟨fdT, Gtake, btake⟩ := ok_take (P := P) (w := w) (base := base) T.toLw
  obtain ⟨fdA, balike, GA⟩ := ok_alike (P := P) (w := w) (base := base) T.toLw
  have Galike := GA 6
  obtain ⟨fd7, G_settled, b_settled⟩ := ok_dk7 (P := P) (w := w) (base := base) T.toTxt
  obtain ⟨fd3, G3, b3⟩ := ok_dk3 (P := P) (w := w) (base := base) T.toTxt
  refine okC O.is_ scIs (fun vs H Q E h => ?_) (fun _ _ _ _ _ _ us hl => match us, hl with | [_, _, _], _ => rfl) (fun Ar outer s H vs Q E hr h => ?_)
  · obtain ⟨bx, bi, p, d, S, t, rfl, _⟩ := h
    rfl
  · obtain ⟨bx, bi, p, d, S, t, rfl, B, SE', ht, hdis, hT, k⟩ := h
    have hu := hu_of hr
    refine ⟨_, (pss_cons (ps_for PassesOwn.never rfl (pi_range1 (by rfl) T.range (pa_cons pe_int pa_nil)) (pg_name (i := 3) scIs.nd rfl (Or.inl rfl))
        (pss_cons (ps_set (i := 4) scIs.nd rfl (Or.inl rfl) (pe_meth0 (pv 1) T.cl T.m_settled.me G_settled (hr.mono (by first | decide | omega)) b_settled .nil pass0))
        (pss_cons (ps_if (pt_not (pt_val (pe_call Galike (hr.mono (by first | decide | omega)) rfl T.alike.at_ T.alike.kp balike .nil pass0 (pa_cons (pv 4) (pa_cons (pe_dget hu (pv 2) pe_str (fun _ _ => rfl)) pa_nil)))))
          (pss_one (ps_ret pe_bl))
          pss_nil)
        (pss_one (ps_expr (pe_bm0 PySem.F.plainAttrs_list PySem.F.slot_list_clear PySem.F.type_list_clear mt_clear (pv 4)))))))
      (pss_cons (ps_set (i := 5) scIs.nd rfl (Or.inl rfl) (pe_call Gtake (hr.mono (by first | decide | omega)) rfl T.take.at_ T.take.kp btake .nil pass0 (pa_cons (pv 0) (pa_cons (pe_op op_pow pe_int pe_int) pa_nil))))
      (pss_cons (ps_set (i := 6) scIs.nd rfl (Or.inl rfl) (pe_lst (pa_cons (pe_call Gtake (hr.mono (by first | decide | omega)) rfl T.take.at_ T.take.kp btake .nil pass0 (pa_cons (pv 0) (pa_cons pe_int pa_nil))) (pa_cons (pe_call Gtake (hr.mono (by first | decide | omega)) rfl T.take.at_ T.take.kp btake .nil pass0 (pa_cons (pv 0) (pa_cons pe_int pa_nil))) (pa_cons (pe_call Gtake (hr.mono (by first | decide | omega)) rfl T.take.at_ T.take.kp btake .nil pass0 (pa_cons (pv 0) (pa_cons pe_int pa_nil))) (pa_cons (pe_op op_add pe_int (pv 5)) (pa_cons (pe_op op_sub (pe_un un_neg pe_int) (pv 5)) (pa_cons (pe_op op_sub (pe_un un_neg pe_int) (pe_call Gtake (hr.mono (by first | decide | omega)) rfl T.take.at_ T.take.kp btake .nil pass0 (pa_cons (pv 0) (pa_cons pe_int pa_nil)))) pa_nil))))))))
      (pss_cons (ps_set (i := 10) scIs.nd rfl (Or.inr rfl) (pe_ix ix_list (pv 6) (pe_call Gtake (hr.mono (by first | decide | omega)) rfl T.take.at_ T.take.kp btake .nil pass0 (pa_cons (pv 0) (pa_cons pe_int pa_nil))) (fun _ _ => rfl)))
      (pss_cons (ps_set (i := 7) scIs.nd rfl (Or.inl rfl) pe_str)
      (C8.pss_cut (ps_if (pt_chain op_le op_lt pe_int (pv 10) pe_int)
        (pss_cons (ps_setLc (i := 8) (own := [("_law_one", 11), ("_law_what_here", 12)]) (g := gTup K 2 (gCons (gName 11) (gCons (gName 12) gNil))) (by rfl) scIs.nd rfl rfl (sw_true rfl rfl rfl (by decide +kernel)) (pi_list (pe_dget hu (pv 2) pe_str (fun _ _ => rfl))) (blkOk_by (N := NscIs) (sc := defScope sIs) (by decide +kernel)) (fun _ _ _ _ _ => pg_tup rfl (pgs_cons (pg_name (i := 11) scIs.nd rfl (Or.inl rfl)) (pgs_cons (pg_name (i := 12) scIs.nd rfl (Or.inl rfl)) pgs_nil))) (fun _ _ _ _ _ => (pts_one (pt_cmpR op_eq (pv 11) (pv 10) (nomark _)))) (fun _ _ _ _ _ => (pv 12)))
        (pss_cons (ps_set (i := 9) scIs.nd rfl (Or.inl rfl) (pe_ifExp (pt_cmpR (op_eqD hr.units) (pv 8) (pe_lst pa_nil) (nomark _)) (pe_ix ix_list (pe_dget hu (pv 2) pe_str (fun _ _ => rfl)) (pv 10) (fun _ _ => rfl)) (pe_ix ix_list (pv 8) (pe_un un_neg pe_int) (fun _ _ => rfl))))
        (pss_one (ps_set (i := 7) scIs.nd rfl (Or.inl rfl) (pe_ifExp (pt_val (pe_dget hu (pv 2) pe_str (fun _ _ => rfl))) pe_str (pv 9))))))
        pss_nil)
      (pss_one (ps_ret (pe_call Galike (hr.mono (by first | decide | omega)) rfl T.alike.at_ T.alike.kp balike .nil pass0 (pa_cons (lam_tell (Tb := tb.list) T rfl TB.i rfl (by exact List.mem_cons_of_mem _ List.mem_cons_self) (by exact Tbs.uI O) (hr.mono (by decide)) (lamS_by (by show lamSB (defScope sIs) _ = true; decide +kernel)) rfl (fun _ _ _ _ _ => rfl) (fun Ar outer s H E f c' hr => pe_meth (E := E) (pv 1) T.cl T.m3.me G3 hr b3 .nil (L2N.passes_call (L2N.takes_of rfl rfl rfl rfl) fun _ _ _ _ h => h) (pa_cons (pv 10) pa_nil))) (pa_cons (pv 7) pa_nil))))))))))), ?_⟩
    obtain ⟨ls, lu, l1, l2, l3, m, o, Sd, eS, hfew⟩ := SE'
    have five := Sd.five
    have dS : ∀ b, bF bx bi b → ¬ sF p d ls lu l1 l2 l3 b := fun b z y => hdis b z ((eS b).mpr y)
    refine ⟨2, rfl, by decide, by decide, for_range (lo := 0) (n := (2 : Int).toNat) (fun i σ G => (∃ o3 o4, σ = [some (.ref bx), some (.ref p), some (.ref d), o3, o4, none, none, none, none, none, none, none, none]) ∧ Kp No H G) ⟨⟨none, none, rfl⟩, Kp.refl _ _⟩ ?_ ?_⟩
    · rintro i σ G hi ⟨⟨o3, o4, rfl⟩, kG⟩
      have SG := Sd.kt kG.t fun b z => z.elim
      obtain ⟨dx, tp, st, g1, _⟩ := SG.disk.ex
      refine ⟨_, rfl, p, dx, _, rfl, g1, rfl, p, ls, lu, m, rfl, SG.disk, fun l nl => ?_⟩
      have kn : Kp No H (upd G l (.lst m.sure)) := kG.andN nl
      have Sn := Sd.kt kn.t fun b z => z.elim
      refine ⟨_, rfl, _, rfl, d, _, rfl, dgO "settled" _ Sn.own.dc rfl, .ref l, .ref l1, rfl, al_sure upd_same (by have q := Sn.own.sure; rw [← Sd.sim.sure] at q; exact q) Sd.good.len Sn.dat, _, rfl, iteF ?_⟩
      refine ⟨_, rfl, .inl ⟨rfl, _, SqL.of upd_same⟩, l, _, rfl, rfl, upd_same, ⟨_, _, rfl⟩, ?_⟩
      rw [upd_upd]
      exact kG.andN nl
    rintro σ J ⟨⟨o3, o4, rfl⟩, kJ⟩
    have BJ : BoxAt J bx bi := B.kt kJ.t fun b z => z.elim
    refine ⟨_, rfl, _, _, rfl, rfl, ⟨by decide, by decide, by decide⟩, bx, bi, _, rfl, BJ, by decide +kernel, by decide +kernel, fun far G1 f0 f1 B1 k1 => ?_⟩
    refine ⟨_, rfl, bx, bi, 3, rfl, B1, by decide, by decide, fun r1 G2 _ _ B2 k2 => ⟨_, rfl, bx, bi, 3, rfl, B2, by decide, by decide, fun r2 G3 _ _ B3 k3 => ⟨_, rfl, bx, bi, 35, rfl, B3, by decide, by decide, fun r3 G4 _ _ B4 k4 => ?_⟩⟩⟩
    refine ⟨_, rfl, _, _, rfl, rfl, 1, rfl, _, rfl, _, _, rfl, rfl, 1, rfl, _, rfl, bx, bi, 35, rfl, B4, by decide, by decide, fun r6 G5 _ _ B5 k5 => ⟨_, _, rfl, rfl, sz 6 (by decide), fun l nl => ?_⟩⟩
    refine ⟨_, rfl, _, rfl, bx, bi, 6, rfl, B5.new nl, by decide, by decide, fun q G6 q0 q1 B6 k6 => ?_⟩
    have h6 := k6.t.lst upd_same (B5.out nl)
    obtain ⟨n, hn⟩ := ix6 r1 r2 r3 (35 + far) (-1 - far) (-1 - r6) q0 q1
    refine ⟨l, _, q, .int n, rfl, rfl, SqL.of h6, hn, ?_⟩
    have kH : Kp (bF bx bi) H G6 := ((((((((kJ.sub (F' := bF bx bi) fun b z => z.elim).trans k1 fun _ z => .inl z).trans k2 fun _ z => .inl z).trans k3 fun _ z => .inl z).trans k4 fun _ z => .inl z).trans k5 fun _ z => .inl z).andN nl).trans k6 fun _ z => .inl z)
    have S6 := Sd.kt kH.t dS
    have O6 := S6.own
    obtain ⟨rs, h3, h4⟩ := O6.pend
    have hT6 := kH.tabs hT
    refine ⟨fun σ J => ∃ due o8 o9, σ = [some (.ref bx), some (.ref p), some (.ref d), o3, o4, some (.int far), some (.ref l), some due, o8, o9, some (.int n), none, none] ∧ Kp No G6 J ∧
      ((¬ (0 ≤ n ∧ n ≤ 34) ∧ due = .str "BadBlock") ∨ (0 ≤ n ∧ n ≤ 34 ∧ m.run = false ∧ due = .str "Stopped") ∨ (0 ≤ n ∧ n ≤ 34 ∧ m.run = true ∧ due = m.get n)), ?_, ?_⟩
    · have hget : ∀ {x : V}, 0 ≤ n → n ≤ 34 → x = m.get n → ∀ (I : Hp) (a8 : Option V), Kp No G6 I → tAsg (tIf (tB (tDGet (tVar 2) (tC (V.str "fallen")))) (tC (V.str "Stopped")) (tVar 9)) (gName 7)
          { nx := fun σ J => ∃ due o8 o9, σ = [some (.ref bx), some (.ref p), some (.ref d), o3, o4, some (.int far), some (.ref l), some due, o8, o9, some (.int n), none, none] ∧ Kp No G6 J ∧
              ((¬ (0 ≤ n ∧ n ≤ 34) ∧ due = .str "BadBlock") ∨ (0 ≤ n ∧ n ≤ 34 ∧ m.run = false ∧ due = .str "Stopped") ∨ (0 ≤ n ∧ n ≤ 34 ∧ m.run = true ∧ due = m.get n)), rt := Q }
          [some (.ref bx), some (.ref p), some (.ref d), o3, o4, some (.int far), some (.ref l), some (.str "BadBlock"), a8, some x, some (.int n), none, none] I := fun {x} h0 h34 ex I a8 kI => by
        have OI := O6.kt kI.t fun b z => z.elim
        refine ⟨_, rfl, d, _, rfl, dgO "fallen" _ OI.dc rfl, _, rfl, ?_⟩
        rw [← Sd.sim.run]
        cases er : m.run with
        | false => exact iteT ⟨_, _, _, rfl, kI, .inr (.inl ⟨h0, h34, rfl, rfl⟩)⟩
        | true => exact iteF ⟨_, rfl, _, _, _, rfl, kI, .inr (.inr ⟨h0, h34, rfl, ex⟩)⟩
      have no : ¬ (0 ≤ n ∧ n ≤ 34) → (∃ due o8 o9, [some (V.ref bx), some (.ref p), some (.ref d), o3, o4, some (.int far), some (.ref l), some (.str "BadBlock"), none, none, some (.int n), none, none] = [some (V.ref bx), some (.ref p), some (.ref d), o3, o4, some (.int far), some (.ref l), some due, o8, o9, some (.int n), none, none] ∧ Kp No G6 G6 ∧
          ((¬ (0 ≤ n ∧ n ≤ 34) ∧ due = .str "BadBlock") ∨ (0 ≤ n ∧ n ≤ 34 ∧ m.run = false ∧ due = .str "Stopped") ∨ (0 ≤ n ∧ n ≤ 34 ∧ m.run = true ∧ due = m.get n))) := fun z => ⟨_, _, _, rfl, Kp.refl _ _, .inl ⟨z, rfl⟩⟩
      refine ⟨_, rfl, _, _, rfl, rfl, _, rfl, ?_⟩
      by_cases c0 : 0 ≤ n
      · rw [decide_eq_true c0]
        refine iteT ⟨_, _, rfl, rfl, _, rfl, ?_⟩
        by_cases c1 : n < 35
        · rw [decide_eq_true c1]
          have c34 : n ≤ 34 := by omega
          refine iteT ⟨_, rfl, d, _, rfl, dgO "pending" _ O6.dc rfl, l2, rfl, ⟨_, SqL.of h3⟩, fun D nD => lc_list (K := K) (a := l2) (xs := rs) (fun i G => G D = some (.lst (got n (o.pend.take i))) ∧ Kp No G6 G) ⟨upd_same, Kp.new nD⟩ (fun i G _ ⟨_, kG⟩ => SqL.of (kG.t.lst h3 fun z => z)) ?_ ?_⟩
          · rintro i x G hx ⟨hG, kG⟩
            obtain ⟨qq, hqq, tt, rfl, htt⟩ := Paired.at h4 hx
            refine ⟨tt, _, rfl, SqT.of (kG.t.tup htt), rfl, _, _, rfl, _, _, rfl, rfl, ?_⟩
            refine ⟨rfl, ?_⟩
            refine ⟨_, rfl, _, rfl, rfl, _, rfl, ?_⟩
            have e1 := take_succ_of hqq
            refine ite2 (fun he => ?_) (fun he => ?_)
            · have he : qq.1 = n := by simpa using he
              refine ⟨_, rfl, _, hG, sz _ ?_, ?_, kG.updNew nD⟩
              · have := got_len n (o.pend.take i)
                have := (List.take_sublist i o.pend).length_le
                have : o.pend.length ≤ t := by rw [← Sd.sim.pend]; exact hfew
                omega
              · rw [upd_same, e1, got_app, if_pos he]
            · have he : ¬ qq.1 = n := by simpa using he
              refine ⟨?_, kG⟩
              rw [e1, got_app, if_neg he, List.append_nil]
              exact hG
          · rintro G ⟨hG, kG⟩
            rw [List.take_of_length_le (Nat.le_of_eq (Paired.length h4).symm)] at hG
            have dall : ∀ v ∈ got n o.pend, DatL H v := fun v hv => by
              obtain ⟨qq, hq, rfl⟩ := got_mem hv
              exact Sd.pdat qq (by rw [Sd.sim.pend]; exact hq)
            refine ⟨_, rfl, Nat.zero_le _, fun e ne => ?_⟩
            have kE : Kp No G6 (upd G e (.lst [])) := kG.andN ne
            have kHE : Kp (bF bx bi) H (upd G e (.lst [])) := kH.trans kE fun _ z => z.elim
            obtain ⟨ds, d1, d2, d3, d4⟩ := datL_all (H := upd G e (.lst [])) (K := K) (xs := got n o.pend) fun v hv => (dall v hv).kt kHE.t
            have hD : upd G e (.lst []) D = some (.lst (got n o.pend)) := by rw [upd_ne (ne_of_none hG ne)]; exact hG
            refine ⟨_, _, .lst (SqL.of hD) d1, .lst (SqL.of upd_same) .nil, shaped_of (by simp only [PyData.canLay0]; exact d2) (by simp only [PyData.depth]; omega), shaped_nil, _, rfl, ?_⟩
            rw [eqv_nil, d4]
            have OE := O6.kt kE.t fun b z => z.elim
            rcases List.eq_nil_or_concat (got n o.pend) with eg | ⟨ys, v, eg⟩
            · rw [eg]
              have hx : m.sure[n.toNat]? = some (m.sure.getD n.toNat .non) := by
                rw [List.getD_eq_getElem?_getD, List.getElem?_eq_getElem (by rw [Sd.good.len]; omega)]
                rfl
              refine iteT ⟨_, rfl, d, _, rfl, dgO "settled" _ OE.dc rfl, _, rfl, l1, o.sure, n, m.sure.getD n.toNat .non, rfl, rfl, SqL.of OE.sure, by rw [← Sd.sim.sure]; unfold atI; rw [ixN_in c0 (by rw [Sd.good.len]; omega)]; exact hx, hget c0 c34 ?_ _ _ kE⟩
              unfold M.get
              rw [got_get, Sd.sim.pend, eg]
              rfl
            · rw [List.concat_eq_append] at eg
              rw [eg] at hD ⊢
              have hne : (ys ++ [v]).isEmpty = false := by cases ys <;> rfl
              rw [hne]
              refine iteF ⟨_, rfl, 1, rfl, D, _, _, v, rfl, rfl, SqL.of hD, atI_last ys v, hget c0 c34 ?_ _ _ kE⟩
              unfold M.get
              rw [got_get, Sd.sim.pend, eg, List.getLastD_eq_getLast?, List.getLast?_concat]
              rfl
        · rw [decide_eq_false c1]
          exact iteF (no fun z => c1 (by omega))
      · rw [decide_eq_false c0]
        exact iteF ⟨_, rfl, iteF (no fun z => c0 z.1)⟩
    · rintro σ J ⟨due, o8, o9, rfl, kJ6, way⟩
      have kHJ : Kp (bF bx bi) H J := kH.trans kJ6 fun _ z => z.elim
      refine ⟨kHJ.tabs hT, fun G2 eJ hT2 => ?_⟩
      have kt2 : Kt (bF bx bi) H G2 := kHJ.t.trans (Kt.ext (F := No) eJ) fun b z => z.elim
      have S2 := Sd.kt kt2 dS
      have B2' : BoxAt G2 bx bi := (B6.kt kJ6.t fun b z => z.elim).kt (Kt.ext (F := No) eJ) fun b z => z.elim
      obtain ⟨dx, tp, st, g1, _⟩ := S2.disk.ex
      refine ⟨_, rfl, p, dx, _, rfl, g1, rfl, _, rfl, p, ls, lu, m, n, rfl, S2.disk, Sd.good, fun I kI => ⟨fun nf => ?_, fun c0 c1 er => ?_, fun c0 c1 er => ?_⟩⟩
      · refine ⟨A.bad, 8, rfl, rfl, R.bad, R.badS, fun y I2 hy k3 => ?_⟩
        cases hy
        have kI2 : Kp No G2 I2 := kI.trans k3 fun _ z => .inl z
        rcases way with ⟨_, rfl⟩ | ⟨a0, a1, _⟩ | ⟨a0, a1, _⟩
        · exact ⟨_, rfl, _, _, rfl, Al.leaf leafBB, k I2 (B2'.kt kI2.t fun b z => z.elim) (kt2.trans kI2.t fun b z => z.elim) (kI2.tabs hT2)⟩
        · exact absurd ⟨a0, a1⟩ nf
        · exact absurd ⟨a0, a1⟩ nf
      · refine ⟨A.stopped, 11, rfl, rfl, R.stopped, R.stoppedS, fun y I2 hy k3 => ?_⟩
        cases hy
        have kI2 : Kp No G2 I2 := kI.trans k3 fun _ z => .inl z
        rcases way with ⟨nf, _⟩ | ⟨_, _, _, rfl⟩ | ⟨_, _, e, _⟩
        · exact absurd ⟨c0, c1⟩ nf
        · exact ⟨_, rfl, _, _, rfl, Al.leaf leafST, k I2 (B2'.kt kI2.t fun b z => z.elim) (kt2.trans kI2.t fun b z => z.elim) (kI2.tabs hT2)⟩
        · rw [er] at e
          cases e
      · rcases way with ⟨nf, _⟩ | ⟨_, _, e, _⟩ | ⟨_, _, _, rfl⟩
        · exact absurd ⟨c0, c1⟩ nf
        · rw [er] at e
          cases e
        · obtain ⟨a, z, dv, hz⟩ := datL_get (H := I) Sd.good c0 c1 (fun v hv => (S2.dat v hv).kt kI.t) fun q hq => (S2.pdat q hq).kt kI.t
          exact ⟨_, rfl, _, _, rfl, (dv.up).al (by omega), k I (B2'.kt kI.t fun b z => z.elim) (kt2.trans kI.t fun b z => z.elim) (kI.tabs hT2)⟩
end
end K5

set_option Elab.async false
set_option linter.all false
set_option maxRecDepth 100000
set_option maxHeartbeats 4000000
namespace K5
open PySem PySem.Spec PyProof.Rows L2 LamX
/-! ### 10. The law: two disks -/
theorem SideE.mono {A : Ad} {H : Hp} {p d : Addr} {S : Addr → Prop} {t t' : Nat} (s : SideE A H p d S t) (h : t ≤ t') : SideE A H p d S t' := by
  obtain ⟨ls, lu, l1, l2, l3, m, o, x, e, l⟩ := s
  exact ⟨ls, lu, l1, l2, l3, m, o, x, e, Nat.le_trans l h⟩
theorem BoxAt.there {H : Hp} {bx bi : Addr} (B : BoxAt H bx bi) {b : Addr} (h : bF bx bi b) : ∃ u, H b = some u ∧ Mu u := by
  obtain ⟨ns, st, h1, h2, _⟩ := B.ex
  rcases h with rfl | rfl
  · exact ⟨_, h1, trivial⟩
  · exact ⟨_, h2, trivial⟩
theorem notFresh {H : Hp} {b : Addr} (h : ∃ u, H b = some u ∧ Mu u) : ¬ Fresh H b := fun f => by
  obtain ⟨u, e, m⟩ := h
  exact f u e m
/-- two sides, apart, and what else the law holds -/
structure Two (A : Ad) (tb : Tbs) (G : Hp) (bx bi ls t0 t1 p0 d0 p1 d1 : Addr) (xs : List V) (t : Nat) (S0 S1 : Addr → Prop) : Prop where
  box : BoxAt G bx bi
  l : G ls = some (.lst xs)
  h0 : G t0 = some (.tup [.ref p0, .ref d0])
  h1 : G t1 = some (.tup [.ref p1, .ref d1])
  s0 : SideE A G p0 d0 S0 t
  s1 : SideE A G p1 d1 S1 t
  b0 : ∀ b, bF bx bi b → ¬ S0 b
  b1 : ∀ b, bF bx bi b → ¬ S1 b
  s01 : ∀ b, S0 b → ¬ S1 b
  bl : ¬ bF bx bi ls
  sl0 : ¬ S0 ls
  sl1 : ¬ S1 ls
  tabs : Tabs tb.list G
section
variable {A : Ad} {tb : Tbs} {G G' : Hp} {bx bi ls t0 t1 p0 d0 p1 d1 : Addr} {xs : List V} {t : Nat} {S0 S1 : Addr → Prop}
theorem Two.swap (T : Two A tb G bx bi ls t0 t1 p0 d0 p1 d1 xs t S0 S1) : Two A tb G bx bi ls t1 t0 p1 d1 p0 d0 xs t S1 S0 :=
  ⟨T.box, T.l, T.h1, T.h0, T.s1, T.s0, T.b1, T.b0, fun b h1 h0 => T.s01 b h0 h1, T.bl, T.sl1, T.sl0, T.tabs⟩
theorem Two.keep (T : Two A tb G bx bi ls t0 t1 p0 d0 p1 d1 xs t S0 S1) (B : BoxAt G' bx bi) (k : Kt (bF bx bi) G G') (hT : Tabs tb.list G') : Two A tb G' bx bi ls t0 t1 p0 d0 p1 d1 xs t S0 S1 :=
  ⟨B, k.lst T.l T.bl, k.tup T.h0, k.tup T.h1, T.s0.kt k T.b0, T.s1.kt k T.b1, T.b0, T.b1, T.s01, T.bl, T.sl0, T.sl1, hT⟩
theorem Two.turn (T : Two A tb G bx bi ls t0 t1 p0 d0 p1 d1 xs t S0 S1) (u : TurnedL A bx bi p0 d0 S0 (t + 1) tb G G') : ∃ S0', Two A tb G' bx bi ls t0 t1 p0 d0 p1 d1 xs (t + 1) S0' S1 := by
  obtain ⟨B, ⟨S', s', hS⟩, k, hT⟩ := u
  have old : ∀ {b : Addr}, (∃ u, G b = some u ∧ Mu u) → S' b → S0 b := fun th h => (hS _ h).elim id fun f => absurd f (notFresh th)
  refine ⟨S', B, k.lst T.l fun z => z.elim T.bl T.sl0, k.tup T.h0, k.tup T.h1, s', (T.s1.mono (Nat.le_succ t)).kt k fun b z => z.elim (T.b1 b) (T.s01 b), fun b z y => T.b0 b z (old (T.box.there z) y), T.b1, fun b z y => T.s01 b (old (T.s1.there y) z) y, T.bl, fun z => T.sl0 (old ⟨_, T.l, trivial⟩ z), T.sl1, hT⟩
/-- the one that a turn is of -/
theorem Two.pick (T : Two A tb G bx bi ls t0 t1 p0 d0 p1 d1 [.ref t0, .ref t1] t S0 S1) {j : Int} (j0 : 0 ≤ j) (j1 : j < 2) : ∃ tt p d S, atI ([.ref t0, .ref t1] : List V) j = some (.ref tt) ∧ G tt = some (.tup [.ref p, .ref d]) ∧ SideE A G p d S t ∧ (∀ b, bF bx bi b → ¬ S b) ∧
    ∀ G2, BoxAt G2 bx bi → Kt (bF bx bi) G G2 → Tabs tb.list G2 → ∀ G', TurnedL A bx bi p d S (t + 1) tb G2 G' → ∃ S0' S1', Two A tb G' bx bi ls t0 t1 p0 d0 p1 d1 [.ref t0, .ref t1] (t + 1) S0' S1' := by
  rcases (show j = 0 ∨ j = 1 by omega) with rfl | rfl
  · refine ⟨t0, p0, d0, S0, rfl, T.h0, T.s0, T.b0, fun G2 B k hT G' u => ?_⟩
    obtain ⟨S', q⟩ := (T.keep B k hT).turn u
    exact ⟨S', S1, q⟩
  · refine ⟨t1, p1, d1, S1, rfl, T.h1, T.s1, T.b1, fun G2 B k hT G' u => ?_⟩
    obtain ⟨S', q⟩ := (T.keep B k hT).swap.turn u
    exact ⟨S0, S', q.swap⟩
end
theorem Turned.l {A : Ad} {tb : Tbs} {bx bi p d : Addr} {S : Addr → Prop} {t : Nat} {H G : Hp} (u : Turned A bx bi p d S t H G) (hT : Tabs tb.list H) : TurnedL A bx bi p d S (t + 1) tb H G := by
  obtain ⟨B, ⟨S', s, h⟩, k⟩ := u
  exact ⟨B, ⟨S', s.mono (Nat.le_succ t), fun b z => (h b z).imp id Fresh.of⟩, k.t, k.tabs hT⟩
theorem datL_non {H : Hp} : DatL H .non := ⟨1, 1, .inl ⟨rfl, rfl, rfl⟩, by decide⟩
theorem good_new : Good M.new := ⟨rfl, (fun q h => by cases h), Nat.zero_le _, (fun z => by cases z), fun l h => by cases h⟩
/-- a disk and the law's telling of it, both new -/
theorem newSide {A : Ad} {H H1 H2 : Hp} {p d ls lu l1 l2 l3 : Addr} {t : Nat} (D : DiskAt A H1 p ls lu M.new) (np : H p = none) (ns : H ls = none) (nu : H lu = none) (k1 : Kp No H H1) (O : OwnAt H2 d l1 l2 l3 M.new) (nd : H1 d = none) (n1 : H1 l1 = none) (n2 : H1 l2 = none) (n3 : H1 l3 = none) (k2 : Kp No H1 H2)
    (hn : [l1, l2, l3].Nodup) : SideE A H2 p d (sF p d ls lu l1 l2 l3) t ∧ ∀ b, sF p d ls lu l1 l2 l3 b → H b = none := by
  have no : ∀ {a b : Addr}, (∃ u, H1 a = some u ∧ Mu u) → H1 b = none → a ≠ b := fun {a b} ⟨u, e, _⟩ h z => by
    rw [z, h] at e
    cases e
  have hs := D.there (.inr (.inl rfl))
  have hu := D.there (.inr (.inr rfl))
  have h12 : l1 ≠ l2 := fun z => by rw [z] at hn; simp at hn
  have h13 : l1 ≠ l3 := fun z => by rw [z] at hn; simp at hn
  have h23 : l2 ≠ l3 := fun z => by rw [z] at hn; simp at hn
  have fr : ∀ {b : Addr}, H1 b = none → H b = none := fun h => k1.free h fun z => z.elim
  refine ⟨⟨ls, lu, l1, l2, l3, M.new, M.new, ⟨D.kt k2.t fun b z => z.elim, O, ⟨rfl, rfl, rfl, fun _ => ⟨rfl, rfl⟩⟩, ⟨D.ne, no hs n1, no hs n2, no hs n3, no hu n1, no hu n2, no hu n3, h12, h13, h23⟩, good_new, good_new, Nat.zero_le _, fun v h => ?_, (fun q h => by cases h)⟩, fun b => Iff.rfl, Nat.zero_le _⟩, fun b z => ?_⟩
  · have : v = .non := List.eq_of_mem_replicate (n := 35) h
    rw [this]
    exact datL_non
  · rcases z with (rfl | rfl | rfl) | (rfl | rfl | rfl | rfl)
    · exact np
    · exact ns
    · exact nu
    · exact fr nd
    · exact fr n1
    · exact fr n2
    · exact fr n3
theorem if_due {k : Bool} {σ : L2.St} {H : Hp} {Q : VK} (h : ∀ v : V, (k = true → v = .non) → (k = false → v = .str "Stopped") → Q v H) : if k = true then tC .non σ H Q else tC (.str "Stopped") σ H Q := by
  cases k with
  | true => exact iteT (h _ (fun _ => rfl) fun z => by cases z)
  | false => exact iteF (h _ (fun z => by cases z) fun _ => rfl)
theorem Good.settle {m : M} (g : Good m) : Good m.settle := ⟨by show (putAll _ _).length = 35; rw [putAll_len, g.len], (fun q h => by cases h), Nat.zero_le _, (fun _ => rfl), g.nat⟩
theorem Sim.settle {m o : M} (s : Sim m o) : Sim m.settle o.settle := ⟨by show putAll _ _ = putAll _ _; rw [s.sure, s.pend], rfl, s.run, s.arm⟩
/-- the disk's class, made by its name -/
structure MkA (K : PySem.W.Frag) (mg : Str → Option Value) (A : Ad) : Prop where
  makes : Mk K A.disk (A.dm 0)
  at_ : mg "Disk" = some (.ref A.disk)
section
variable {P : Program} {w : World} {K : PySem.W.Frag} {mg : Str → Option Value} {A : Ad} {L XC : Nat → Addr} {SE : Addr} {tb : Tbs}
abbrev NscLaw : List Str := ["_law_script", "_law_box", "_law_sides", "_law_turn", "_law_own", "_law_way", "_law_good", "_law_due", "_law_block", "_law_what_here", "_law_disk"]
theorem scLaw : FnScope NscLaw ["_law_script"] (defScope sLaw) := ⟨rfl, rfl, rfl, by decide +kernel, rfl, by decide +kernel, by decide +kernel⟩
def spLaw (K : PySem.W.Frag) (tb : Tbs) : Sp := fun vs H Q _ => ∃ (a : Addr) (ns : List Int), vs = [.ref a] ∧ SqL K H a (ns.map V.int) ∧ ns.length ≤ 63 ∧ Tabs tb.list H ∧ ∀ G, Q (.bl true) G
theorem law_body {base : Heap} (T : Lc K mg A L XC SE) (R : Rs K A XC SE) (O : TbOk K mg L tb) (MD : MkA K mg A) (TB : TbB base mg tb) {Ar : Around} {outer : List Env} {s : Shared} {H : Hp} {vs : List V} {Q : VK} {E : XK}
    (hr : Room 8 (Ar.deeper (envOfC "law" (defScope sLaw) s.heap.objs.size (L 37) (.ref tb.cL)))) (h : spLaw K tb vs H Q E) : ∃ t, PSs (cxOf CX0 P w K mg base NscLaw "law" (defScope sLaw) (L 37) (.ref tb.cL) Ar outer s H E).nox (defBody sLaw) t ∧ t { nx := fun _ G => Q .non G, rt := Q } (L2.start NscLaw vs) H := by
  obtain ⟨fdB, Gbegun, bbegun⟩ := ok_begun (P := P) (w := w) (base := base) T.toLw
  obtain ⟨fdM, Gmade, bmade⟩ := ok_made (P := P) (w := w) (base := base) T.toLw
  obtain ⟨fdT, Gtake, btake⟩ := ok_take (P := P) (w := w) (base := base) T.toLw
  obtain ⟨fdC, Gcount, bcount⟩ := ok_count (P := P) (w := w) (base := base) T.toLw
  obtain ⟨fdR, Garms, barms⟩ := ok_arms (P := P) (w := w) (base := base) T.toLw
  obtain ⟨fdA, balike, GA⟩ := ok_alike (P := P) (w := w) (base := base) T.toLw
  have Galike := GA 1
  obtain ⟨fdW, Gwrite, bwrite⟩ := ok_write (P := P) (w := w) T R O TB
  obtain ⟨fdI, Gis, bis⟩ := ok_is (P := P) (w := w) T R O TB
  obtain ⟨fd0, G0, b0⟩ := ok_dk0 (P := P) (w := w) (base := base) T.toTxt
  obtain ⟨fd2, G2, b2⟩ := ok_dk2 (P := P) (w := w) (base := base) T.toTxt
  obtain ⟨a, ns, rfl, hS, hns, hT, k⟩ := h
  have hu := hu_of hr
  refine ⟨_, (pss_cons (ps_set (i := 1) scLaw.nd rfl (Or.inl rfl) (pe_call Gbegun (hr.mono (by first | decide | omega)) rfl T.begun.at_ T.begun.kp bbegun .nil pass0 (pa_cons (pv 0) pa_nil)))
      (pss_cons (ps_set (i := 2) scLaw.nd rfl (Or.inl rfl) (pe_lst (pa_cons (pe_tup (pa_cons (pe_make0 (E := E0) MD.makes G0 (hr.mono (by decide)) rfl MD.at_ b0 .nil pass0) (pa_cons (pe_call0 Gmade (hr.mono (by first | decide | omega)) rfl T.made.at_ T.made.kp bmade .nil pass0) pa_nil))) (pa_cons (pe_tup (pa_cons (pe_make0 (E := E0) MD.makes G0 (hr.mono (by decide)) rfl MD.at_ b0 .nil pass0) (pa_cons (pe_call0 Gmade (hr.mono (by first | decide | omega)) rfl T.made.at_ T.made.kp bmade .nil pass0) pa_nil))) pa_nil))))
      (pss_cons (ps_for PassesOwn.never rfl (pi_range1 (by rfl) T.range (pa_cons (pe_call Gtake (hr.mono (by first | decide | omega)) rfl T.take.at_ T.take.kp btake .nil pass0 (pa_cons (pv 1) (pa_cons pe_int pa_nil))) pa_nil)) (pg_name (i := 3) scLaw.nd rfl (Or.inl rfl))
        (pss_cons (ps_asg (pe_ix ix_list (pv 2) (pe_op op_fdiv (pe_call Gtake (hr.mono (by first | decide | omega)) rfl T.take.at_ T.take.kp btake .nil pass0 (pa_cons (pv 1) (pa_cons pe_int pa_nil))) pe_int) (fun _ _ => rfl)) (pg_tup rfl (pgs_cons (pg_name (i := 10) scLaw.nd rfl (Or.inr rfl)) (pgs_cons (pg_name (i := 4) scLaw.nd rfl (Or.inl rfl)) pgs_nil))))
        (pss_cons (ps_set (i := 5) scLaw.nd rfl (Or.inl rfl) (pe_call Gtake (hr.mono (by first | decide | omega)) rfl T.take.at_ T.take.kp btake .nil pass0 (pa_cons (pv 1) (pa_cons pe_int pa_nil))))
        (C8.pss_cut (ps_if (pt_cmpR op_lt (pv 5) pe_int (nomark _))
          (pss_one (ps_set (i := 6) scLaw.nd rfl (Or.inl rfl) (pe_call Gwrite hr rfl O.write.at_ O.write.kp bwrite .nil pass0 (pa_cons (pv 1) (pa_cons (pv 10) (pa_cons (pv 4) pa_nil))))))
          (pss_one (ps_if (pt_cmpR op_lt (pv 5) pe_int (nomark _))
            (pss_cons (ps_set (i := 7) scLaw.nd rfl (Or.inl rfl) (pe_ifExp (pt_val (pe_call Gcount (hr.mono (by first | decide | omega)) rfl T.count.at_ T.count.kp bcount .nil pass0 (pa_cons (pv 4) pa_nil))) pe_non pe_str))
            (C8.pss_cut (ps_if (pt_cmp (pc_isN (pv 7)))
              (pss_cons (ps_for PassesOwn.never rfl (pi_list (pe_dget hu (pv 4) pe_str (fun _ _ => rfl))) (pg_tup rfl (pgs_cons (pg_name (i := 8) scLaw.nd rfl (Or.inl rfl)) (pgs_cons (pg_name (i := 9) scLaw.nd rfl (Or.inl rfl)) pgs_nil)))
                (pss_one (ps_asg (pv 9) (pg_sub (pe_dget hu (pv 4) pe_str (fun _ _ => rfl)) (pv 8) set_list))))
              (pss_one (ps_dput hu (pv 4) pe_str (pe_lst pa_nil) rfl)))
              pss_nil)
            (pss_one (ps_set (i := 6) scLaw.nd rfl (Or.inl rfl) (pe_call Galike (hr.mono (by first | decide | omega)) rfl T.alike.at_ T.alike.kp balike .nil pass0 (pa_cons (lam_tell (Tb := tb.list) T rfl TB.l rfl (by exact List.mem_cons_of_mem _ (List.mem_cons_of_mem _ List.mem_cons_self)) (by exact Tbs.uL O) (hr.mono (by decide)) (lamS_by (by show lamSB (defScope sLaw) _ = true; decide +kernel)) rfl (fun _ _ _ _ _ => rfl) (fun Ar outer s H E f c' hr => pe_meth0 (E := E) (pv 10) T.cl T.m2.me G2 hr b2 .nil (L2N.passes_call (L2N.takes_of rfl rfl rfl rfl) fun _ _ _ _ h => h))) (pa_cons (pv 7) pa_nil)))))))
            (pss_one (ps_set (i := 6) scLaw.nd rfl (Or.inl rfl) (pe_call Garms (hr.mono (by first | decide | omega)) rfl T.arms.at_ T.arms.kp barms .nil pass0 (pa_cons (pv 1) (pa_cons (pv 10) (pa_cons (pv 4) pa_nil)))))))))
        (pss_one (ps_if (PW.pt (pw_or (pt_not (pt_val (pv 6))) (pw_or (pt_not (pt_val (pe_call Gis hr rfl O.is_.at_ O.is_.kp bis .nil pass0 (pa_cons (pv 1) (pa_cons (pe_ix ix_tup (pe_ix ix_list (pv 2) pe_int (fun _ _ => rfl)) pe_int (fun _ _ => rfl)) (pa_cons (pe_ix ix_tup (pe_ix ix_list (pv 2) pe_int (fun _ _ => rfl)) pe_int (fun _ _ => rfl)) pa_nil)))))) (pw_or1 (pt_not (pt_val (pe_call Gis hr rfl O.is_.at_ O.is_.kp bis .nil pass0 (pa_cons (pv 1) (pa_cons (pe_ix ix_tup (pe_ix ix_list (pv 2) pe_int (fun _ _ => rfl)) pe_int (fun _ _ => rfl)) (pa_cons (pe_ix ix_tup (pe_ix ix_list (pv 2) pe_int (fun _ _ => rfl)) pe_int (fun _ _ => rfl)) pa_nil))))))))))
          (pss_one (ps_ret pe_bl))
          pss_nil))))))
      (pss_one (ps_ret pe_bl))))), ?_⟩
  refine ⟨_, rfl, a, ns, rfl, hS, hns, fun G0 bx bi nbx nbi B0 k0 => ?_⟩
  -- the first disk
  refine fun p0 dx0 np0 ndx0 dn0 => ⟨p0, dx0, rfl, upd_same, fun H1 la0 lu0 nla0 nlu0 D0 kd0 => ⟨rfl, ?_⟩⟩
  refine ⟨rfl, fun H2 d0 a1 a2 a3 nd0 na1 na2 na3 hna O0 ko0 => ⟨sz 2 (by decide), fun t0 nt0 => ?_⟩⟩
  have hp0 : upd G0 dx0 (.own p0) p0 = none := by rw [upd_ne dn0.symm]; exact np0
  have kA : Kp No G0 H1 := ((Kp.new (F := No) ndx0).andN hp0).trans kd0 fun b z => .inr (by rw [show b = p0 from z]; exact np0)
  obtain ⟨s0, f0⟩ := newSide (t := 0) D0 np0 (upd_none (upd_none nla0).2).2 (upd_none (upd_none nlu0).2).2 kA O0 nd0 na1 na2 na3 ko0 hna
  have kB : Kp No G0 (upd H2 t0 (.tup [.ref p0, .ref d0])) := (kA.trans ko0 fun _ z => .inl z).andN nt0
  have BB : BoxAt (upd H2 t0 (.tup [.ref p0, .ref d0])) bx bi := B0.kt kB.t fun b z => z.elim
  have sB : SideE A (upd H2 t0 (.tup [.ref p0, .ref d0])) p0 d0 (sF p0 d0 la0 lu0 a1 a2 a3) 0 := s0.kt (Kp.new (F := No) nt0).t fun b z => z.elim
  -- the second one
  refine fun p1 dx1 np1 ndx1 dn1 => ⟨p1, dx1, rfl, upd_same, fun H4 la1 lu1 nla1 nlu1 D1 kd1 => ⟨rfl, ?_⟩⟩
  refine ⟨rfl, fun H5 d1 c1 c2 c3 nd1 nc1 nc2 nc3 hnc O1 ko1 => ⟨sz 2 (by decide), fun t1 nt1 => ⟨sz 2 (by decide), fun ls nls => ?_⟩⟩⟩
  have hp1 : upd (upd H2 t0 (.tup [.ref p0, .ref d0])) dx1 (.own p1) p1 = none := by rw [upd_ne dn1.symm]; exact np1
  have kC : Kp No (upd H2 t0 (.tup [.ref p0, .ref d0])) H4 := ((Kp.new (F := No) ndx1).andN hp1).trans kd1 fun b z => .inr (by rw [show b = p1 from z]; exact np1)
  obtain ⟨s1, f1⟩ := newSide (t := 0) D1 np1 (upd_none (upd_none nla1).2).2 (upd_none (upd_none nlu1).2).2 kC O1 nd1 nc1 nc2 nc3 ko1 hnc
  have kD : Kp No (upd H2 t0 (.tup [.ref p0, .ref d0])) H5 := kC.trans ko1 fun _ z => .inl z
  have kE : Kp No H5 (upd H5 t1 (.tup [.ref p1, .ref d1])) := Kp.new nt1
  have kF : Kp No (upd H5 t1 (.tup [.ref p1, .ref d1])) (upd (upd H5 t1 (.tup [.ref p1, .ref d1])) ls (.lst [.ref t0, .ref t1])) := Kp.new nls
  have kDE : Kp No (upd H2 t0 (.tup [.ref p0, .ref d0])) (upd H5 t1 (.tup [.ref p1, .ref d1])) := kD.trans kE fun _ z => .inl z
  have W0 : Two A tb (upd (upd H5 t1 (.tup [.ref p1, .ref d1])) ls (.lst [.ref t0, .ref t1])) bx bi ls t0 t1 p0 d0 p1 d1 [.ref t0, .ref t1] 0 (sF p0 d0 la0 lu0 a1 a2 a3) (sF p1 d1 la1 lu1 c1 c2 c3) := by
    have BE : BoxAt (upd H5 t1 (.tup [.ref p1, .ref d1])) bx bi := BB.kt kDE.t fun b z => z.elim
    have s0E := sB.kt kDE.t fun b z => z.elim
    have s1E := s1.kt kE.t fun b z => z.elim
    exact ⟨BE.kt kF.t fun b z => z.elim, upd_same, kF.t.tup (kDE.t.tup upd_same), kF.t.tup upd_same, s0E.kt kF.t fun b z => z.elim, s1E.kt kF.t fun b z => z.elim, fun b z y => B0.out (f0 b y) z, fun b z y => BB.out (f1 b y) z, fun b z y => sB.out (f1 b y) z, BE.out nls, s0E.out nls, s1E.out nls,
      kF.tabs (kDE.tabs (kB.tabs (k0.tabs hT)))⟩
  -- the turns
  refine ⟨_, rfl, bx, bi, 81, rfl, W0.box, by decide, by decide, fun c GS c0 c1 BS kS => ⟨c, rfl, by omega, by omega, for_range (lo := 0) (n := c.toNat) (fun i σ G => (∃ o3 o4 o5 o6 o7 o8 o9 o10, σ = [some (.ref a), some (.ref bx), some (.ref ls), o3, o4, o5, o6, o7, o8, o9, o10]) ∧ ∃ S0 S1, Two A tb G bx bi ls t0 t1 p0 d0 p1 d1 [.ref t0, .ref t1] i S0 S1)
    ⟨⟨_, _, _, _, _, _, _, _, rfl⟩, _, _, W0.keep BS kS.t (kS.tabs W0.tabs)⟩ ?_ fun σ G ⟨⟨o3, o4, o5, o6, o7, o8, o9, o10, e⟩, _⟩ => k G⟩⟩
  rintro i σ G hi ⟨⟨o3, o4, o5, o6, o7, o8, o9, o10, rfl⟩, S0, S1, W⟩
  refine ⟨_, rfl, _, rfl, bx, bi, 4, rfl, W.box, by decide, by decide, fun j G1 j0 j1 B1 k1 => ?_⟩
  have W1 := W.keep B1 k1.t (k1.tabs W.tabs)
  obtain ⟨tt, p, d, S, hat, htt, sd, hb, done⟩ := W1.pick (j := j / 3) (by omega) (by omega)
  refine ⟨_, _, rfl, rfl, ⟨by decide, by decide⟩, ls, _, j / 3, .ref tt, rfl, rfl, SqL.of W1.l, hat, ?_⟩
  refine ⟨tt, _, rfl, SqT.of htt, rfl, _, _, rfl, _, _, rfl, rfl, ?_⟩
  refine ⟨_, rfl, bx, bi, 10, rfl, B1, by decide, by decide, fun way G2 w0 w1 B2 k2 => ?_⟩
  have hT2 := k2.tabs W1.tabs
  have done2 := done G2 B2 k2.t hT2
  have s2 := sd.kt k2.t hb
  have hi80 : i ≤ 100 := by omega
  refine ⟨fun σ J => (∃ o3 o4 o5 o7 o8 o9 o10, σ = [some (.ref a), some (.ref bx), some (.ref ls), o3, o4, o5, some (.bl true), o7, o8, o9, o10]) ∧ ∃ S0 S1, Two A tb J bx bi ls t0 t1 p0 d0 p1 d1 [.ref t0, .ref t1] (i + 1) S0 S1, ?_, ?_⟩
  · refine ⟨_, rfl, _, _, rfl, rfl, _, rfl, ?_⟩
    refine ite2 (fun _ => ?_) (fun _ => ?_)
    · exact ⟨_, rfl, _, rfl, _, rfl, bx, bi, p, d, S, i, rfl, B2, s2, hi80, hb, hT2, fun G3 u => ⟨⟨_, _, _, _, _, _, _, rfl⟩, done2 G3 u⟩⟩
    · refine ⟨_, rfl, _, _, rfl, rfl, _, rfl, ?_⟩
      refine ite2 (fun _ => ?_) (fun _ => ?_)
      · obtain ⟨qs, qu, l1, l2, l3, m, o, Sd, eS, hfew⟩ := s2
        have five := Sd.five
        have hfo : o.pend.length ≤ i := by rw [← Sd.sim.pend]; exact hfew
        obtain ⟨sc1, sc2⟩ := Sd.sim.count
        refine ⟨_, rfl, d, l1, l2, l3, o, rfl, Sd.own, Sd.goodo, by omega, five.cd, five.ce.symm, Sd.few, fun I l2'' nl OI kI eI => ?_⟩
        refine ⟨_, rfl, if_due fun due hd1 hd2 => ?_⟩
        refine ⟨fun σ J => ∃ u8 u9 o' y, σ = [some (.ref a), some (.ref bx), some (.ref ls), some (.int (0 + (i : Int))), some (.ref d), some (.int way), o6, some due, u8, u9, some (.ref p)] ∧ (y = l2 ∨ G2 y = none) ∧ OwnAt J d l1 y l3 o' ∧ Kp (oF d l1 l2 l3) G2 J ∧
          ((o.count.1 = false ∧ due = .str "Stopped" ∧ o' = o.count.2) ∨ (o.count.1 = true ∧ due = .non ∧ o' = o.count.2.settle)), ?_, ?_⟩
        · refine ⟨_, rfl, _, rfl, ?_⟩
          cases ec : o.count.1 with
          | false =>
            have := hd2 ec
            subst this
            rw [decide_eq_false (show ¬ V.str "Stopped" = V.non from fun z => by cases z)]
            exact iteF ⟨_, _, _, l2'', rfl, nl, OI, kI, .inl ⟨rfl, rfl, rfl⟩⟩
          | true =>
            have := hd1 ec
            subst this
            have e2 := eI ec
            subst e2
            rw [decide_eq_true (rfl : V.non = V.non)]
            obtain ⟨rs, h3, h4⟩ := OI.pend
            have nd1 : d ≠ l1 := ne_of OI.dc OI.sure (by intro z; cases z)
            have Gg := Sd.goodo.count ec
            refine iteT ⟨_, rfl, d, _, rfl, dgO "pending" _ OI.dc rfl, l2'', rfl, ⟨_, SqL.of h3⟩, for_list (K := K) (a := l2'') (xs := rs) (fun n σ J => (∃ u8 u9, σ = [some (.ref a), some (.ref bx), some (.ref ls), some (.int (0 + (i : Int))), some (.ref d), some (.int way), o6, some .non, u8, u9, some (.ref p)]) ∧ Kp (fun b => b = l1) I J ∧ J l1 = some (.lst (putAll o.count.2.sure (o.count.2.pend.take n))))
              ⟨⟨_, _, rfl⟩, Kp.refl _ _, by rw [List.take_zero]; exact OI.sure⟩ (fun n σ J _ ⟨_, kj, _⟩ => SqL.of (kj.t.lst h3 five.cd.symm)) ?_ ?_⟩
            · rintro n x σ J hx ⟨⟨u8, u9, rfl⟩, kj, hls⟩
              obtain ⟨q, hq, tq, rfl, ht⟩ := Paired.at h4 hx
              refine ⟨tq, _, rfl, SqT.of (kj.t.tup ht), rfl, _, _, rfl, _, _, rfl, rfl, ?_⟩
              have hrq := Gg.blk q (List.mem_of_getElem? hq)
              have hl : (putAll o.count.2.sure (o.count.2.pend.take n)).length = 35 := by rw [putAll_len, Gg.len]
              refine ⟨_, rfl, _, rfl, d, _, rfl, dgO "settled" _ (kj.t.dK OI.dc nd1) rfl, _, rfl, l1, _, q.1, q.1.toNat, rfl, rfl, hls, ixN_in hrq.1 (by rw [hl]; omega), ⟨_, _, rfl⟩, kj.andL hls rfl, ?_⟩
              rw [upd_same, take_succ_of hq, putAll_app]
              rfl
            · rintro σ J ⟨⟨u8, u9, rfl⟩, kj, hls⟩
              rw [List.take_of_length_le (Nat.le_of_eq (Paired.length h4).symm)] at hls
              have gd := kj.t.dK OI.dc nd1
              refine ⟨Nat.zero_le _, fun y ny => ?_⟩
              have ndy : d ≠ y := ne_of_none gd ny
              have nyI : I y = none := kj.free ny fun z => by rw [z, hls] at ny; cases ny
              have nyG : G2 y = none := kI.free nyI fun z => by
                obtain ⟨u, eu, _⟩ := OI.there z
                rw [nyI] at eu
                cases eu
              have n3d : l3 ≠ d := ne_of OI.picks OI.dc (by intro z; cases z)
              refine ⟨_, rfl, d, _, rfl, DPut.k (k := (.inr "pending" : Key)) (by rw [upd_ne ndy]; exact gd) (Nat.lt_of_lt_of_le (show 5 < 100 by decide) (sz _ (by decide))), ?_⟩
              refine ⟨_, _, o.count.2.settle, y, rfl, .inr nyG, ⟨upd_same, ?_, ⟨[], ?_, .nil⟩, ?_⟩, (((kI.trans (kj.sub (F' := oF d l1 l2'' l3) fun b z => .inr (.inl z)) fun _ z => .inl z).andN ny).andD (by rw [upd_ne ndy]; exact gd) (.inl rfl)), .inr ⟨rfl, rfl, rfl⟩⟩
              · rw [upd_ne nd1.symm, upd_ne (ne_of_none hls ny)]
                exact hls
              · rw [upd_ne ndy.symm, upd_same]
              · have g3 := kj.t.lst OI.picks five.ce.symm
                rw [upd_ne n3d, upd_ne (ne_of_none g3 ny)]
                exact g3
        · rintro σ J ⟨u8, u9, o', y, rfl, ny, OJ, kJ, ways⟩
          refine ⟨kJ.tabs hT2, fun G3 eJ hT3 => ?_⟩
          have kt2 : Kt (oF d l1 l2 l3) G2 G3 := kJ.t.trans (Kt.ext (F := No) eJ) fun b z => z.elim
          have D2 : DiskAt A G3 p qs qu m := Sd.disk.kt kt2 fun b oz dz => sep Sd.disk Sd.own five dz oz
          obtain ⟨dx, tp, st, g1, _⟩ := D2.ex
          have te : ∀ {I I2 : Hp} {lu' : Addr} {m' : M}, Kp (dF p qs qu) G3 I → Kp No I I2 → (lu' = qu ∨ G3 lu' = none) → DiskAt A I p qs lu' m' → Sim m' o' → Good m' → Good o' → o'.picks.length ≤ 1000 → (∀ v ∈ m'.sure, DatL G2 v) → (∀ q ∈ m'.pend, DatL G2 q.2) → m'.pend.length ≤ i + 1 → TurnedL A bx bi p d S (i + 1) tb G2 I2 :=
            fun k2 k3 nlu DI sim gm go few dat pdat hl => turn_end (Kp.refl _ G2) B2 Sd eS hb kJ eJ hT3 k2 k3 ny OJ nlu DI sim gm go few dat pdat hl
          refine ⟨_, rfl, p, dx, _, rfl, g1, rfl, p, qs, qu, m, rfl, D2, Sd.good, fun I2 lu' nlu kI2 => ⟨fun c DI => ?_, fun c DI => ?_⟩⟩
          · have hoc : o.count.1 = true := sc1 ▸ c
            rcases ways with ⟨e, _⟩ | ⟨_, rfl, rfl⟩
            · rw [hoc] at e
              cases e
            · obtain ⟨d1', d2', d3', _, d5'⟩ := count_true hoc
              refine ⟨_, rfl, _, _, rfl, Al.leaf rfl, ⟨_, _, _, _, _, _, _, rfl⟩, done2 I2 (te (m' := m.count.2.settle) kI2 (Kp.refl _ _) nlu DI sc2.settle (Sd.good.count c).settle (Sd.goodo.count hoc).settle ?_ ?_ (fun q h => by cases h) (Nat.zero_le _))⟩
              · show o.count.2.picks.length ≤ 1000
                rw [d5']
                exact Sd.few
              · intro v hv
                have cd := count_dat Sd.dat Sd.pdat
                rcases mem_putAll hv with h | ⟨q, hq, rfl⟩
                · exact cd.1 v h
                · exact cd.2 q hq
          · have hoc : o.count.1 = false := sc1 ▸ c
            refine ⟨A.stopped, 11, rfl, rfl, R.stopped, R.stoppedS, fun x I3 hx k3 => ?_⟩
            cases hx
            rcases ways with ⟨_, rfl, rfl⟩ | ⟨e, _⟩
            · refine ⟨_, rfl, _, _, rfl, Al.leaf leafST, ⟨_, _, _, _, _, _, _, rfl⟩, done2 I3 (te kI2 k3 nlu DI sc2 Sd.good.countF Sd.goodo.countF ?_ (count_dat Sd.dat Sd.pdat).1 (count_dat Sd.dat Sd.pdat).2 (Nat.le_trans count_few (by omega)))⟩
              rw [count_picks]
              exact Sd.few
            · rw [hoc] at e
              cases e
      · exact ⟨_, rfl, _, rfl, _, rfl, bx, bi, p, d, S, i, rfl, B2, s2, hi80, hb, fun G3 u => ⟨⟨_, _, _, _, _, _, _, rfl⟩, done2 G3 (u.l hT2)⟩⟩
  · rintro σ J ⟨⟨q3, q4, q5, q7, q8, q9, q10, rfl⟩, T0, T1, V⟩
    refine ⟨_, rfl, _, rfl, iteF ?_⟩
    refine ⟨_, rfl, _, rfl, ls, _, 0, .ref t0, rfl, rfl, SqL.of V.l, rfl, t0, _, 0, .ref p0, rfl, rfl, SqT.of V.h0, rfl, _, rfl, ls, _, 0, .ref t0, rfl, rfl, SqL.of V.l, rfl, t0, _, 1, .ref d0, rfl, rfl, SqT.of V.h0, rfl, ?_⟩
    refine ⟨bx, bi, p0, d0, T0, i + 1, rfl, V.box, V.s0, by omega, V.b0, V.tabs, fun G3 B3 k3 hT3 => ⟨_, rfl, iteF ?_⟩⟩
    have V3 := V.keep B3 k3 hT3
    refine ⟨_, rfl, _, rfl, ls, _, 1, .ref t1, rfl, rfl, SqL.of V3.l, rfl, t1, _, 0, .ref p1, rfl, rfl, SqT.of V3.h1, rfl, _, rfl, ls, _, 1, .ref t1, rfl, rfl, SqL.of V3.l, rfl, t1, _, 1, .ref d1, rfl, rfl, SqT.of V3.h1, rfl, ?_⟩
    refine ⟨bx, bi, p1, d1, T1, i + 1, rfl, V3.box, V3.s1, by omega, V3.b1, V3.tabs, fun G4 B4 k4 hT4 => ⟨_, rfl, iteF ?_⟩⟩
    exact ⟨⟨_, _, _, _, _, _, _, _, rfl⟩, T0, T1, V3.keep B4 k4 hT4⟩
end
end K5

set_option Elab.async false
set_option linter.all false
set_option maxRecDepth 100000
set_option maxHeartbeats 4000000
namespace K5
open PySem PySem.Spec PyProof.Rows L2 LamX
/-! ### 11. The end -/
theorem law_at {l : PySem.W.OpenLaw} {w : World} {K : PySem.W.Frag} {mg : Str → Option Value} {fa : Addr} {h : Heap} {A : Ad} {L XC : Nat → Addr} {SE : Addr} {tb : Tbs} (T : Lc K mg A L XC SE) (R : Rs K A XC SE) (O : TbOk K mg L tb) (MD : MkA K mg A) (hfa : mg "law" = some (.ref fa))
    (t1 : h.get? tb.pW = some { cls := .none, data := .fields #[] }) (t2 : h.get? tb.pI = some { cls := .none, data := .fields #[] }) (t3 : h.get? tb.pL = some { cls := .none, data := .fields #[] }) (n1 : K.lookup tb.pW = none) (n2 : K.lookup tb.pI = none) (n3 : K.lookup tb.pL = none)
    (h1 : PySem.W.CodeHd h tb.cW tb.pW) (h2 : PySem.W.CodeHd h tb.cI tb.pI) (h3 : PySem.W.CodeHd h tb.cL tb.pL) : LawAtS l w K CX0 9 63 "_law_script" mg fa h := by
  have e := hfa.symm.trans O.law.at_
  cases e
  obtain ⟨oc, od, kV, doc, pm, an, ct, osl, lk, hcd⟩ := O.law.ex
  have mem : ∀ {p : Addr × Addr} {Y : Addr × Addr → Prop}, Y (tb.cW, tb.pW) → Y (tb.cI, tb.pI) → Y (tb.cL, tb.pL) → p ∈ [(tb.cW, tb.pW), (tb.cI, tb.pI), (tb.cL, tb.pL)] → Y p := fun {p Y} a b c hp => by
    simp only [List.mem_cons, List.not_mem_nil, or_false] at hp
    rcases hp with rfl | rfl | rfl
    · exact a
    · exact b
    · exact c
  refine ⟨PySem.W.fnOf "law" "law" (defArgs sLaw) (defBody sLaw) (defScope sLaw) .none kV doc pm an (.ref tb.cL) ct, [(tb.cW, tb.pW), (tb.cI, tb.pI), (tb.cL, tb.pL)], spLaw K tb, fun p hp => mem (Y := fun p => h.get? p.2 = some { cls := .none, data := .fields #[] }) t1 t2 t3 hp, fun p hp => mem (Y := fun p => K.lookup p.2 = none) n1 n2 n3 hp, fun p hp => mem (Y := fun p => PySem.W.CodeHd h p.1 p.2) h1 h2 h3 hp, fun s u => .of_eq rfl, fun H a ns hl _ hT hS => ?_, fun base KX G hTB => ?_⟩
  · have tab : ∀ {c p : Addr} {q : Str}, (c, p) ∈ [(tb.cW, tb.pW), (tb.cI, tb.pI), (tb.cL, tb.pL)] → TabS H p q := fun hp => ⟨#[], hT _ hp, (by simp only [PySem.TriplesOk]), fun pos cv hc => by cases hc⟩
    refine ⟨a, ns, rfl, hS, hl, fun p hp => ?_, fun _ => rfl⟩
    simp only [Tbs.list, List.mem_cons, List.not_mem_nil, or_false] at hp
    rcases hp with rfl | rfl | rfl
    · exact tab (c := tb.cW) List.mem_cons_self
    · exact tab (c := tb.cI) (List.mem_cons_of_mem _ List.mem_cons_self)
    · exact tab (c := tb.cL) (List.mem_cons_of_mem _ (List.mem_cons_of_mem _ List.mem_cons_self))
  · have TB : TbB base mg tb := ⟨hTB _ List.mem_cons_self, hTB _ (List.mem_cons_of_mem _ List.mem_cons_self), hTB _ (List.mem_cons_of_mem _ (List.mem_cons_of_mem _ List.mem_cons_self))⟩
    refine fn_of lk hcd scLaw (fun vs H Q E hsp => ?_) fun Ar outer s H vs Q E hr hsp => ?_
    · obtain ⟨a, ns, rfl, _⟩ := hsp
      rfl
    · obtain ⟨t, ht, q⟩ := law_body (P := l.prog) (w := w) (E := E) T R O MD TB hr hsp
      exact ⟨t, ht.nox, q⟩
set_option maxHeartbeats 8000000 in
theorem all_mk {l : PySem.W.OpenLaw} {w : World} {K : PySem.W.Frag} {h : Heap} {mg : Str → Option Value} {fa : Addr} (X : K.In h) (G : h.Ns mainGlobals mg) (hfa : mg "law" = some (.ref fa)) {p_write p_is_ p_law : Addr}
    {f_within f_heavy f_check f_begun f_take f_alike f_cls f_nest f_what f_weight f_made f_fall f_count f_told co_write f_write f_arms co_is_ f_is_ co_law f_law C fm0 fm1 fm2 fm3 fm4 fm5 fm6 fm7 fm8 fm9 x0 x1 x2 x3 x4 x5 x6 x7 x8 x9 x10 x11 SE : Addr} {oc_within kV_within dc_within pm_within ct_within cd_within oc_heavy kV_heavy dc_heavy pm_heavy ct_heavy cd_heavy oc_check kV_check dc_check pm_check ct_check cd_check oc_begun kV_begun dc_begun pm_begun ct_begun cd_begun oc_take kV_take dc_take pm_take ct_take cd_take oc_alike kV_alike dc_alike pm_alike ct_alike cd_alike oc_cls kV_cls dc_cls pm_cls ct_cls cd_cls oc_nest kV_nest dc_nest pm_nest ct_nest cd_nest oc_what kV_what dc_what pm_what ct_what cd_what oc_weight kV_weight dc_weight pm_weight ct_weight cd_weight oc_made kV_made dc_made pm_made ct_made cd_made oc_fall kV_fall dc_fall pm_fall ct_fall cd_fall oc_count kV_count dc_count pm_count ct_count cd_count oc_told kV_told dc_told pm_told ct_told cd_told oc_write kV_write dc_write pm_write ct_write oc_arms kV_arms dc_arms pm_arms ct_arms cd_arms oc_is_ kV_is_ dc_is_ pm_is_ ct_is_ oc_law kV_law dc_law pm_law ct_law ocm0 kVm0 dcm0 pmm0 ctm0 cdm0 ocm1 kVm1 dcm1 pmm1 ctm1 cdm1 ocm2 kVm2 dcm2 pmm2 ctm2 cdm2 ocm3 kVm3 dcm3 pmm3 ctm3 cdm3 ocm4 kVm4 dcm4 pmm4 ctm4 cdm4 ocm5 kVm5 dcm5 pmm5 ctm5 cdm5 ocm6 kVm6 dcm6 pmm6 ctm6 cdm6 ocm7 kVm7 dcm7 pmm7 ctm7 cdm7 ocm8 kVm8 dcm8 pmm8 ctm8 cdm8 ocm9 kVm9 dcm9 pmm9 ctm9 cdm9 : Value} {od_within an_within od_heavy an_heavy od_check an_check od_begun an_begun od_take an_take od_alike an_alike od_cls an_cls od_nest an_nest od_what an_what od_weight an_weight od_made an_made od_fall an_fall od_count an_count od_told an_told od_write an_write od_arms an_arms od_is_ an_is_ od_law an_law odm0 anm0 odm1 anm1 odm2 anm2 odm3 anm3 odm4 anm4 odm5 anm5 odm6 anm6 odm7 anm7 odm8 anm8 odm9 anm9 : Option Addr} {sl_within sl_heavy sl_check sl_begun sl_take sl_alike sl_cls sl_nest sl_what sl_weight sl_made sl_fall sl_count sl_told sl_write sl_arms sl_is_ sl_law slm0 slm1 slm2 slm3 slm4 slm5 slm6 slm7 slm8 slm9 : Array (Option Value)} {tB tM : _}
    (a_within : PySem.W.nsIn K mainGlobals "within" = some (some (.ref f_within)))
    (l_within : K.lookup f_within = some ⟨oc_within, od_within, .func (PySem.W.fnOf "within" "within" (defArgs sWithin) (defBody sWithin) (defScope sWithin) .none kV_within dc_within pm_within an_within cd_within ct_within), sl_within⟩)
    (c_within : PySem.W.codeIn K cd_within "within" = true)
    (k_within : PySem.W.keepIn K (.ref f_within) = true)
    (a_heavy : PySem.W.nsIn K mainGlobals "is_too_heavy" = some (some (.ref f_heavy)))
    (l_heavy : K.lookup f_heavy = some ⟨oc_heavy, od_heavy, .func (PySem.W.fnOf "is_too_heavy" "is_too_heavy" (defArgs sHeavy) (defBody sHeavy) (defScope sHeavy) .none kV_heavy dc_heavy pm_heavy an_heavy cd_heavy ct_heavy), sl_heavy⟩)
    (c_heavy : PySem.W.codeIn K cd_heavy "is_too_heavy" = true)
    (k_heavy : PySem.W.keepIn K (.ref f_heavy) = true)
    (a_check : PySem.W.nsIn K mainGlobals "check_block" = some (some (.ref f_check)))
    (l_check : K.lookup f_check = some ⟨oc_check, od_check, .func (PySem.W.fnOf "check_block" "check_block" (defArgs sCheck) (defBody sCheck) (defScope sCheck) .none kV_check dc_check pm_check an_check cd_check ct_check), sl_check⟩)
    (c_check : PySem.W.codeIn K cd_check "check_block" = true)
    (k_check : PySem.W.keepIn K (.ref f_check) = true)
    (a_begun : PySem.W.nsIn K mainGlobals "_law_begun" = some (some (.ref f_begun)))
    (l_begun : K.lookup f_begun = some ⟨oc_begun, od_begun, .func (PySem.W.fnOf "_law_begun" "_law_begun" (defArgs sBegun) (defBody sBegun) (defScope sBegun) .none kV_begun dc_begun pm_begun an_begun cd_begun ct_begun), sl_begun⟩)
    (c_begun : PySem.W.codeIn K cd_begun "_law_begun" = true)
    (k_begun : PySem.W.keepIn K (.ref f_begun) = true)
    (a_take : PySem.W.nsIn K mainGlobals "_law_take" = some (some (.ref f_take)))
    (l_take : K.lookup f_take = some ⟨oc_take, od_take, .func (PySem.W.fnOf "_law_take" "_law_take" (defArgs sTake) (defBody sTake) (defScope sTake) .none kV_take dc_take pm_take an_take cd_take ct_take), sl_take⟩)
    (c_take : PySem.W.codeIn K cd_take "_law_take" = true)
    (k_take : PySem.W.keepIn K (.ref f_take) = true)
    (a_alike : PySem.W.nsIn K mainGlobals "_law_alike" = some (some (.ref f_alike)))
    (l_alike : K.lookup f_alike = some ⟨oc_alike, od_alike, .func (PySem.W.fnOf "_law_alike" "_law_alike" (defArgs sAlike) (defBody sAlike) (defScope sAlike) .none kV_alike dc_alike pm_alike an_alike cd_alike ct_alike), sl_alike⟩)
    (c_alike : PySem.W.codeIn K cd_alike "_law_alike" = true)
    (k_alike : PySem.W.keepIn K (.ref f_alike) = true)
    (a_cls : PySem.W.nsIn K mainGlobals "_law_class" = some (some (.ref f_cls)))
    (l_cls : K.lookup f_cls = some ⟨oc_cls, od_cls, .func (PySem.W.fnOf "_law_class" "_law_class" (defArgs sClass) (defBody sClass) (defScope sClass) .none kV_cls dc_cls pm_cls an_cls cd_cls ct_cls), sl_cls⟩)
    (c_cls : PySem.W.codeIn K cd_cls "_law_class" = true)
    (k_cls : PySem.W.keepIn K (.ref f_cls) = true)
    (a_nest : PySem.W.nsIn K mainGlobals "_law_nest" = some (some (.ref f_nest)))
    (l_nest : K.lookup f_nest = some ⟨oc_nest, od_nest, .func (PySem.W.fnOf "_law_nest" "_law_nest" (defArgs sNest) (defBody sNest) (defScope sNest) .none kV_nest dc_nest pm_nest an_nest cd_nest ct_nest), sl_nest⟩)
    (c_nest : PySem.W.codeIn K cd_nest "_law_nest" = true)
    (k_nest : PySem.W.keepIn K (.ref f_nest) = true)
    (a_what : PySem.W.nsIn K mainGlobals "_law_what" = some (some (.ref f_what)))
    (l_what : K.lookup f_what = some ⟨oc_what, od_what, .func (PySem.W.fnOf "_law_what" "_law_what" (defArgs sWhat) (defBody sWhat) (defScope sWhat) .none kV_what dc_what pm_what an_what cd_what ct_what), sl_what⟩)
    (c_what : PySem.W.codeIn K cd_what "_law_what" = true)
    (k_what : PySem.W.keepIn K (.ref f_what) = true)
    (a_weight : PySem.W.nsIn K mainGlobals "_law_weight" = some (some (.ref f_weight)))
    (l_weight : K.lookup f_weight = some ⟨oc_weight, od_weight, .func (PySem.W.fnOf "_law_weight" "_law_weight" (defArgs sWeight) (defBody sWeight) (defScope sWeight) .none kV_weight dc_weight pm_weight an_weight cd_weight ct_weight), sl_weight⟩)
    (c_weight : PySem.W.codeIn K cd_weight "_law_weight" = true)
    (k_weight : PySem.W.keepIn K (.ref f_weight) = true)
    (a_made : PySem.W.nsIn K mainGlobals "_law_made" = some (some (.ref f_made)))
    (l_made : K.lookup f_made = some ⟨oc_made, od_made, .func (PySem.W.fnOf "_law_made" "_law_made" (defArgs sMade) (defBody sMade) (defScope sMade) .none kV_made dc_made pm_made an_made cd_made ct_made), sl_made⟩)
    (c_made : PySem.W.codeIn K cd_made "_law_made" = true)
    (k_made : PySem.W.keepIn K (.ref f_made) = true)
    (a_fall : PySem.W.nsIn K mainGlobals "_law_fall" = some (some (.ref f_fall)))
    (l_fall : K.lookup f_fall = some ⟨oc_fall, od_fall, .func (PySem.W.fnOf "_law_fall" "_law_fall" (defArgs sFall) (defBody sFall) (defScope sFall) .none kV_fall dc_fall pm_fall an_fall cd_fall ct_fall), sl_fall⟩)
    (c_fall : PySem.W.codeIn K cd_fall "_law_fall" = true)
    (k_fall : PySem.W.keepIn K (.ref f_fall) = true)
    (a_count : PySem.W.nsIn K mainGlobals "_law_count" = some (some (.ref f_count)))
    (l_count : K.lookup f_count = some ⟨oc_count, od_count, .func (PySem.W.fnOf "_law_count" "_law_count" (defArgs sCount) (defBody sCount) (defScope sCount) .none kV_count dc_count pm_count an_count cd_count ct_count), sl_count⟩)
    (c_count : PySem.W.codeIn K cd_count "_law_count" = true)
    (k_count : PySem.W.keepIn K (.ref f_count) = true)
    (a_told : PySem.W.nsIn K mainGlobals "_law_told" = some (some (.ref f_told)))
    (l_told : K.lookup f_told = some ⟨oc_told, od_told, .func (PySem.W.fnOf "_law_told" "_law_told" (defArgs sTold) (defBody sTold) (defScope sTold) .none kV_told dc_told pm_told an_told cd_told ct_told), sl_told⟩)
    (c_told : PySem.W.codeIn K cd_told "_law_told" = true)
    (k_told : PySem.W.keepIn K (.ref f_told) = true)
    (a_write : PySem.W.nsIn K mainGlobals "_law_write" = some (some (.ref f_write)))
    (l_write : K.lookup f_write = some ⟨oc_write, od_write, .func (PySem.W.fnOf "_law_write" "_law_write" (defArgs sWrite) (defBody sWrite) (defScope sWrite) .none kV_write dc_write pm_write an_write (.ref co_write) ct_write), sl_write⟩)
    (c_write : PySem.W.codeIn K (.ref co_write) "_law_write" = true)
    (k_write : PySem.W.keepIn K (.ref f_write) = true)
    (a_arms : PySem.W.nsIn K mainGlobals "_law_arms" = some (some (.ref f_arms)))
    (l_arms : K.lookup f_arms = some ⟨oc_arms, od_arms, .func (PySem.W.fnOf "_law_arms" "_law_arms" (defArgs sArms) (defBody sArms) (defScope sArms) .none kV_arms dc_arms pm_arms an_arms cd_arms ct_arms), sl_arms⟩)
    (c_arms : PySem.W.codeIn K cd_arms "_law_arms" = true)
    (k_arms : PySem.W.keepIn K (.ref f_arms) = true)
    (a_is_ : PySem.W.nsIn K mainGlobals "_law_is" = some (some (.ref f_is_)))
    (l_is_ : K.lookup f_is_ = some ⟨oc_is_, od_is_, .func (PySem.W.fnOf "_law_is" "_law_is" (defArgs sIs) (defBody sIs) (defScope sIs) .none kV_is_ dc_is_ pm_is_ an_is_ (.ref co_is_) ct_is_), sl_is_⟩)
    (c_is_ : PySem.W.codeIn K (.ref co_is_) "_law_is" = true)
    (k_is_ : PySem.W.keepIn K (.ref f_is_) = true)
    (a_law : PySem.W.nsIn K mainGlobals "law" = some (some (.ref f_law)))
    (l_law : K.lookup f_law = some ⟨oc_law, od_law, .func (PySem.W.fnOf "law" "law" (defArgs sLaw) (defBody sLaw) (defScope sLaw) .none kV_law dc_law pm_law an_law (.ref co_law) ct_law), sl_law⟩)
    (c_law : PySem.W.codeIn K (.ref co_law) "law" = true)
    (k_law : PySem.W.keepIn K (.ref f_law) = true)
    (aC : PySem.W.nsIn K mainGlobals "Disk" = some (some (.ref C)))
    (pg : PySem.W.plainGet K C Str.empty = true)
    (hd : PySem.W.hasDictIn K C = true)
    (po : PySem.W.plainOver K C = true)
    (sa : PySem.W.findIn K (.ref C) "__setattr__" = some (some (.builtin "object.__setattr__")))
    (mk : PySem.W.makesIn K C = true)
    (kC : PySem.W.keepIn K (.ref C) = true)
    (n0 : PySem.W.findIn K (.ref C) "sure" = some none)
    (n1 : PySem.W.findIn K (.ref C) "unsure" = some none)
    (n2 : PySem.W.findIn K (.ref C) "deeds_left" = some none)
    (n3 : PySem.W.findIn K (.ref C) "armed_picks" = some none)
    (n4 : PySem.W.findIn K (.ref C) "running" = some none)
    (n5 : PySem.W.findIn K (.ref C) "stops" = some none)
    (am0 : PySem.W.findIn K (.ref C) "__init__" = some (some (.ref fm0)))
    (im0 : PySem.W.isFn K (.ref fm0) = true)
    (lm0 : K.lookup fm0 = some ⟨ocm0, odm0, .func (PySem.W.fnOf "__init__" "Disk.__init__" (defArgs (sDk 0)) (defBody (sDk 0)) (defScope (sDk 0)) .none kVm0 dcm0 pmm0 anm0 cdm0 ctm0), slm0⟩)
    (cm0 : PySem.W.codeIn K cdm0 "Disk.__init__" = true)
    (km0 : PySem.W.keepIn K (.ref fm0) = true)
    (am1 : PySem.W.findIn K (.ref C) "write" = some (some (.ref fm1)))
    (im1 : PySem.W.isFn K (.ref fm1) = true)
    (lm1 : K.lookup fm1 = some ⟨ocm1, odm1, .func (PySem.W.fnOf "write" "Disk.write" (defArgs (sDk 1)) (defBody (sDk 1)) (defScope (sDk 1)) .none kVm1 dcm1 pmm1 anm1 cdm1 ctm1), slm1⟩)
    (cm1 : PySem.W.codeIn K cdm1 "Disk.write" = true)
    (km1 : PySem.W.keepIn K (.ref fm1) = true)
    (am2 : PySem.W.findIn K (.ref C) "settle" = some (some (.ref fm2)))
    (im2 : PySem.W.isFn K (.ref fm2) = true)
    (lm2 : K.lookup fm2 = some ⟨ocm2, odm2, .func (PySem.W.fnOf "settle" "Disk.settle" (defArgs (sDk 2)) (defBody (sDk 2)) (defScope (sDk 2)) .none kVm2 dcm2 pmm2 anm2 cdm2 ctm2), slm2⟩)
    (cm2 : PySem.W.codeIn K cdm2 "Disk.settle" = true)
    (km2 : PySem.W.keepIn K (.ref fm2) = true)
    (am3 : PySem.W.findIn K (.ref C) "read" = some (some (.ref fm3)))
    (im3 : PySem.W.isFn K (.ref fm3) = true)
    (lm3 : K.lookup fm3 = some ⟨ocm3, odm3, .func (PySem.W.fnOf "read" "Disk.read" (defArgs (sDk 3)) (defBody (sDk 3)) (defScope (sDk 3)) .none kVm3 dcm3 pmm3 anm3 cdm3 ctm3), slm3⟩)
    (cm3 : PySem.W.codeIn K cdm3 "Disk.read" = true)
    (km3 : PySem.W.keepIn K (.ref fm3) = true)
    (am4 : PySem.W.findIn K (.ref C) "arm" = some (some (.ref fm4)))
    (im4 : PySem.W.isFn K (.ref fm4) = true)
    (lm4 : K.lookup fm4 = some ⟨ocm4, odm4, .func (PySem.W.fnOf "arm" "Disk.arm" (defArgs (sDk 4)) (defBody (sDk 4)) (defScope (sDk 4)) .none kVm4 dcm4 pmm4 anm4 cdm4 ctm4), slm4⟩)
    (cm4 : PySem.W.codeIn K cdm4 "Disk.arm" = true)
    (km4 : PySem.W.keepIn K (.ref fm4) = true)
    (am5 : PySem.W.findIn K (.ref C) "stop" = some (some (.ref fm5)))
    (im5 : PySem.W.isFn K (.ref fm5) = true)
    (lm5 : K.lookup fm5 = some ⟨ocm5, odm5, .func (PySem.W.fnOf "stop" "Disk.stop" (defArgs (sDk 5)) (defBody (sDk 5)) (defScope (sDk 5)) .none kVm5 dcm5 pmm5 anm5 cdm5 ctm5), slm5⟩)
    (cm5 : PySem.W.codeIn K cdm5 "Disk.stop" = true)
    (km5 : PySem.W.keepIn K (.ref fm5) = true)
    (am6 : PySem.W.findIn K (.ref C) "again" = some (some (.ref fm6)))
    (im6 : PySem.W.isFn K (.ref fm6) = true)
    (lm6 : K.lookup fm6 = some ⟨ocm6, odm6, .func (PySem.W.fnOf "again" "Disk.again" (defArgs (sDk 6)) (defBody (sDk 6)) (defScope (sDk 6)) .none kVm6 dcm6 pmm6 anm6 cdm6 ctm6), slm6⟩)
    (cm6 : PySem.W.codeIn K cdm6 "Disk.again" = true)
    (km6 : PySem.W.keepIn K (.ref fm6) = true)
    (am7 : PySem.W.findIn K (.ref C) "settled" = some (some (.ref fm7)))
    (im7 : PySem.W.isFn K (.ref fm7) = true)
    (lm7 : K.lookup fm7 = some ⟨ocm7, odm7, .func (PySem.W.fnOf "settled" "Disk.settled" (defArgs (sDk 7)) (defBody (sDk 7)) (defScope (sDk 7)) .none kVm7 dcm7 pmm7 anm7 cdm7 ctm7), slm7⟩)
    (cm7 : PySem.W.codeIn K cdm7 "Disk.settled" = true)
    (km7 : PySem.W.keepIn K (.ref fm7) = true)
    (am8 : PySem.W.findIn K (.ref C) "check_running" = some (some (.ref fm8)))
    (im8 : PySem.W.isFn K (.ref fm8) = true)
    (lm8 : K.lookup fm8 = some ⟨ocm8, odm8, .func (PySem.W.fnOf "check_running" "Disk.check_running" (defArgs (sDk 8)) (defBody (sDk 8)) (defScope (sDk 8)) .none kVm8 dcm8 pmm8 anm8 cdm8 ctm8), slm8⟩)
    (cm8 : PySem.W.codeIn K cdm8 "Disk.check_running" = true)
    (km8 : PySem.W.keepIn K (.ref fm8) = true)
    (am9 : PySem.W.findIn K (.ref C) "count_deed" = some (some (.ref fm9)))
    (im9 : PySem.W.isFn K (.ref fm9) = true)
    (lm9 : K.lookup fm9 = some ⟨ocm9, odm9, .func (PySem.W.fnOf "count_deed" "Disk.count_deed" (defArgs (sDk 9)) (defBody (sDk 9)) (defScope (sDk 9)) .none kVm9 dcm9 pmm9 anm9 cdm9 ctm9), slm9⟩)
    (cm9 : PySem.W.codeIn K cdm9 "Disk.count_deed" = true)
    (km9 : PySem.W.keepIn K (.ref fm9) = true)
    (ax0 : PySem.W.nsIn K mainGlobals "BadDeal" = some (some (.ref x0)))
    (ax1 : PySem.W.nsIn K mainGlobals "BadHand" = some (some (.ref x1)))
    (ax2 : PySem.W.nsIn K mainGlobals "BadLetter" = some (some (.ref x2)))
    (ax3 : PySem.W.nsIn K mainGlobals "BadTime" = some (some (.ref x3)))
    (ax4 : PySem.W.nsIn K mainGlobals "BadKey" = some (some (.ref x4)))
    (ax5 : PySem.W.nsIn K mainGlobals "BadHouse" = some (some (.ref x5)))
    (ax6 : PySem.W.nsIn K mainGlobals "NoCopy" = some (some (.ref x6)))
    (ax7 : PySem.W.nsIn K mainGlobals "Behind" = some (some (.ref x7)))
    (ax8 : PySem.W.nsIn K mainGlobals "BadBlock" = some (some (.ref x8)))
    (ax9 : PySem.W.nsIn K mainGlobals "BadEntry" = some (some (.ref x9)))
    (ax10 : PySem.W.nsIn K mainGlobals "BadText" = some (some (.ref x10)))
    (ax11 : PySem.W.nsIn K mainGlobals "Stopped" = some (some (.ref x11)))
    (aSE : PySem.W.nsIn K mainGlobals "StillError" = some (some (.ref SE)))
    (e8x : PySem.W.excIn K x8 [.type "ValueError", .type "Exception", .type "BaseException", .type "object"] "ValueError.__new__" = true)
    (e8k : PySem.W.keepIn K (.ref x8) = true)
    (e8b : PySem.W.subIn K (.ref x8) (.type "BaseException") = some true)
    (e8t : PySem.W.typeIn K (.ref x8) = some (.type "type"))
    (e8g : PySem.W.findIn K (.ref x8) "__getattribute__" = some (some (.builtin "BaseException.__getattribute__")))
    (e8h : PySem.W.findIn K (.ref x8) "__getattr__" = some none)
    (e8d : PySem.W.hasDictIn K x8 = true)
    (e8a : PySem.W.findIn K (.ref x8) "__class__" = some (some (.builtin "object.__class__")))
    (e8o : PySem.W.mroIn K x8 (.type "object") = some true)
    (e8i0 : PySem.W.kitOne K (.ref x8) (.ref x0) = some false)
    (e8i1 : PySem.W.kitOne K (.ref x8) (.ref x1) = some false)
    (e8i2 : PySem.W.kitOne K (.ref x8) (.ref x2) = some false)
    (e8i3 : PySem.W.kitOne K (.ref x8) (.ref x3) = some false)
    (e8i4 : PySem.W.kitOne K (.ref x8) (.ref x4) = some false)
    (e8i5 : PySem.W.kitOne K (.ref x8) (.ref x5) = some false)
    (e8i6 : PySem.W.kitOne K (.ref x8) (.ref x6) = some false)
    (e8i7 : PySem.W.kitOne K (.ref x8) (.ref x7) = some false)
    (e8i8 : PySem.W.kitOne K (.ref x8) (.ref x8) = some true)
    (e8i9 : PySem.W.kitOne K (.ref x8) (.ref x9) = some false)
    (e8i10 : PySem.W.kitOne K (.ref x8) (.ref x10) = some false)
    (e8i11 : PySem.W.kitOne K (.ref x8) (.ref x11) = some false)
    (e8v : PySem.W.kitOne K (.ref x8) (.type "ValueError") = some true)
    (e8m : PySem.W.exmOne K (.ref x8) (.ref SE) = some true)
    (e11x : PySem.W.excIn K x11 [.type "ValueError", .type "Exception", .type "BaseException", .type "object"] "ValueError.__new__" = true)
    (e11k : PySem.W.keepIn K (.ref x11) = true)
    (e11b : PySem.W.subIn K (.ref x11) (.type "BaseException") = some true)
    (e11t : PySem.W.typeIn K (.ref x11) = some (.type "type"))
    (e11g : PySem.W.findIn K (.ref x11) "__getattribute__" = some (some (.builtin "BaseException.__getattribute__")))
    (e11h : PySem.W.findIn K (.ref x11) "__getattr__" = some none)
    (e11d : PySem.W.hasDictIn K x11 = true)
    (e11a : PySem.W.findIn K (.ref x11) "__class__" = some (some (.builtin "object.__class__")))
    (e11o : PySem.W.mroIn K x11 (.type "object") = some true)
    (e11i0 : PySem.W.kitOne K (.ref x11) (.ref x0) = some false)
    (e11i1 : PySem.W.kitOne K (.ref x11) (.ref x1) = some false)
    (e11i2 : PySem.W.kitOne K (.ref x11) (.ref x2) = some false)
    (e11i3 : PySem.W.kitOne K (.ref x11) (.ref x3) = some false)
    (e11i4 : PySem.W.kitOne K (.ref x11) (.ref x4) = some false)
    (e11i5 : PySem.W.kitOne K (.ref x11) (.ref x5) = some false)
    (e11i6 : PySem.W.kitOne K (.ref x11) (.ref x6) = some false)
    (e11i7 : PySem.W.kitOne K (.ref x11) (.ref x7) = some false)
    (e11i8 : PySem.W.kitOne K (.ref x11) (.ref x8) = some false)
    (e11i9 : PySem.W.kitOne K (.ref x11) (.ref x9) = some false)
    (e11i10 : PySem.W.kitOne K (.ref x11) (.ref x10) = some false)
    (e11i11 : PySem.W.kitOne K (.ref x11) (.ref x11) = some true)
    (e11v : PySem.W.kitOne K (.ref x11) (.type "ValueError") = some true)
    (e11m : PySem.W.exmOne K (.ref x11) (.ref SE) = some true)
    (cln : PySem.W.specialIn K (.builtin "object.__class__") "__get__" = some (some (.builtin "getset_descriptor.__get__")))
    (clt : PySem.W.takesIn K (.builtin "object.__class__") = some true)
    (aB : PySem.W.nsIn K mainGlobals "BLOCKS" = some (some (.int 35 tB)))
    (aM : PySem.W.nsIn K mainGlobals "MOST_WEIGHT" = some (some (.int 40 tM)))
    (g_isinstance : PySem.W.nsIn K mainGlobals "isinstance" = some none)
    (g_int : PySem.W.nsIn K mainGlobals "int" = some none)
    (g_bool : PySem.W.nsIn K mainGlobals "bool" = some none)
    (g_tuple : PySem.W.nsIn K mainGlobals "tuple" = some none)
    (g_list : PySem.W.nsIn K mainGlobals "list" = some none)
    (g_zip : PySem.W.nsIn K mainGlobals "zip" = some none)
    (g_len : PySem.W.nsIn K mainGlobals "len" = some none)
    (g_range : PySem.W.nsIn K mainGlobals "range" = some none)
    (g_str : PySem.W.nsIn K mainGlobals "str" = some none)
    (g_sum : PySem.W.nsIn K mainGlobals "sum" = some none)
    (g_ValueError : PySem.W.nsIn K mainGlobals "ValueError" = some none)
    (hd_write : PySem.W.codeHdIn K co_write p_write = true)
    (no_write : K.lookup p_write = none)
    (hd_is_ : PySem.W.codeHdIn K co_is_ p_is_ = true)
    (no_is_ : K.lookup p_is_ = none)
    (hd_law : PySem.W.codeHdIn K co_law p_law = true)
    (no_law : K.lookup p_law = none)
    (w1 : p_write ≠ p_is_) (w2 : p_write ≠ p_law) (w3 : p_is_ ≠ p_law)
    (t1 : h.get? p_write = some { cls := .none, data := .fields #[] }) (t2 : h.get? p_is_ = some { cls := .none, data := .fields #[] }) (t3 : h.get? p_law = some { cls := .none, data := .fields #[] }) : LawAtS l w K CX0 9 63 "_law_script" mg fa h := by
  let L : Nat → Addr := (fun i => match i with | 23 => f_begun | 24 => f_take | 25 => f_alike | 26 => f_cls | 27 => f_nest | 28 => f_what | 29 => f_weight | 30 => f_made | 31 => f_fall | 32 => f_count | 33 => f_told | 34 => f_write | 35 => f_arms | 36 => f_is_ | 37 => f_law | _ => 0)
  let XC : Nat → Addr := (fun i => match i with | 0 => x0 | 1 => x1 | 2 => x2 | 3 => x3 | 4 => x4 | 5 => x5 | 6 => x6 | 7 => x7 | 8 => x8 | 9 => x9 | 10 => x10 | 11 => x11 | _ => 0)
  let A : Ad := ⟨f_within, f_heavy, f_check, C, (fun i => match i with | 0 => fm0 | 1 => fm1 | 2 => fm2 | 3 => fm3 | 4 => fm4 | 5 => fm5 | 6 => fm6 | 7 => fm7 | 8 => fm8 | 9 => fm9 | _ => 0), x8, x11⟩
  have T0 : Txt K mg A := {
    within := ⟨⟨_, fun_mk l_within c_within k_within⟩, PySem.W.mg_of X G a_within⟩,
    heavy := ⟨⟨_, fun_mk l_heavy c_heavy k_heavy⟩, PySem.W.mg_of X G a_heavy⟩,
    check := ⟨⟨_, fun_mk l_check c_check k_check⟩, PySem.W.mg_of X G a_check⟩,
    blocks := ⟨_, PySem.W.mg_of X G aB⟩,
    most := ⟨_, PySem.W.mg_of X G aM⟩,
    bad := ⟨PySem.W.mg_of X G ax8, e8x, e8k, e8b, e8t⟩,
    stopped := ⟨PySem.W.mg_of X G ax11, e11x, e11k, e11b, e11t⟩,
    isinstance := PySem.W.mg_none_of X G g_isinstance,
    int := PySem.W.mg_none_of X G g_int,
    bool := PySem.W.mg_none_of X G g_bool,
    tuple := PySem.W.mg_none_of X G g_tuple,
    list := PySem.W.mg_none_of X G g_list,
    zip := PySem.W.mg_none_of X G g_zip,
    cl := ⟨pg, hd, po, sa⟩,
    nSure := n0,
    nUns := n1,
    nLeft := n2,
    nPicks := n3,
    nRun := n4,
    nStops := n5,
    m0 := ⟨⟨_, fun_mk lm0 cm0 km0⟩, ⟨am0, im0, km0⟩⟩,
    m1 := ⟨⟨_, fun_mk lm1 cm1 km1⟩, ⟨am1, im1, km1⟩⟩,
    m2 := ⟨⟨_, fun_mk lm2 cm2 km2⟩, ⟨am2, im2, km2⟩⟩,
    m3 := ⟨⟨_, fun_mk lm3 cm3 km3⟩, ⟨am3, im3, km3⟩⟩,
    m4 := ⟨⟨_, fun_mk lm4 cm4 km4⟩, ⟨am4, im4, km4⟩⟩,
    m5 := ⟨⟨_, fun_mk lm5 cm5 km5⟩, ⟨am5, im5, km5⟩⟩,
    m6 := ⟨⟨_, fun_mk lm6 cm6 km6⟩, ⟨am6, im6, km6⟩⟩,
    m7 := ⟨⟨_, fun_mk lm7 cm7 km7⟩, ⟨am7, im7, km7⟩⟩,
    m8 := ⟨⟨_, fun_mk lm8 cm8 km8⟩, ⟨am8, im8, km8⟩⟩,
    m9 := ⟨⟨_, fun_mk lm9 cm9 km9⟩, ⟨am9, im9, km9⟩⟩ }
  have T1 : Lw K mg A L := { T0 with
    begun := ⟨⟨_, fun_mk l_begun c_begun k_begun⟩, PySem.W.mg_of X G a_begun⟩,
    take := ⟨⟨_, fun_mk l_take c_take k_take⟩, PySem.W.mg_of X G a_take⟩,
    alike := ⟨⟨_, fun_mk l_alike c_alike k_alike⟩, PySem.W.mg_of X G a_alike⟩,
    nest := ⟨⟨_, fun_mk l_nest c_nest k_nest⟩, PySem.W.mg_of X G a_nest⟩,
    what := ⟨⟨_, fun_mk l_what c_what k_what⟩, PySem.W.mg_of X G a_what⟩,
    weight := ⟨⟨_, fun_mk l_weight c_weight k_weight⟩, PySem.W.mg_of X G a_weight⟩,
    made := ⟨⟨_, fun_mk l_made c_made k_made⟩, PySem.W.mg_of X G a_made⟩,
    fall := ⟨⟨_, fun_mk l_fall c_fall k_fall⟩, PySem.W.mg_of X G a_fall⟩,
    count := ⟨⟨_, fun_mk l_count c_count k_count⟩, PySem.W.mg_of X G a_count⟩,
    arms := ⟨⟨_, fun_mk l_arms c_arms k_arms⟩, PySem.W.mg_of X G a_arms⟩,
    len := PySem.W.mg_none_of X G g_len,
    range := PySem.W.mg_none_of X G g_range,
    str := PySem.W.mg_none_of X G g_str,
    sum := PySem.W.mg_none_of X G g_sum }
  have T : Lc K mg A L XC SE := { T1 with
    cls := ⟨⟨_, fun_mk l_cls c_cls k_cls⟩, PySem.W.mg_of X G a_cls⟩,
    told := ⟨⟨_, fun_mk l_told c_told k_told⟩, PySem.W.mg_of X G a_told⟩,
    still := PySem.W.mg_of X G aSE,
    valueError := PySem.W.mg_none_of X G g_ValueError,
    x0 := PySem.W.mg_of X G ax0,
    x1 := PySem.W.mg_of X G ax1,
    x2 := PySem.W.mg_of X G ax2,
    x3 := PySem.W.mg_of X G ax3,
    x4 := PySem.W.mg_of X G ax4,
    x5 := PySem.W.mg_of X G ax5,
    x6 := PySem.W.mg_of X G ax6,
    x7 := PySem.W.mg_of X G ax7,
    x8 := PySem.W.mg_of X G ax8,
    x9 := PySem.W.mg_of X G ax9,
    x10 := PySem.W.mg_of X G ax10,
    x11 := PySem.W.mg_of X G ax11 }
  have R : Rs K A XC SE := ⟨⟨⟨e8g, e8h, e8b, e8d, e8a, cln, clt, e8o⟩, by decide, fun i hi => by
    rcases (show i = 0 ∨ i = 1 ∨ i = 2 ∨ i = 3 ∨ i = 4 ∨ i = 5 ∨ i = 6 ∨ i = 7 ∨ i = 8 ∨ i = 9 ∨ i = 10 ∨ i = 11 by omega) with rfl | rfl | rfl | rfl | rfl | rfl | rfl | rfl | rfl | rfl | rfl | rfl
    · exact e8i0
    · exact e8i1
    · exact e8i2
    · exact e8i3
    · exact e8i4
    · exact e8i5
    · exact e8i6
    · exact e8i7
    · exact e8i8
    · exact e8i9
    · exact e8i10
    · exact e8i11, e8v⟩, e8m, ⟨⟨e11g, e11h, e11b, e11d, e11a, cln, clt, e11o⟩, by decide, fun i hi => by
    rcases (show i = 0 ∨ i = 1 ∨ i = 2 ∨ i = 3 ∨ i = 4 ∨ i = 5 ∨ i = 6 ∨ i = 7 ∨ i = 8 ∨ i = 9 ∨ i = 10 ∨ i = 11 by omega) with rfl | rfl | rfl | rfl | rfl | rfl | rfl | rfl | rfl | rfl | rfl | rfl
    · exact e11i0
    · exact e11i1
    · exact e11i2
    · exact e11i3
    · exact e11i4
    · exact e11i5
    · exact e11i6
    · exact e11i7
    · exact e11i8
    · exact e11i9
    · exact e11i10
    · exact e11i11, e11v⟩, e11m⟩
  have O : TbOk K mg L ⟨co_write, p_write, co_is_, p_is_, co_law, p_law⟩ := ⟨⟨⟨_, _, _, _, _, _, _, _, l_write, c_write⟩, PySem.W.mg_of X G a_write, k_write⟩, ⟨⟨_, _, _, _, _, _, _, _, l_is_, c_is_⟩, PySem.W.mg_of X G a_is_, k_is_⟩, ⟨⟨_, _, _, _, _, _, _, _, l_law, c_law⟩, PySem.W.mg_of X G a_law, k_law⟩, w1, w2, w3⟩
  exact law_at T R O ⟨⟨mk, am0, im0, kC⟩, PySem.W.mg_of X G aC⟩ hfa t1 t2 t3 no_write no_is_ no_law (PySem.W.codeHd_of_K X hd_write) (PySem.W.codeHd_of_K X hd_is_) (PySem.W.codeHd_of_K X hd_law)
end K5

set_option Elab.async false
set_option maxRecDepth 100000
open PySem PySem.W PyProof.Rows
set_option maxRecDepth 100000 in
set_option maxHeartbeats 0 in
theorem PySem.Challenge.cw_stillcopy_k05_disks_holds : PySem.Challenge.rw_stillcopy_k05_disks.Holds := by
  w_on; o_law; k_head; (case hw => w_witness2)
  k_fill
  refine LamX.walk_ofTs (l := PySem.Challenge.rw_stillcopy_k05_disks) (n := 63) (k := 9) (x := "_law_script") (CX := fun _ => L2.CX0) rfl (by decide) (by kernel_rfl) ⟨rfl, by decide, by decide⟩ (fun w h Y => PySem.W.km_in_of Y) ?F (fun _ _ _ _ _ z => z)
  intro w mg fa h Y KX G hmg0
  have hmg : mg ("law" : PySem.Str) = some (.ref fa) := hmg0
  have hT := PySem.W.km_tabs_of Y
  refine' K5.all_mk (p_write := 378) (p_is_ := 390) (p_law := 395) KX G hmg ?qa_within ?ql_within ?qc_within ?qk_within ?qa_heavy ?ql_heavy ?qc_heavy ?qk_heavy ?qa_check ?ql_check ?qc_check ?qk_check ?qa_begun ?ql_begun ?qc_begun ?qk_begun ?qa_take ?ql_take ?qc_take ?qk_take ?qa_alike ?ql_alike ?qc_alike ?qk_alike ?qa_cls ?ql_cls ?qc_cls ?qk_cls ?qa_nest ?ql_nest ?qc_nest ?qk_nest ?qa_what ?ql_what ?qc_what ?qk_what ?qa_weight ?ql_weight ?qc_weight ?qk_weight ?qa_made ?ql_made ?qc_made ?qk_made ?qa_fall ?ql_fall ?qc_fall ?qk_fall ?qa_count ?ql_count ?qc_count ?qk_count ?qa_told ?ql_told ?qc_told ?qk_told ?qa_write ?ql_write ?qc_write ?qk_write ?qa_arms ?ql_arms ?qc_arms ?qk_arms ?qa_is_ ?ql_is_ ?qc_is_ ?qk_is_ ?qa_law ?ql_law ?qc_law ?qk_law ?qaC ?qpg ?qhd ?qpo ?qsa ?qmk ?qkC ?qn0 ?qn1 ?qn2 ?qn3 ?qn4 ?qn5 ?qam0 ?qim0 ?qlm0 ?qcm0 ?qkm0 ?qam1 ?qim1 ?qlm1 ?qcm1 ?qkm1 ?qam2 ?qim2 ?qlm2 ?qcm2 ?qkm2 ?qam3 ?qim3 ?qlm3 ?qcm3 ?qkm3 ?qam4 ?qim4 ?qlm4 ?qcm4 ?qkm4 ?qam5 ?qim5 ?qlm5 ?qcm5 ?qkm5 ?qam6 ?qim6 ?qlm6 ?qcm6 ?qkm6 ?qam7 ?qim7 ?qlm7 ?qcm7 ?qkm7 ?qam8 ?qim8 ?qlm8 ?qcm8 ?qkm8 ?qam9 ?qim9 ?qlm9 ?qcm9 ?qkm9 ?qax0 ?qax1 ?qax2 ?qax3 ?qax4 ?qax5 ?qax6 ?qax7 ?qax8 ?qax9 ?qax10 ?qax11 ?qaSE ?qe8x ?qe8k ?qe8b ?qe8t ?qe8g ?qe8h ?qe8d ?qe8a ?qe8o ?qe8i0 ?qe8i1 ?qe8i2 ?qe8i3 ?qe8i4 ?qe8i5 ?qe8i6 ?qe8i7 ?qe8i8 ?qe8i9 ?qe8i10 ?qe8i11 ?qe8v ?qe8m ?qe11x ?qe11k ?qe11b ?qe11t ?qe11g ?qe11h ?qe11d ?qe11a ?qe11o ?qe11i0 ?qe11i1 ?qe11i2 ?qe11i3 ?qe11i4 ?qe11i5 ?qe11i6 ?qe11i7 ?qe11i8 ?qe11i9 ?qe11i10 ?qe11i11 ?qe11v ?qe11m ?qcln ?qclt ?qaB ?qaM ?qg_isinstance ?qg_int ?qg_bool ?qg_tuple ?qg_list ?qg_zip ?qg_len ?qg_range ?qg_str ?qg_sum ?qg_ValueError ?qhd_write ?qno_write ?qhd_is_ ?qno_is_ ?qhd_law ?qno_law (by decide) (by decide) (by decide) (hT 378 (by decide)) (hT 390 (by decide)) (hT 395 (by decide))
  (case qa_within => k_is)
  (case ql_within => k_is)
  (case qc_within => k_is)
  (case qk_within => k_is)
  (case qa_heavy => k_is)
  (case ql_heavy => k_is)
  (case qc_heavy => k_is)
  (case qk_heavy => k_is)
  (case qa_check => k_is)
  (case ql_check => k_is)
  (case qc_check => k_is)
  (case qk_check => k_is)
  (case qa_begun => k_is)
  (case ql_begun => k_is)
  (case qc_begun => k_is)
  (case qk_begun => k_is)
  (case qa_take => k_is)
  (case ql_take => k_is)
  (case qc_take => k_is)
  (case qk_take => k_is)
  (case qa_alike => k_is)
  (case ql_alike => k_is)
  (case qc_alike => k_is)
  (case qk_alike => k_is)
  (case qa_cls => k_is)
  (case ql_cls => k_is)
  (case qc_cls => k_is)
  (case qk_cls => k_is)
  (case qa_nest => k_is)
  (case ql_nest => k_is)
  (case qc_nest => k_is)
  (case qk_nest => k_is)
  (case qa_what => k_is)
  (case ql_what => k_is)
  (case qc_what => k_is)
  (case qk_what => k_is)
  (case qa_weight => k_is)
  (case ql_weight => k_is)
  (case qc_weight => k_is)
  (case qk_weight => k_is)
  (case qa_made => k_is)
  (case ql_made => k_is)
  (case qc_made => k_is)
  (case qk_made => k_is)
  (case qa_fall => k_is)
  (case ql_fall => k_is)
  (case qc_fall => k_is)
  (case qk_fall => k_is)
  (case qa_count => k_is)
  (case ql_count => k_is)
  (case qc_count => k_is)
  (case qk_count => k_is)
  (case qa_told => k_is)
  (case ql_told => k_is)
  (case qc_told => k_is)
  (case qk_told => k_is)
  (case qa_write => k_is)
  (case ql_write => k_is)
  (case qc_write => k_is)
  (case qk_write => k_is)
  (case qa_arms => k_is)
  (case ql_arms => k_is)
  (case qc_arms => k_is)
  (case qk_arms => k_is)
  (case qa_is_ => k_is)
  (case ql_is_ => k_is)
  (case qc_is_ => k_is)
  (case qk_is_ => k_is)
  (case qa_law => k_is)
  (case ql_law => k_is)
  (case qc_law => k_is)
  (case qk_law => k_is)
  (case qaC => k_is)
  (case qpg => k_is)
  (case qhd => k_is)
  (case qpo => k_is)
  (case qsa => k_is)
  (case qmk => k_is)
  (case qkC => k_is)
  (case qn0 => k_is)
  (case qn1 => k_is)
  (case qn2 => k_is)
  (case qn3 => k_is)
  (case qn4 => k_is)
  (case qn5 => k_is)
  (case qam0 => k_is)
  (case qim0 => k_is)
  (case qlm0 => k_is)
  (case qcm0 => k_is)
  (case qkm0 => k_is)
  (case qam1 => k_is)
  (case qim1 => k_is)
  (case qlm1 => k_is)
  (case qcm1 => k_is)
  (case qkm1 => k_is)
  (case qam2 => k_is)
  (case qim2 => k_is)
  (case qlm2 => k_is)
  (case qcm2 => k_is)
  (case qkm2 => k_is)
  (case qam3 => k_is)
  (case qim3 => k_is)
  (case qlm3 => k_is)
  (case qcm3 => k_is)
  (case qkm3 => k_is)
  (case qam4 => k_is)
  (case qim4 => k_is)
  (case qlm4 => k_is)
  (case qcm4 => k_is)
  (case qkm4 => k_is)
  (case qam5 => k_is)
  (case qim5 => k_is)
  (case qlm5 => k_is)
  (case qcm5 => k_is)
  (case qkm5 => k_is)
  (case qam6 => k_is)
  (case qim6 => k_is)
  (case qlm6 => k_is)
  (case qcm6 => k_is)
  (case qkm6 => k_is)
  (case qam7 => k_is)
  (case qim7 => k_is)
  (case qlm7 => k_is)
  (case qcm7 => k_is)
  (case qkm7 => k_is)
  (case qam8 => k_is)
  (case qim8 => k_is)
  (case qlm8 => k_is)
  (case qcm8 => k_is)
  (case qkm8 => k_is)
  (case qam9 => k_is)
  (case qim9 => k_is)
  (case qlm9 => k_is)
  (case qcm9 => k_is)
  (case qkm9 => k_is)
  (case qax0 => k_is)
  (case qax1 => k_is)
  (case qax2 => k_is)
  (case qax3 => k_is)
  (case qax4 => k_is)
  (case qax5 => k_is)
  (case qax6 => k_is)
  (case qax7 => k_is)
  (case qax8 => k_is)
  (case qax9 => k_is)
  (case qax10 => k_is)
  (case qax11 => k_is)
  (case qaSE => k_is)
  (case qe8x => k_exc)
  (case qe8k => k_is)
  (case qe8b => k_is)
  (case qe8t => k_is)
  (case qe8g => k_is)
  (case qe8h => k_is)
  (case qe8d => k_is)
  (case qe8a => k_is)
  (case qe8o => k_is)
  (case qe8i0 => kernel_rfl)
  (case qe8i1 => kernel_rfl)
  (case qe8i2 => kernel_rfl)
  (case qe8i3 => kernel_rfl)
  (case qe8i4 => kernel_rfl)
  (case qe8i5 => kernel_rfl)
  (case qe8i6 => kernel_rfl)
  (case qe8i7 => kernel_rfl)
  (case qe8i8 => kernel_rfl)
  (case qe8i9 => kernel_rfl)
  (case qe8i10 => kernel_rfl)
  (case qe8i11 => kernel_rfl)
  (case qe8v => kernel_rfl)
  (case qe8m => kernel_rfl)
  (case qe11x => k_exc)
  (case qe11k => k_is)
  (case qe11b => k_is)
  (case qe11t => k_is)
  (case qe11g => k_is)
  (case qe11h => k_is)
  (case qe11d => k_is)
  (case qe11a => k_is)
  (case qe11o => k_is)
  (case qe11i0 => kernel_rfl)
  (case qe11i1 => kernel_rfl)
  (case qe11i2 => kernel_rfl)
  (case qe11i3 => kernel_rfl)
  (case qe11i4 => kernel_rfl)
  (case qe11i5 => kernel_rfl)
  (case qe11i6 => kernel_rfl)
  (case qe11i7 => kernel_rfl)
  (case qe11i8 => kernel_rfl)
  (case qe11i9 => kernel_rfl)
  (case qe11i10 => kernel_rfl)
  (case qe11i11 => kernel_rfl)
  (case qe11v => kernel_rfl)
  (case qe11m => kernel_rfl)
  (case qcln => k_is)
  (case qclt => k_is)
  (case qaB => k_is)
  (case qaM => k_is)
  (case qg_isinstance => k_is)
  (case qg_int => k_is)
  (case qg_bool => k_is)
  (case qg_tuple => k_is)
  (case qg_list => k_is)
  (case qg_zip => k_is)
  (case qg_len => k_is)
  (case qg_range => k_is)
  (case qg_str => k_is)
  (case qg_sum => k_is)
  (case qg_ValueError => k_is)
  (case qhd_write => first | k_is | kernel_rfl)
  (case qno_write => first | k_is | kernel_rfl)
  (case qhd_is_ => first | k_is | kernel_rfl)
  (case qno_is_ => first | k_is | kernel_rfl)
  (case qhd_law => first | k_is | kernel_rfl)
  (case qno_law => first | k_is | kernel_rfl)
