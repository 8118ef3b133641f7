import PyProof.Rows.All
import Wide.All
import OpenK.AllK
import Wide.FinOn
import HandS.ForMost
import HandS.Gcd
import HandS.Wide
import HandS.WideBits
import HandS.IsInst
import HandS.SetKeys
import KE.GoesEnumKw
import HandS.More
import KE.KEqSeq
import HandS.Style
import HandS.Walk
import HandS.Conv
import HandS.Small
import HandS.EndOwn
import HandS.Exc
import HandS.ExcOwn
import HandS.ExcInit
import HandS.WordsExc
import HandS.ExcIs
import HandS.FStr
import HandS.TryOnly
import HandS.Lambda
import KE.KExcSuper
import KE.KSuper
import KE.KExcIs
import HandS.SetFor
import HandS.EndOwn
import HandS.Lambda
import HandS.SortRule
import HandS.SortInts
import HandS.SortKw
import KE.SortUse
import KE.SortKeyHeap
import PySem.Challenge.RW_mixserver_k04_whole_a_mix_is_the_sum
set_option Elab.async false
set_option linter.all false
set_option maxRecDepth 100000
set_option maxHeartbeats 1000000
namespace Mx
open PySem L2

/-! ### own defs, methods, classes as bundles -/
structure OwnF (P : Program) (w : World) (K : PySem.W.Frag) (mg : Str → Option Value) (base : Heap) (x : Str) (k : Nat) (ps : List Str) (sp : Sp) : Prop where
  ex : ∃ (f : Addr) (fd : FuncData), FnOk P w K mg base CX0 k f fd ps sp ∧ mg x = some (.ref f) ∧ PySem.W.keepIn K (.ref f) = true ∧ Binds K fd ps []
structure OwnM (P : Program) (w : World) (K : PySem.W.Frag) (mg : Str → Option Value) (base : Heap) (C : Addr) (m : Str) (k : Nat) (ps : List Str) (sp : Sp) : Prop where
  ex : ∃ (f : Addr) (fd : FuncData), FnOk P w K mg base CX0 k f fd ps sp ∧ Cls K C ∧ Meth K C m f ∧ Binds K fd ps []
structure OwnC (P : Program) (w : World) (K : PySem.W.Frag) (mg : Str → Option Value) (base : Heap) (C : Addr) (x : Str) (k : Nat) (ps : List Str) (sp : Sp) : Prop where
  ex : ∃ (f : Addr) (fd : FuncData), FnOk P w K mg base CX0 k f fd ps sp ∧ mg x = some (.ref C) ∧ Mk K C f ∧ Binds K fd ps []
section
variable {X : Cx} {x m : Str} {k : Nat} {ps : List Str} {sp : Sp} {C : Addr} {p pos apos : Pos} {e o : Expr} {es : List Expr} {t : TA} {to : TE}
theorem p_call (G : OwnF X.prog X.w X.K X.mg X.base x k ps sp) (hr : Room k X.A) (ha : PA X (e :: es) t) (hg : Gl X x := by rfl) (hdb : (x == ("__debug__" : Str)) = false := by decide)
    (he : starEach (e :: es) X.env = (false, eval e X.env) :: starEach es X.env := by rfl) (hpl : (backTo pos (starEach es X.env)).any (·.1) = false := by rfl) :
    PE X (.Call (.Name x p) (e :: es) [] pos) (tCall sp [] E0 t) := by
  obtain ⟨f, fd, G, hm, hk, hb⟩ := G.ex
  exact pe_call G hr hg hm hk hb .nil pass0 ha hdb he hpl
theorem p_make (G : OwnC X.prog X.w X.K X.mg X.base C x k ps sp) (hr : Room (k + 1) X.A) (ha : PA X (e :: es) t) (hg : Gl X x := by rfl) (hdb : (x == ("__debug__" : Str)) = false := by decide)
    (he : starEach (e :: es) X.env = (false, eval e X.env) :: starEach es X.env := by rfl) (hpl : (backTo pos (starEach es X.env)).any (·.1) = false := by rfl) :
    PE X (.Call (.Name x p) (e :: es) [] pos) (tMake C sp [] E0 t) := by
  obtain ⟨f, fd, G, hm, hM, hb⟩ := G.ex
  exact pe_make hM G hr hg hm hb .nil pass0 ha hdb he hpl
theorem p_meth {pl : Sem Bool} (G : OwnM X.prog X.w X.K X.mg X.base C m k ps sp) (hr : Room k X.A) (ho : PE X o to) (ha : PA X (e :: es) t)
    (hst : starEach (e :: es) X.env = (false, eval e X.env) :: starEach es X.env := by rfl) (hpl : (backTo pos (starEach es X.env)).any (·.1) = false := by rfl)
    (ht : eval (.Call (.Attribute o m apos) (e :: es) [] pos) X.env = (do
      let ov ← eval o X.env
      standAt apos.atName
      let (f, first) ← holding [ov] (getMethod ov m pl)
      callWith pos f first (backTo pos (starEach (e :: es) X.env)) (backToKw pos (keywordEach [] X.env))) := by rfl) :
    PE X (.Call (.Attribute o m apos) (e :: es) [] pos) (tMeth C m sp [] E0 to t) := by
  obtain ⟨f, fd, G, hc, hm, hb⟩ := G.ex
  exact pe_meth ho hc hm G hr hb .nil pass0 ha hst hpl ht
theorem p_meth0 {pl : Sem Bool} (G : OwnM X.prog X.w X.K X.mg X.base C m k ps sp) (hr : Room k X.A) (ho : PE X o to)
    (ht : eval (.Call (.Attribute o m apos) [] [] pos) X.env = (do
      let ov ← eval o X.env
      standAt apos.atName
      let (f, first) ← holding [ov] (getMethod ov m pl)
      callWith pos f first (backTo pos (starEach [] X.env)) (backToKw pos (keywordEach [] X.env))) := by rfl) :
    PE X (.Call (.Attribute o m apos) [] [] pos) (tMeth C m sp [] E0 to tNil) := by
  obtain ⟨f, fd, G, hc, hm, hb⟩ := G.ex
  exact pe_meth0 ho hc hm G hr hb .nil pass0 ht
end

/-! ### o.f as a target in a tuple of targets -/
def gFld (K : PySem.W.Frag) (to : TE) (f : Str) : TG := fun y σ H Q => to σ H fun x H2 => ∃ a C dx fs, x = .ref a ∧ H2 a = some (.ins C dx fs) ∧ Cls K C ∧ NoAttr K C f ∧ fs.length < 1000 ∧ Q σ (upd H2 a (.ins C dx (putF f y fs)))
theorem pg_fld {X : Cx} {o : Expr} {to : TE} {f : Str} {pos : Pos} (ho : PE X o to)
    (ha : ∀ v, assign (.Attribute o f pos) X.env v = (do
      let ov ← holding [v] (eval o X.env)
      standAt pos.atName
      holding [v, ov] (setAttr ov f v)
      release [v, ov] []) := by intro _; rfl) : PG X (.Attribute o f pos) (gFld X.K to f) := by
  refine ⟨fun pins s σ H v u Q I r h => ?_⟩
  rw [ha]
  refine PySem.wpAny_bind (PySem.wpAny_holding (thn (ho.run pins s σ H _ I h) fun ov s1 ⟨x, H1, I1, r1, a, C, dx, fs, ex, ea, c, n, l, q⟩ => ?_))
  subst ex
  obtain rfl : ov = Value.ref a := r1
  exact PySem.wpAny_bind (PySem.wpAny_standAt (PySem.wpAny_bind (PySem.wpAny_holding (setattr_ok I1 ea c n l r fun s3 I3 => PySem.wpAny_release ⟨σ, _, I3, q⟩))))

/-! ### fields -/
theorem lk_eq {k : Str} {v : V} {r : List (Str × V)} : List.lookup k ((k, v) :: r) = some v := by
  simp [List.lookup]
theorem lk_ne {k j : Str} {v : V} {r : List (Str × V)} (h : (k == j) = false) : List.lookup k ((j, v) :: r) = List.lookup k r := by
  simp [List.lookup, h]
theorem pf_eq {k : Str} {v u : V} {r : List (Str × V)} : putF k v ((k, u) :: r) = (k, v) :: r := by
  show (if k = k then _ else _) = _
  rw [if_pos rfl]
theorem pf_ne {k j : Str} {v u : V} {r : List (Str × V)} (h : (k == j) = false) : putF k v ((j, u) :: r) = (j, u) :: putF k v r := by
  have h' : ¬ j = k := by
    intro e
    subst e
    simp at h
  show (if j = k then _ else _) = _
  rw [if_neg h']

/-! ### what stays -/
/-- all tracked things stand but those in F; tuples stand always -/
structure Stp (F : List Addr) (H H' : Hp) : Prop where
  keep : ∀ b o, H b = some o → b ∉ F → H' b = some o
  tup : ∀ b xs, H b = some (.tup xs) → H' b = some (.tup xs)
theorem Stp.refl {H : Hp} : Stp [] H H := ⟨fun _ _ h _ => h, fun _ _ h => h⟩
theorem Stp.of {H H' : Hp} (h : Same H H') : Stp [] H H' := ⟨fun b o e _ => h b o e, fun b xs e => h b _ e⟩
theorem Stp.same {H H' : Hp} (h : Stp [] H H') : Same H H' := fun b o e => h.keep b o e (by simp)
theorem Stp.trans {F G : List Addr} {H H1 H2 : Hp} (a : Stp F H H1) (b : Stp G H1 H2) : Stp (F ++ G) H H2 :=
  ⟨fun c o e n => b.keep c o (a.keep c o e fun z => n (List.mem_append_left _ z)) fun z => n (List.mem_append_right _ z), fun c xs e => b.tup c xs (a.tup c xs e)⟩
theorem Stp.sub {F G : List Addr} {H H' : Hp} (a : Stp F H H') (s : ∀ b ∈ F, b ∈ G) : Stp G H H' := ⟨fun c o e n => a.keep c o e fun z => n (s c z), a.tup⟩
/-- what H does not know may change -/
theorem Stp.subN {F G : List Addr} {H H' : Hp} (a : Stp F H H') (s : ∀ b ∈ F, b ∈ G ∨ H b = none) : Stp G H H' :=
  ⟨fun c o e n => a.keep c o e fun z => (s c z).elim n (fun q => by rw [e] at q; cases q), a.tup⟩
theorem Stp.new {H : Hp} {p : Addr} {o : HO} (h : H p = none) : Stp [] H (upd H p o) := .of fun b u e => by rw [upd_ne (ne_of_none e h)]; exact e
theorem Stp.put {H : Hp} {p : Addr} {o u : HO} (h : H p = some u) (n : ∀ xs, u ≠ .tup xs) : Stp [p] H (upd H p o) :=
  ⟨fun b x e q => by rw [upd_ne (by simpa using q)]; exact e, fun b xs e => by rw [upd_ne (ne_of e h (fun z => n xs z.symm))]; exact e⟩
theorem Stp.free {F : List Addr} {H H' : Hp} (a : Stp F H H') {p : Addr} (h : H' p = none) (n : p ∉ F) : H p = none := by
  cases q : H p with
  | none => rfl
  | some o =>
    rw [a.keep p o q n] at h
    cases h

/-! ### tuples that are read -/
def TupAt (K : PySem.W.Frag) (H : Hp) (a : Addr) (xs : List V) : Prop := H a = some (.tup xs) ∨ ∀ H' : Hp, SqT K H' a xs
theorem TupAt.sq {K : PySem.W.Frag} {H : Hp} {a : Addr} {xs : List V} (h : TupAt K H a xs) : SqT K H a xs := h.elim (fun q => .inl (.inl q)) fun q => q H
theorem TupAt.st {K : PySem.W.Frag} {F : List Addr} {H H' : Hp} {a : Addr} {xs : List V} (h : TupAt K H a xs) (s : Stp F H H') : TupAt K H' a xs := h.elim (fun q => .inl (s.tup _ _ q)) .inr

/-! ### fractions -/
/-- v is the fraction q, a tuple in lowest terms -/
def IsQ (K : PySem.W.Frag) (H : Hp) (v : V) (q : Rat) : Prop := ∃ a, v = .ref a ∧ TupAt K H a [.int q.num, .int (q.den : Int)]
theorem IsQ.st {K : PySem.W.Frag} {F : List Addr} {H H' : Hp} {v : V} {q : Rat} (h : IsQ K H v q) (s : Stp F H H') : IsQ K H' v q := by
  obtain ⟨a, e, t⟩ := h
  exact ⟨a, e, t.st s⟩
/-- so many bits -/
structure Rb (n : Nat) (q : Rat) : Prop where
  num : q.num.natAbs < 2 ^ n
  den : q.den < 2 ^ n
theorem Rb.mono {n m : Nat} {q : Rat} (h : Rb n q) (l : n ≤ m) : Rb m q := by
  have e : 2 ^ n ≤ 2 ^ m := Nat.pow_le_pow_right (by decide) l
  exact ⟨Nat.lt_of_lt_of_le h.num e, Nat.lt_of_lt_of_le h.den e⟩
theorem mk_num (t : Int) (b : Nat) (h : 0 < b) : (mkRat t b).num = t / ((Nat.gcd t.natAbs b : Nat) : Int) := by
  rw [Rat.num_mkRat, if_neg (by omega), Nat.gcd_comm]
theorem mk_den (t : Int) (b : Nat) (h : 0 < b) : (mkRat t b).den = b / Nat.gcd t.natAbs b := by
  rw [Rat.den_mkRat, if_neg (by omega), Nat.gcd_comm]
theorem Rb.of {n : Nat} {t : Int} {b : Nat} (h0 : 0 < b) (ht : t.natAbs < 2 ^ n) (hb : b < 2 ^ n) : Rb n (mkRat t b) := by
  refine ⟨?_, ?_⟩
  · rw [mk_num t b h0]
    refine Nat.lt_of_le_of_lt ?_ ht
    rw [Int.natAbs_ediv_of_dvd (Int.ofNat_dvd_left.mpr (Nat.gcd_dvd_left _ _))]
    exact Nat.div_le_self _ _
  · rw [mk_den t b h0]
    exact Nat.lt_of_le_of_lt (Nat.div_le_self _ _) hb
theorem add_mk (q r : Rat) : mkRat (q.num * r.den + r.num * q.den) (q.den * r.den) = q + r := by
  rw [Rat.add_def, Rat.normalize_eq_mkRat]
theorem mul_mk (q r : Rat) : mkRat (q.num * r.num) (q.den * r.den) = q * r := by
  rw [Rat.mul_def, Rat.normalize_eq_mkRat]
theorem sub_mk (q r : Rat) : mkRat (q.num * r.den - r.num * q.den) (q.den * r.den) = q - r := by
  rw [Rat.sub_eq_add_neg, ← add_mk, Rat.neg_num, Rat.neg_den, Int.neg_mul, ← Int.sub_eq_add_neg]
/-! ### names and texts -/
theorem ofString_inj {a b : String} : (Str.ofString a = Str.ofString b) = (a = b) := by
  refine propext ⟨fun h => ?_, fun h => by rw [h]⟩
  rw [Str.ofString_eq_toList, Str.ofString_eq_toList] at h
  have h1 : a.toList.map Char.toNat = b.toList.map Char.toNat := by simpa using h
  have h2 : a.toList = b.toList := by
    have inj : ∀ (x y : List Char), x.map Char.toNat = y.map Char.toNat → x = y := by
      intro x
      induction x with
      | nil => intro y e; cases y with
        | nil => rfl
        | cons c r => simp at e
      | cons c r ih => intro y e; cases y with
        | nil => simp at e
        | cons d t =>
          simp only [List.map_cons, List.cons.injEq] at e
          rw [ih t e.2]
          have : c = d := by
            apply Char.ext
            apply UInt32.toNat_inj.mp
            exact e.1
          rw [this]
    exact inj _ _ h1
  exact String.toList_inj.mp h2
theorem ofString_beq {a b : String} : (Str.ofString a == Str.ofString b) = decide (a = b) := by
  by_cases h : a = b
  · subst h
    simp
  · have : ¬ Str.ofString a = Str.ofString b := by
      rw [ofString_inj]
      exact h
    simp [this, h]
theorem lk_cons {k j : Str} {v : V} {r : List (Str × V)} : List.lookup k ((j, v) :: r) = if (k == j) = true then some v else List.lookup k r := by
  cases h : k == j
  · rw [lk_ne h]; simp
  · simp [List.lookup, h]
theorem pf_nil {k : Str} {v : V} : putF k v [] = [(k, v)] := rfl
theorem pf_cons {k j : Str} {v u : V} {r : List (Str × V)} : putF k v ((j, u) :: r) = if (k == j) = true then (k, v) :: r else (j, u) :: putF k v r := by
  cases h : k == j
  · rw [pf_ne h]; simp
  · have : k = j := by simpa using h
    subst this
    rw [pf_eq]
    simp
/-! ### what isinstance tells of ints -/
theorem isi_int {K : PySem.W.Frag} {H : Hp} {Q : VK} {n : Int} {T : String} {b : Bool} (h : kitB "int" T = some b) (q : Q (.bl b) H) : rIsi K [.int n, .ty T] H Q := ⟨_, _, _, _, _, rfl, .ty _, .base (.int _), kit_ty h, q⟩
theorem isi_inv {K : PySem.W.Frag} {H : Hp} {Q : VK} {n : Int} {T : String} {b : Bool} (hb : kitB "int" T = some b) : rIsi K [.int n, .ty T] H Q ↔ Q (.bl b) H := by
  refine ⟨fun h => ?_, isi_int hb⟩
  obtain ⟨x, c, t, u, b', e, hc, ht, hk, q⟩ := h
  simp only [List.cons.injEq, and_true] at e
  obtain ⟨rfl, rfl⟩ := e
  cases hc
  cases ht with
  | base h =>
    cases h
    have : PySem.W.kitOne K (.type "int") (.type T) = some b := kit_ty hb
    rw [this] at hk
    cases hk
    exact q
theorem isi_int_bool {K : PySem.W.Frag} {H : Hp} {Q : VK} {n : Int} : rIsi K [.int n, .ty "bool"] H Q ↔ Q (.bl false) H := isi_inv (by decide +kernel)
theorem isi_int_int {K : PySem.W.Frag} {H : Hp} {Q : VK} {n : Int} : rIsi K [.int n, .ty "int"] H Q ↔ Q (.bl true) H := isi_inv (by decide +kernel)
theorem isi_int_tuple {K : PySem.W.Frag} {H : Hp} {Q : VK} {n : Int} : rIsi K [.int n, .ty "tuple"] H Q ↔ Q (.bl false) H := isi_inv (by decide +kernel)
theorem isi_int_list {K : PySem.W.Frag} {H : Hp} {Q : VK} {n : Int} : rIsi K [.int n, .ty "list"] H Q ↔ Q (.bl false) H := isi_inv (by decide +kernel)
theorem isi_int_str {K : PySem.W.Frag} {H : Hp} {Q : VK} {n : Int} : rIsi K [.int n, .ty "str"] H Q ↔ Q (.bl false) H := isi_inv (by decide +kernel)
theorem scal_int {i j : Int} : scal (.int i) (.int j) = true := rfl
theorem scal_str {i j : Str} : scal (.str i) (.str j) = true := rfl
theorem scal_bl {i j : Bool} : scal (.bl i) (.bl j) = true := rfl
theorem sz_le {n : Nat} (h : n ≤ 100000) : n ≤ sizeLine := Nat.le_trans h (by decide)
theorem sz2 : (2 ≤ sizeLine) = True := eq_true (by decide)
theorem sz1 : (1 ≤ sizeLine) = True := eq_true (by decide)
theorem q0n : (0 : Rat).num = 0 := rfl
theorem q0d : ((0 : Rat).den : Int) = 1 := rfl

/-! ### a list comprehension whose element makes nothing -/
theorem wipe1 {σ : L2.St} {i : Nat} {x : Option V} : wipe ((wipe σ [i]).set i x) [i] = wipe σ [i] := by
  show ((σ.set i none).set i x).set i none = σ.set i none
  rw [List.set_set, List.set_set]
theorem stp_acc {H0 H : Hp} {D : Addr} {o : HO} (h : Stp [] H0 H) (hD : H0 D = none) (hn : ∀ xs, H D ≠ some (.tup xs)) : Stp [] H0 (upd H D o) := .of fun b u e => by
  rw [upd_ne (ne_of_none e hD)]
  exact h.same b u e
theorem lc_pure {K : PySem.W.Frag} {a : Addr} {xs : List V} {i : Nat} {te : TE} {σ : L2.St} {H0 H9 : Hp} {Q : VK} (f : V → V) (hx : SqL K H0 a xs) (hl : xs.length ≤ 100000)
    (he : ∀ x ∈ xs, ∀ (H : Hp) (Q' : VK), Stp [] H0 H → Q' (f x) H → te ((wipe σ [i]).set i (some x)) H Q')
    (k : ∀ D H', H0 D = none → Stp [] H0 H' → H' D = some (.lst (xs.map f)) → Q (.ref D) H') :
    tLc (fun _ _ R => R (Itl K a) H0) (gName i) tYes te [i] σ H9 Q := by
  intro D hD
  refine lc_list (K := K) (a := a) (xs := xs) (fun j H => Stp [] H0 H ∧ H D = some (.lst ((xs.take j).map f))) ⟨Stp.new hD, upd_same⟩ (fun j H _ h => ?_) (fun j x H hj h => ?_) (fun H h => ?_)
  · rcases hx with (q | ⟨o, q⟩) | q
    · exact .inl (.inl (h.1.same _ _ q))
    · exact .inl (.inr ⟨o, h.1.same _ _ q⟩)
    · exact .inr q
  · refine ⟨wipe1, ?_⟩
    simp only [tYes, reduceIte]
    have hm : x ∈ xs := List.mem_of_getElem? hj
    have hjl : j < xs.length := (List.getElem?_eq_some_iff.mp hj).1
    refine he x hm H _ h.1 ⟨(xs.take j).map f, h.2, ?_, ?_, ?_⟩
    · rw [List.length_map, List.length_take]
      exact Nat.lt_of_le_of_lt (Nat.min_le_right _ _) (Nat.lt_of_le_of_lt hl (by decide))
    · exact stp_acc h.1 hD (by rw [h.2]; intro ys z; cases z)
    · rw [upd_same, List.take_add_one, hj]
      simp
  · have h2 := h.2
    rw [List.take_length] at h2
    exact k D H hD h.1 h2

/-! ### o.f = e and o.f op= e, the heap behind told by what stands in it -/
def sFldA (K : PySem.W.Frag) (ta tv : TE) (f : Str) : TS := fun D σ H => tv σ H fun y H1 => ta σ H1 fun x H2 => ∃ a C dx fs, x = .ref a ∧ H2 a = some (.ins C dx fs) ∧ Cls K C ∧ NoAttr K C f ∧ fs.length < 1000 ∧
  ∀ H3, H3 a = some (.ins C dx (putF f y fs)) → Stp [a] H2 H3 → D.nx σ H3
def sFldAugA (K : PySem.W.Frag) (ta tv : TE) (rd : V → V → Hp → VK → Prop) (f : Str) : TS := fun D σ H => ta σ H fun x H1 => ∃ a C dx fs v, x = .ref a ∧ H1 a = some (.ins C dx fs) ∧ Cls K C ∧ NoAttr K C f ∧ fs.lookup f = some v ∧
  tv σ H1 fun y H2 => rd v y H2 fun z H3 => ∃ dx' fs', H3 a = some (.ins C dx' fs') ∧ fs'.length < 1000 ∧ ∀ H4, H4 a = some (.ins C dx' (putF f z fs')) → Stp [a] H3 H4 → D.nx σ H4
section
variable {X : Cx} {o value : Expr} {ta tv : TE} {f : Str} {pos pos' tpos : Pos}
theorem stp_ins {H : Hp} {a C dx : Addr} {fs gs : List (Str × V)} (h : H a = some (.ins C dx fs)) : Stp [a] H (upd H a (.ins C dx gs)) := Stp.put h fun xs z => nomatch z
theorem ps_fldA (ha : PE X o ta) (hv : PE X value tv) (hs : swapsWith value (some (.Attribute o f pos')) pos.line X.env = pure false := by rfl) : PS X (.Assign [.Attribute o f pos'] value pos) (sFldA X.K ta tv f) :=
  ⟨fun pins s σ H D I h => plainObj_wpAny_Assign_Attribute (thn (hv.run pins s σ H _ I h) fun u s1 ⟨y, H1, I1, ry, q⟩ => thn (ha.run pins s1 σ H1 _ I1 q) fun ov s2 ⟨x, H2, I2, rx, a, C, dx, fs, ex, ea, c, n, l, q2⟩ => by
    subst ex
    obtain rfl : ov = Value.ref a := rx
    exact setattr_ok I2 ea c n l ry fun s3 I3 => ⟨σ, _, I3, q2 _ upd_same (stp_ins ea)⟩) hs⟩
theorem ps_fldaugA {op : Operator} {rd : V → V → Hp → VK → Prop} (ha : PE X o ta) (hv : PE X value tv) (hop : InOp X op rd) : PS X (.AugAssign (.Attribute o f tpos) op value pos) (sFldAugA X.K ta tv rd f) :=
  ⟨fun pins s σ H D I h => wpAny_AugAssign_AttributeAny (thn (ha.run pins s σ H _ I h) fun ov s1 ⟨x, H1, I1, rx, a, C, dx, fs, v, ex, ea, c, n, l, q⟩ => by
    subst ex
    obtain rfl : ov = Value.ref a := rx
    refine getattr_ok I1 ea c n l fun u s2 I2 ru => thn (hv.run pins s2 σ H1 _ I2 q) fun u3 s3 ⟨y, H2, I3, ry, q3⟩ => thn (hop pins s3 σ H2 v y u u3 _ I3 ru ry q3) fun u4 s4 ⟨z, H3, I4, rz, dx', fs', ea', l', q4⟩ => ?_
    exact setattr_ok I4 ea' c n l' rz fun s5 I5 => ⟨σ, _, I5, q4 _ upd_same (stp_ins ea')⟩)⟩
end

theorem filt_take {α : Type} (p : α → Bool) (xs : List α) (j : Nat) {x : α} (h : xs[j]? = some x) : (xs.take (j + 1)).filter p = (xs.take j).filter p ++ if p x = true then [x] else [] := by
  rw [List.take_add_one, h, List.filter_append]
  congr 1
  show [x].filter p = _
  rw [List.filter_cons, List.filter_nil]
theorem lc_pureF {K : PySem.W.Frag} {a : Addr} {xs : List V} {i : Nat} {tt : TT} {te : TE} {σ : L2.St} {H0 H9 : Hp} {Q : VK} (p : V → Bool) (hx : SqL K H0 a xs) (hl : xs.length ≤ 100000)
    (ht : ∀ x ∈ xs, ∀ (H : Hp) (Q' : Bool → Hp → Prop), Stp [] H0 H → Q' (p x) H → tt ((wipe σ [i]).set i (some x)) H Q')
    (he : ∀ x ∈ xs, p x = true → ∀ (H : Hp) (Q' : VK), Stp [] H0 H → Q' x H → te ((wipe σ [i]).set i (some x)) H Q')
    (k : ∀ D H', H0 D = none → Stp [] H0 H' → H' D = some (.lst (xs.filter p)) → Q (.ref D) H') :
    tLc (fun _ _ R => R (Itl K a) H0) (gName i) tt te [i] σ H9 Q := by
  intro D hD
  refine lc_list (K := K) (a := a) (xs := xs) (fun j H => Stp [] H0 H ∧ H D = some (.lst ((xs.take j).filter p))) ⟨Stp.new hD, upd_same⟩ (fun j H _ h => ?_) (fun j x H hj h => ?_) (fun H h => ?_)
  · rcases hx with (q | ⟨o, q⟩) | q
    · exact .inl (.inl (h.1.same _ _ q))
    · exact .inl (.inr ⟨o, h.1.same _ _ q⟩)
    · exact .inr q
  · refine ⟨wipe1, ?_⟩
    have hm : x ∈ xs := List.mem_of_getElem? hj
    have ef := filt_take p xs j hj
    refine ht x hm H _ h.1 ?_
    cases e : p x with
    | false =>
      rw [if_neg (by simp)]
      rw [e] at ef
      refine ⟨h.1, ?_⟩
      rw [ef, h.2]
      simp
    | true =>
      rw [if_pos rfl]
      rw [e] at ef
      refine he x hm e H _ h.1 ⟨(xs.take j).filter p, h.2, ?_, ?_, ?_⟩
      · exact Nat.lt_of_le_of_lt (Nat.le_trans (List.length_filter_le _ _) (by rw [List.length_take]; exact Nat.le_trans (Nat.min_le_right _ _) hl)) (by decide)
      · exact stp_acc h.1 hD (by rw [h.2]; intro ys z; cases z)
      · rw [upd_same, ef]
        rfl
  · have h2 := h.2
    rw [List.take_length] at h2
    exact k D H hD h.1 h2

theorem lc_pureFv {K : PySem.W.Frag} {a : Addr} {xs : List V} {i j : Nat} {tt : TT} {te : TE} {σ : L2.St} {H0 : Hp} {Q : VK} (p : V → Bool) (hj : σ[j]? = some (some (.ref a))) (hx : SqL K H0 a xs) (hl : xs.length ≤ 100000)
    (ht : ∀ x ∈ xs, ∀ (H : Hp) (Q' : Bool → Hp → Prop), Stp [] H0 H → Q' (p x) H → tt ((wipe σ [i]).set i (some x)) H Q')
    (he : ∀ x ∈ xs, p x = true → ∀ (H : Hp) (Q' : VK), Stp [] H0 H → Q' x H → te ((wipe σ [i]).set i (some x)) H Q')
    (k : ∀ D H', H0 D = none → Stp [] H0 H' → H' D = some (.lst (xs.filter p)) → Q (.ref D) H') :
    tLc (iList K (tVar j)) (gName i) tt te [i] σ H0 Q := ⟨_, hj, a, rfl, ⟨_, hx⟩, lc_pureF (H9 := H0) (Q := Q) p hx hl ht he k⟩
theorem lc_pureV {K : PySem.W.Frag} {a : Addr} {xs : List V} {i j : Nat} {te : TE} {σ : L2.St} {H0 : Hp} {Q : VK} (f : V → V) (hj : σ[j]? = some (some (.ref a))) (hx : SqL K H0 a xs) (hl : xs.length ≤ 100000)
    (he : ∀ x ∈ xs, ∀ (H : Hp) (Q' : VK), Stp [] H0 H → Q' (f x) H → te ((wipe σ [i]).set i (some x)) H Q')
    (k : ∀ D H', H0 D = none → Stp [] H0 H' → H' D = some (.lst (xs.map f)) → Q (.ref D) H') :
    tLc (iList K (tVar j)) (gName i) tYes te [i] σ H0 Q := ⟨_, hj, a, rfl, ⟨_, hx⟩, lc_pure (H9 := H0) (Q := Q) f hx hl he k⟩
theorem lc_two {K : PySem.W.Frag} {a : Addr} {x y u w : V} {i : Nat} {te : TE} {σ : L2.St} {H0 H9 : Hp} {Q : VK} (hx : H0 a = some (.lst [x, y]))
    (h1 : ∀ (H : Hp) (Q' : VK), Stp [] H0 H → Q' u H → te ((wipe σ [i]).set i (some x)) H Q') (h2 : ∀ (H : Hp) (Q' : VK), Stp [] H0 H → Q' w H → te ((wipe σ [i]).set i (some y)) H Q')
    (k : ∀ D H', H0 D = none → Stp [] H0 H' → H' D = some (.lst [u, w]) → Q (.ref D) H') :
    tLc (fun _ _ R => R (Itl K a) H0) (gName i) tYes te [i] σ H9 Q := by
  intro D hD
  refine lc_list (K := K) (a := a) (xs := [x, y]) (fun j H => Stp [] H0 H ∧ H D = some (.lst (([u, w] : List V).take j))) ⟨Stp.new hD, upd_same⟩ (fun j H _ h => .inl (.inl (h.1.same _ _ hx))) (fun j z H hj h => ?_) (fun H h => ?_)
  · refine ⟨wipe1, ?_⟩
    simp only [tYes, reduceIte]
    match j, hj with
    | 0, hj =>
      cases Option.some.inj hj
      refine h1 H _ h.1 ⟨[], h.2, by decide, stp_acc h.1 hD (by rw [h.2]; intro ys z; cases z), ?_⟩
      rw [upd_same]
      rfl
    | 1, hj =>
      cases Option.some.inj hj
      refine h2 H _ h.1 ⟨[u], h.2, by show 1 < sizeLine; decide, stp_acc h.1 hD (by rw [h.2]; intro ys z; cases z), ?_⟩
      rw [upd_same]
      rfl
  · exact k D H hD h.1 h.2
theorem lc_twoM {K : PySem.W.Frag} {i : Nat} {tl te : TE} {σ : L2.St} {H : Hp} {Q : VK} (Pr : Addr → Hp → Prop) (htl : ∀ R : VK, (∀ p H', Pr p H' → R (.ref p) H') → tl σ H R)
    (h : ∀ p H', Pr p H' → ∃ x y u w : V, H' p = some (.lst [x, y]) ∧ (∀ (H2 : Hp) (Q' : VK), Stp [] H' H2 → Q' u H2 → te ((wipe σ [i]).set i (some x)) H2 Q') ∧ (∀ (H2 : Hp) (Q' : VK), Stp [] H' H2 → Q' w H2 → te ((wipe σ [i]).set i (some y)) H2 Q') ∧
      ∀ D H2, H' D = none → Stp [] H' H2 → H2 D = some (.lst [u, w]) → Q (.ref D) H2) :
    tLc (iList K tl) (gName i) tYes te [i] σ H Q := htl _ fun p H' hp => by
  obtain ⟨x, y, u, w, hl, h1, h2, k⟩ := h p H' hp
  exact ⟨p, rfl, ⟨_, .inl (.inl hl)⟩, lc_two (H9 := H) (Q := Q) hl h1 h2 k⟩
theorem lc_pureR {i j : Nat} {n : Int} {te : TE} {σ : L2.St} {H0 : Hp} {Q : VK} (f : Nat → V) (hj : σ[j]? = some (some (.int n))) (n0 : 0 ≤ n) (n1 : n ≤ 100000)
    (he : ∀ k : Nat, k < n.toNat → ∀ (H : Hp) (Q' : VK), Stp [] H0 H → Q' (f k) H → te ((wipe σ [i]).set i (some (.int (0 + (k : Int))))) H Q')
    (k : ∀ D H', H0 D = none → Stp [] H0 H' → H' D = some (.lst ((List.range n.toNat).map f)) → Q (.ref D) H') :
    tLc (iRng1 (tCons (tVar j) tNil)) (gName i) tYes te [i] σ H0 Q := by
  refine ⟨_, hj, n, rfl, by omega, by omega, fun D hD => lc_range (lo := 0) (n := n.toNat) (fun m H => Stp [] H0 H ∧ H D = some (.lst ((List.range m).map f))) ⟨Stp.new hD, upd_same⟩ (fun m H hm h => ?_) (fun H h => k D H hD h.1 h.2)⟩
  refine ⟨wipe1, ?_⟩
  simp only [tYes, reduceIte]
  refine he m hm H _ h.1 ⟨(List.range m).map f, h.2, ?_, ?_, ?_⟩
  · rw [List.length_map, List.length_range]
    exact Nat.lt_of_le_of_lt (show m ≤ 100000 by omega) (by decide)
  · exact stp_acc h.1 hD (by rw [h.2]; intro ys z; cases z)
  · rw [upd_same, List.range_succ, List.map_append]
    rfl
/-! the same over a tuple -/
theorem lc_pureT {K : PySem.W.Frag} {a : Addr} {xs : List V} {i : Nat} {te : TE} {σ : L2.St} {H0 H9 : Hp} {Q : VK} (f : V → V) (hx : H0 a = some (.tup xs)) (hl : xs.length ≤ 100000)
    (he : ∀ x ∈ xs, ∀ (H : Hp) (Q' : VK), Stp [] H0 H → Q' (f x) H → te ((wipe σ [i]).set i (some x)) H Q')
    (k : ∀ D H', H0 D = none → Stp [] H0 H' → H' D = some (.lst (xs.map f)) → Q (.ref D) H') :
    tLc (fun _ _ R => R (Itt K a) H0) (gName i) tYes te [i] σ H9 Q := by
  intro D hD
  refine lc_tup (K := K) (a := a) (xs := xs) (fun j H => Stp [] H0 H ∧ H D = some (.lst ((xs.take j).map f))) ⟨Stp.new hD, upd_same⟩ (fun j H _ h => .inl (.inl (h.1.same _ _ hx))) (fun j x H hj h => ?_) (fun H h => ?_)
  · refine ⟨wipe1, ?_⟩
    simp only [tYes, reduceIte]
    have hm : x ∈ xs := List.mem_of_getElem? hj
    refine he x hm H _ h.1 ⟨(xs.take j).map f, h.2, ?_, ?_, ?_⟩
    · rw [List.length_map, List.length_take]
      exact Nat.lt_of_le_of_lt (Nat.min_le_right _ _) (Nat.lt_of_le_of_lt hl (by decide))
    · exact stp_acc h.1 hD (by rw [h.2]; intro ys z; cases z)
    · rw [upd_same, List.take_add_one, hj]
      simp
  · have h2 := h.2
    rw [List.take_length] at h2
    exact k D H hD h.1 h2
theorem isi_tup {K : PySem.W.Frag} {H : Hp} {Q : VK} {t : Addr} {xs : List V} (h : H t = some (.tup xs)) (q : Q (.bl true) H) : rIsi K [.ref t, .ty "tuple"] H Q := ⟨_, _, _, _, _, rfl, .ty _, .base (.tup h), kit_ty (by decide +kernel), q⟩
theorem seq_st {K : PySem.W.Frag} {F : List Addr} {H H' : Hp} {a : Addr} {xs : List V} (h : SqL K H a xs) (s : Stp F H H') (n : a ∉ F) : SqL K H' a xs := by
  rcases h with (q | ⟨o, q⟩) | q
  · exact .inl (.inl (s.keep _ _ q n))
  · exact .inl (.inr ⟨o, s.keep _ _ q n⟩)
  · exact .inr q
end Mx

namespace Mx
open PySem L2 PyProof.Rows
/-! ### for i, x in enumerate(xs, start=z) -/
/-- the items of the list at a, each in a new pair with its number, from z on -/
def Itn (K : PySem.W.Frag) (a : Addr) (z : Int) : It where
  go := fun i H => ∃ (xs : List V) (x : V), SqL K H a xs ∧ xs[i]? = some x
  yld := fun i H v H' => ∃ T x, v = .ref T ∧ H T = none ∧ H' = upd H T (.tup [.int (z + (i : Nat)), x]) ∧ ∀ xs, SqL K H a xs → xs[i]? = some x
  stop := fun i H => ∃ xs : List V, SqL K H a xs ∧ xs.length = i
theorem turn_enumS {P : Program} {w : World} {K : PySem.W.Frag} {elts : List Expr} {kk : Nat} {tpos : Pos} (a e it : Addr) (z : Int) :
    Turn P w K (.Tuple elts kk tpos) (Itn K a z) [e, it] e (fun i h => (∃ old, IsEnum h e it (z + ((i : Nat) : Int)) old) ∧ h.IsListIter it a i ∧ e ≠ it ∧ a ≠ it ∧ a ≠ e) where
  mem := List.mem_cons_self
  obj := by
    rintro i h ⟨⟨old, he⟩, ⟨o, ho, hc, hd⟩, _⟩ b hb
    rcases List.mem_cons.mp hb with q | q
    · subst q
      exact ⟨_, he, fun v q => nomatch q⟩
    · rw [List.mem_singleton.mp q]
      exact ⟨o, ho, fun v q => by rw [hd] at q; cases q⟩
  keep := by
    rintro i h h' ⟨⟨old, he⟩, hi, hne⟩ k
    exact ⟨⟨old, k e List.mem_cons_self _ he⟩, hi.at fun o q => k it (List.mem_cons_of_mem _ List.mem_cons_self) o q, hne⟩
  item := by
    intro X hP hw hK hc i pins s σ H E I hf st hg
    subst hP hw hK
    obtain ⟨⟨old, he⟩, hit, hne, hai, hae⟩ := st
    obtain ⟨xs, x, hq, hx⟩ := hg
    obtain ⟨its, rv, p, hz⟩ := I.list hq
    obtain ⟨u, hu, ru⟩ := rv.get hx
    have hel : e < s.heap.objs.size := Heap.lt_size he
    have hil : it < s.heap.objs.size := by
      obtain ⟨_, q, _⟩ := hit
      exact Heap.lt_size q
    have hlt : i < its.length := (List.getElem?_eq_some_iff.mp hu).1
    have D := Draws.list (prog := X.prog) (w := X.w) (A := X.A.in1) (I.ok.hd hc) it a hai its.toArray
    refine wpAny_pyNext_enum_itemC D he ⟨hit, p.isList⟩ (by simpa using hlt) hne (by simp [hne, Ne.symm hae]) fun u' h' tk hu' ho hst hT hsz hk => ?_
    have hu2 : its[i]? = some u' := by simpa using hu'
    rw [hu] at hu2
    cases hu2
    refine ⟨_, rfl, wpAny_letOwnedTupleGo_enum (s := { s with heap := h', toks := tk + 1 }) ho fun h'' he' sb => ?_⟩
    have hT2 : h''.get? s.heap.objs.size = some { cls := .type "tuple", data := .seq #[.int (z + (i : Nat)) tk, u] } := (sb.2 _ (Nat.ne_of_gt hel)).trans hT
    have new : ObjOk X.prog X.w (upd H s.heap.objs.size (.tup [.int (z + (i : Nat)), x])) h'' s.heap.objs.size (.tup [.int (z + (i : Nat)), x]) :=
      ⟨by show 2 ≤ sizeLine; decide, [.int (z + (i : Nat)) tk, u], .cons ⟨_, rfl⟩ (.cons ru .nil), ⟨_, hT2, rfl, _, rfl⟩⟩
    have I1 : Inv X pins σ (upd H s.heap.objs.size (.tup [.int (z + (i : Nat)), x])) { s with heap := h'', toks := tk + 1 } :=
      I.turnedNew (ch := [e, it]) (fun b ob hb q => (sb.2 b (fun v => hb (by simp [v]))).trans (hk b ob (fun v => hb (by simp [v])) (fun v => hb (by simp [v])) q)) hf (Nat.le_refl _) new
    refine ⟨.ref s.heap.objs.size, _, I1, rfl, ⟨_, x, rfl, I.hok.fresh (Nat.le_refl _), rfl, fun ys hy => by rw [I.list_inj hy hq]; exact hx⟩, ⟨⟨u, ?_⟩, hst.1.at fun o q => (sb.2 it (Ne.symm hne)).trans q, hne, hai, hae⟩, fun b hb => ?_⟩
    · have e1 : z + ((i + 1 : Nat) : Int) = z + (i : Int) + 1 := by omega
      rw [e1]
      exact he'
    · have hb' : b < s.heap.objs.size := by
        rcases List.mem_cons.mp hb with q | q
        · rw [q]; exact hel
        · rw [List.mem_singleton.mp q]; exact hil
      rw [upd_ne (Nat.ne_of_lt hb')]
      exact (hf b hb).1
  done := by
    intro X hP hw hK hc i pins s σ H E I hf st hg
    subst hP hw hK
    obtain ⟨⟨old, he⟩, hit, hne, hai, hae⟩ := st
    obtain ⟨xs, hq, hx⟩ := hg
    obtain ⟨its, rv, p, hz⟩ := I.list hq
    obtain ⟨f0, f1, f2, f3, f4, f5⟩ := hf it (List.mem_cons_of_mem _ List.mem_cons_self)
    have hl := rv.length
    have D := Draws.list (prog := X.prog) (w := X.w) (A := X.A.in1) (I.ok.hd hc) it a hai its.toArray
    have hn : i = its.toArray.size := by
      show i = its.length
      omega
    exact wpAny_pyNext_enum_endD D he (by rw [← hn]; exact ⟨hit, p.isList⟩) fun h' eb => ⟨rfl, I.turned (t' := s.toks) (fun b o hb q => eb b o hb q) f0 f1 f3 f4 f5⟩
  self := by
    rintro A i s Q E ⟨⟨_, he⟩, _⟩ h
    exact wpAny_pyIter_enum he h
/-! ### the call with its start by name -/
theorem callWith_tyKw {M : Model} {A : Around} {E : Value → Shared → Prop} {s : Shared} {env : Env} {pos : Pos} {T : String} {e : Expr} {kw : Keyword} {Q : Value → Shared → Prop}
    (h : wpAny M A (spliced (backTo pos (starEach [e] env))) (fun vs s1 => wpAny M A (evalAll ((backToKw pos (keywordEach [kw] env)).map (·.2)))
      (fun kvs s2 => wpAny M A (call (.type T) vs (((backToKw pos (keywordEach [kw] env)).filterMap (·.1)).zip kvs)) Q E s2) E s1) E s)
    (he : backTo pos (starEach [e] env) = (false, eval e env) :: [])
    (hall : (backToKw pos (keywordEach [kw] env)).all (·.1.isSome) = true)
    (hkw : (backToKw pos (keywordEach [kw] env)).any (·.1.isNone) = false) :
    wpAny M A (callWith pos (.type T) [] (backTo pos (starEach [e] env)) (backToKw pos (keywordEach [kw] env))) Q E s := by
  rw [he] at h ⊢
  have h2 := evalArgs_kwB (f := .type T) (Q := fun a s1 => wpAny M A (call (.type T) ([] ++ a.pos) a.kw) Q E s1) hall h
  unfold callWith
  refine wpAny_bind (wpAny_holding (wpAny_mono h2 (fun a s1 h1 => wpAny_bind (wpAny_standAt ?_)) (fun _ _ x => x)))
  simp only [List.any_cons, List.any_nil, hkw, Bool.or_false]
  refine wpAny_bind (wpAny_pure ?_)
  exact wpAny_bind (wpAny_mono h1 (fun r s2 hr => wpAny_bind (wpAny_holding (wpAny_point (wpAny_pure hr)))) (fun _ _ x => x))
def iEnumS (K : PySem.W.Frag) (te tz : TE) : TI := fun σ H R => te σ H fun x H1 => tz σ H1 fun y H2 => ∃ a xs z, x = .ref a ∧ y = .int z ∧ SqL K H2 a xs ∧ -(2 ^ 63) ≤ z ∧ z < 2 ^ 63 ∧ R (Itn K a z) H2
theorem pi_enumS {X : Cx} {e ez : Expr} {te tz : TE} {p pos tpos kp : Pos} {elts : List Expr} {kk : Nat} (hg : Gl X "enumerate") (hm : X.mg "enumerate" = none) (he : PE X e te) (hz : PE X ez tz)
    (hs : starEach [e] X.env = [(false, eval e X.env)] := by rfl)
    (hc : eval (.Call (.Name "enumerate" p) [e] [⟨some "start", ez, kp⟩] pos) X.env = (do
      let f ← eval (.Name "enumerate" p) X.env
      callWith pos f [] (backTo pos (starEach [e] X.env)) (backToKw pos (keywordEach [⟨some "start", ez, kp⟩] X.env))) := by rfl) :
    PI X (.Tuple elts kk tpos) (.Call (.Name "enumerate" p) [e] [⟨some "start", ez, kp⟩] pos) (iEnumS X.K te tz) := by
  refine ⟨fun pins s σ H R I h => ?_⟩
  rw [hc]
  refine wpAny_bind (ld_blt I hg hm boot_enumerate ?_)
  refine callWith_tyKw ?_ (by rw [hs]; rfl) rfl rfl
  rw [hs]
  refine PySem.Calls.spliced_cons (thn (he.run pins s σ H _ I h) fun u s1 ⟨x, H1, I1, r1, q1⟩ => PySem.Calls.spliced_nil ?_)
  refine kws_cons (thn (hz.run pins s1 σ H1 _ I1 q1) fun zu s2 ⟨y, H2, I2, r2, q2⟩ => kws_nil ?_)
  obtain ⟨a, xs, z, ex, ey, hq, hz0, hz1, q⟩ := q2
  subst ex ey
  cases r1
  obtain ⟨t, rfl⟩ := r2
  obtain ⟨its, rv, p', hzz⟩ := I2.list hq
  show wpAny _ _ (call (.type "enumerate") [.ref a] [(Str.ofString "start", .int z t)]) _ _ s2
  refine enum_begins_start (begins_list a its.toArray) p'.isList hz0 hz1 fun h' hen hit hsz hk => wpAny_pyIter_enum hen ?_
  have I3 : Inv X pins σ H2 { s2 with heap := h' } := I2.kept (t' := s2.toks) hk
  have hal : a < s2.heap.objs.size := by
    obtain ⟨o, e, _⟩ := p'.isList
    exact Heap.lt_size e
  refine ⟨s2.heap.objs.size + 1, [s2.heap.objs.size + 1, s2.heap.objs.size], _, _, H2, rfl, I3, turn_enumS a (s2.heap.objs.size + 1) s2.heap.objs.size z,
    ⟨⟨.none, by simpa using hen⟩, ⟨_, hit, rfl, rfl⟩, Nat.succ_ne_self _, Nat.ne_of_lt hal, Nat.ne_of_lt (Nat.lt_succ_of_lt hal)⟩, fun b hb => ?_, q⟩
  have hle : s2.heap.objs.size ≤ b := by
    rcases List.mem_cons.mp hb with v | v
    · rw [v]; exact Nat.le_add_right _ _
    · rw [List.mem_singleton.mp v]; exact Nat.le_refl _
  exact I2.fpOk hle (I2.hok.fresh hle)
/-- such a loop, by what holds ahead of each turn -/
theorem for_enumS {K : PySem.W.Frag} {a : Addr} {z : Int} {xs : List V} {g : TG} {tb : TS} {D : Ends} {σ : L2.St} {H : Hp} (Pv : Nat → L2.St → Hp → Prop) (h0 : Pv 0 σ H) (hl : ∀ i σ H, i ≤ xs.length → Pv i σ H → SqL K H a xs)
    (hs : ∀ i x σ H T, xs[i]? = some x → Pv i σ H → H T = none → g (.ref T) σ (upd H T (.tup [.int (z + (i : Nat)), x])) fun σ2 H2 => tb { D with nx := Pv (i + 1), ct := Pv (i + 1), bk := D.nx } σ2 H2) (hd : ∀ σ H, Pv xs.length σ H → D.nx σ H) :
    ∃ W : Nat → Nat → L2.St → Hp → Prop, (∃ m, W 0 m σ H) ∧ ∀ i m σ H, W i m σ H →
      ((Itn K a z).stop i H ∧ D.nx σ H) ∨ ((Itn K a z).go i H ∧ ∃ N : L2.St → Hp → Prop, (∀ σ' H', N σ' H' → ∃ m', m' < m ∧ W (i + 1) m' σ' H') ∧ ∀ x H', (Itn K a z).yld i H x H' → g x σ H' fun σ2 H2 => tb { D with nx := N, ct := N, bk := D.nx } σ2 H2) := by
  refine ⟨fun i m σ H => m = xs.length - i ∧ i ≤ xs.length ∧ Pv i σ H, ⟨xs.length, by simp, Nat.zero_le _, h0⟩, ?_⟩
  rintro i m σ H ⟨rfl, hi, p⟩
  have q := hl i σ H hi p
  by_cases hlt : i < xs.length
  · refine .inr ⟨⟨xs, xs[i], q, by simp [hlt]⟩, Pv (i + 1), fun σ' H' p' => ⟨xs.length - (i + 1), by omega, rfl, hlt, p'⟩, ?_⟩
    rintro x H' ⟨T, y, rfl, hT, rfl, hy⟩
    exact hs i y σ H T (hy xs q) p hT
  · have e : i = xs.length := by omega
    subst e
    exact .inl ⟨⟨xs, q, rfl⟩, hd σ H p⟩
/-- the same from nothing on -/
theorem for_enum {K : PySem.W.Frag} {a : Addr} {xs : List V} {g : TG} {tb : TS} {D : Ends} {σ : L2.St} {H : Hp} (Pv : Nat → L2.St → Hp → Prop) (h0 : Pv 0 σ H) (hl : ∀ i σ H, i ≤ xs.length → Pv i σ H → SqL K H a xs)
    (hs : ∀ i x σ H T, xs[i]? = some x → Pv i σ H → H T = none → g (.ref T) σ (upd H T (.tup [.int (i : Nat), x])) fun σ2 H2 => tb { D with nx := Pv (i + 1), ct := Pv (i + 1), bk := D.nx } σ2 H2) (hd : ∀ σ H, Pv xs.length σ H → D.nx σ H) :
    ∃ W : Nat → Nat → L2.St → Hp → Prop, (∃ m, W 0 m σ H) ∧ ∀ i m σ H, W i m σ H →
      ((Ite K a).stop i H ∧ D.nx σ H) ∨ ((Ite K a).go i H ∧ ∃ N : L2.St → Hp → Prop, (∀ σ' H', N σ' H' → ∃ m', m' < m ∧ W (i + 1) m' σ' H') ∧ ∀ x H', (Ite K a).yld i H x H' → g x σ H' fun σ2 H2 => tb { D with nx := N, ct := N, bk := D.nx } σ2 H2) := by
  refine ⟨fun i m σ H => m = xs.length - i ∧ i ≤ xs.length ∧ Pv i σ H, ⟨xs.length, by simp, Nat.zero_le _, h0⟩, ?_⟩
  rintro i m σ H ⟨rfl, hi, p⟩
  have q := hl i σ H hi p
  by_cases hlt : i < xs.length
  · refine .inr ⟨⟨xs, xs[i], q, by simp [hlt]⟩, Pv (i + 1), fun σ' H' p' => ⟨xs.length - (i + 1), by omega, rfl, hlt, p'⟩, ?_⟩
    rintro x H' ⟨T, y, rfl, hT, rfl, hy⟩
    exact hs i y σ H T (hy xs q) p hT
  · have e : i = xs.length := by omega
    subst e
    exact .inl ⟨⟨xs, q, Nat.le_refl _⟩, hd σ H p⟩
end Mx

namespace Mx
open PySem L2
section
variable {X : Cx}
/-- d.update(another dict) -/
def rUpdD : V → List V → Hp → VK → Prop := fun x xs H Q => ∃ (d a : Addr) (acc kvs : List (Key × V)), x = .ref d ∧ xs = [.ref a] ∧ d ≠ a ∧ H d = some (.dK acc) ∧ H a = some (.dK kvs) ∧ acc.length + kvs.length ≤ sizeLine ∧ Q .non (upd H d (.dK (mergeK acc kvs)))
theorem mt_updD : MtR X "dict.update" rUpdD := by
  intro pins s σ H x xs v us Q I rx rxs h
  obtain ⟨d, a, acc, kvs, rfl, rfl, hne, hd, ha, hsz, q⟩ := h
  cases rx
  obtain ⟨u, rfl, ru⟩ := rxs.one
  cases ru
  obtain ⟨z, hsys, vs, rd, dd⟩ := dk_of I.hok hd
  obtain ⟨z2, hsys2, vs2, rd2, dd2⟩ := dk_of I.hok ha
  have hT : s.TypeIs (.ref d) "dict" := dd.typeIs
  refine call_meetsIn PySem.F.slot_dict_update hT PySem.F.entry_dict_update (PySem.F.args_dict_update_2 _ _) (PySem.meets_dict_update (mixKind X.prog X.w) d a hne hsys2) ⟨vs, vs2, dd, dd2, ?_, fun h' hd' ha' hs => ?_⟩
  · have e1 := rd.length
    have e2 := rd2.length
    omega
  · have hl : (mergeK acc kvs).length ≤ sizeLine := Nat.le_trans (length_mergeK kvs acc) hsz
    have he : ∃ q, h'.get? d = some q := let ⟨q, _, _, hq, _⟩ := hd'; ⟨q, hq⟩
    exact ⟨.non, upd H d (.dK (mergeK acc kvs)), I.write (x := d) (e := d) (t' := s.toks) (by rw [hd]; exact True.intro) (.inl rfl) (fun b u hb hu => (hs.2 b hb).trans hu) he (dk_new hl hsys (rd2.merge rd) hd'), rfl, q⟩
end
end Mx

namespace Mx
open PySem L2
def top (i : Nat) : Stmt := PySem.Challenge.pw_mixserver_k04_whole_a_mix_is_the_sum.main.body.getD i (.Pass ⟨0, 0, 0, 0⟩)
abbrev s_is_whole : Stmt := top 13
abbrev s_check_soft : Stmt := top 14
abbrev s_check_name : Stmt := top 15
abbrev s_check_pace : Stmt := top 16
abbrev s_check_wait : Stmt := top 17
abbrev s_check_loudness : Stmt := top 18
abbrev s_check_lead : Stmt := top 19
abbrev s_ratio : Stmt := top 22
abbrev s_plus : Stmt := top 23
abbrev s_minus : Stmt := top 24
abbrev s_times : Stmt := top 25
abbrev s_spot : Stmt := top 27
abbrev s_wanted : Stmt := top 28
abbrev s_Line_init : Stmt := inClass (top 31) 0
abbrev s_Line_take : Stmt := inClass (top 31) 1
abbrev s_Line_close : Stmt := inClass (top 31) 2
abbrev s_Line_room : Stmt := inClass (top 31) 3
abbrev s_Line_begun : Stmt := inClass (top 31) 4
abbrev s_Line_wants : Stmt := inClass (top 31) 5
abbrev s_Line_over : Stmt := inClass (top 31) 6
abbrev s_Line_lacks : Stmt := inClass (top 31) 7
abbrev s_Line_ready : Stmt := inClass (top 31) 8
abbrev s_Line_value : Stmt := inClass (top 31) 9
abbrev s_Loudness_init : Stmt := inClass (top 34) 0
abbrev s_Loudness_lead_to : Stmt := inClass (top 34) 1
abbrev s_Loudness_lead_on : Stmt := inClass (top 34) 2
abbrev s_Voice_init : Stmt := inClass (top 40) 0
abbrev s_Voice_give : Stmt := inClass (top 40) 1
abbrev s_Voice_sound : Stmt := inClass (top 40) 2
abbrev s_Voice_rise : Stmt := inClass (top 40) 3
abbrev s_Voice_begin_fall : Stmt := inClass (top 40) 4
abbrev s_Voice_fall : Stmt := inClass (top 40) 5
abbrev s_Mixer_init : Stmt := inClass (top 42) 0
abbrev s_Mixer_add : Stmt := inClass (top 42) 1
abbrev s_Mixer_parcel : Stmt := inClass (top 42) 2
abbrev s_Mixer_end : Stmt := inClass (top 42) 3
abbrev s_Mixer_lead : Stmt := inClass (top 42) 4
abbrev s_Mixer_hush : Stmt := inClass (top 42) 5
abbrev s_Mixer_wake : Stmt := inClass (top 42) 6
abbrev s_Mixer_beat : Stmt := inClass (top 42) 7
abbrev s_Mixer_now : Stmt := inClass (top 42) 8
abbrev s_Mixer_missed : Stmt := inClass (top 42) 9
abbrev s_Mixer_states : Stmt := inClass (top 42) 10
abbrev s_Mixer_state_of : Stmt := inClass (top 42) 11
abbrev s_Mixer_voice_of : Stmt := inClass (top 42) 12
abbrev s_law_taken : Stmt := top 44
abbrev s_law_alike : Stmt := top 45
abbrev s_law_share : Stmt := top 46
abbrev s_law_plus : Stmt := top 47
abbrev s_law_times : Stmt := top 48
abbrev s_law_places : Stmt := top 49
abbrev s_law_is_over : Stmt := top 50
abbrev s_law_lacks : Stmt := top 51
abbrev s_law_value : Stmt := top 52
abbrev s_law_may : Stmt := top 53
abbrev s_law_led : Stmt := top 54
abbrev s_law_sound : Stmt := top 55
abbrev s_law_mixer : Stmt := top 56
abbrev s_law_beat : Stmt := top 57
abbrev s_law_do : Stmt := top 58
abbrev s_law_use : Stmt := top 59
abbrev s_law_number : Stmt := top 60
abbrev s_law_pace : Stmt := top 61
abbrev s_law_loud : Stmt := top 62
abbrev s_law_added : Stmt := top 63
abbrev s_law_parcel : Stmt := top 64
abbrev s_law_deed : Stmt := top 65
abbrev s_law : Stmt := top 66
end Mx

namespace Mx
open PySem L2
set_option hygiene false in
local macro_rules | `(tactic| walk_at "rd") => `(tactic| try simp only [L2.start, List.map_cons, List.map_nil, List.length_cons, List.length_nil, Nat.reduceAdd, Nat.reduceSub, Nat.reduceLT, Nat.reduceLeDiff, List.replicate_succ, List.replicate_zero, List.append_nil, List.nil_append, List.cons_append, List.set_cons_zero, List.set_cons_succ, List.getElem?_cons_zero, List.getElem?_cons_succ,
  Option.some.injEq, List.cons.injEq, and_true, true_and, and_assoc, reduceCtorEq, L2.V.int.injEq, L2.V.ref.injEq, L2.V.bl.injEq, L2.V.str.injEq, L2.V.ty.injEq, L2.HO.ins.injEq, L2.HO.lst.injEq, L2.HO.tup.injEq, L2.HO.dK.injEq, exists_eq_left', exists_eq_left, exists_eq_right, exists_eq', exists_eq, exists_and_left, exists_and_right, reduceIte, Bool.false_eq_true, Bool.not_true, Bool.not_false,
  L2.tSeq, L2.tIfS, L2.tRet, L2.tRetN, L2.tNext, L2.tAsg, L2.gName, L2.tVar, L2.tC, L2.tCons, L2.tNil, L2.tCB, L2.tOp, L2.tUn, L2.tTup, L2.tLst, L2.tB, L2.tOr, L2.tAnd, L2.tNot, L2.tAndV, L2.tOrV, L2.tNotV, L2.tIf, L2.tTest, L2.tChain, L2.rI, L2.rI0, L2.rU, L2.tDrop, L2.tNever, L2.tCall, L2.tMeth, L2.tMake, L2.rGcd, L2.tFld, L2.sFld, L2.sFldAug, Mx.sFldA, Mx.sFldAugA, L2.rAdd, L2.rSub, L2.rEq, L2.rNe, L2.tDGet, L2.tDIn, L2.tDNotIn, L2.sDPut,
  Mx.isi_int_bool, Mx.isi_int_int, Mx.isi_int_tuple, Mx.isi_int_list, Mx.isi_int_str, Mx.scal_int, Mx.scal_str, Mx.scal_bl, Mx.ofString_inj, Mx.ofString_beq, Mx.lk_cons, Mx.pf_nil, Mx.pf_cons, Mx.sz1, Mx.sz2, List.lookup_nil, String.reduceEq, decide_true, decide_false, decide_eq_true_eq, Int.natAbs_natCast, L2.upd_same, L2.upd_upd, L2.cxOf])
set_option hygiene false in
local macro_rules | `(tactic| walk_at "rds") => `(tactic| try simp only [L2.start, List.map_cons, List.map_nil, List.length_cons, List.length_nil, Nat.reduceAdd, Nat.reduceSub, Nat.reduceLT, Nat.reduceLeDiff, List.replicate_succ, List.replicate_zero, List.append_nil, List.nil_append, List.cons_append, List.set_cons_zero, List.set_cons_succ, List.getElem?_cons_zero, List.getElem?_cons_succ,
  Option.some.injEq, List.cons.injEq, and_true, true_and, and_assoc, reduceCtorEq, L2.V.int.injEq, L2.V.ref.injEq, L2.V.bl.injEq, L2.V.str.injEq, L2.V.ty.injEq, L2.HO.ins.injEq, L2.HO.lst.injEq, L2.HO.tup.injEq, L2.HO.dK.injEq, exists_eq_left', exists_eq_left, exists_eq_right, exists_eq', exists_eq, exists_and_left, exists_and_right, reduceIte, Bool.false_eq_true, Bool.not_true, Bool.not_false,
  L2.tSeq, L2.tIfS, L2.tRet, L2.tRetN, L2.tNext, L2.tAsg, L2.gName, L2.tVar, L2.tC, L2.tCons, L2.tNil, L2.tCB, L2.tOp, L2.tUn, L2.tTup, L2.tLst, L2.tB, L2.tOr, L2.tAnd, L2.tNot, L2.tAndV, L2.tOrV, L2.tNotV, L2.tIf, L2.tTest, L2.tChain, L2.rI, L2.rI0, L2.rU, L2.tDrop, L2.tNever, L2.tCall, L2.tMeth, L2.tMake, L2.rGcd, L2.tFld, L2.sFld, L2.sFldAug, Mx.sFldA, Mx.sFldAugA, L2.rAdd, L2.rSub, L2.rEq, L2.rNe, L2.tDGet, L2.tDIn, L2.tDNotIn, L2.sDPut,
  Mx.isi_int_bool, Mx.isi_int_int, Mx.isi_int_tuple, Mx.isi_int_list, Mx.isi_int_str, Mx.scal_int, Mx.scal_str, Mx.scal_bl, Mx.ofString_inj, Mx.ofString_beq, Mx.lk_cons, Mx.pf_nil, Mx.pf_cons, Mx.sz1, Mx.sz2, List.lookup_nil, String.reduceEq, decide_true, decide_false, decide_eq_true_eq, Int.natAbs_natCast, L2.upd_same, L2.upd_upd, L2.cxOf, *])

/-- the built-in names that the program leaves as they are -/
structure Blt (mg : Str → Option Value) : Prop where
  isi : mg "isinstance" = none
  bool : mg "bool" = none
  int : mg "int" = none
  tuple : mg "tuple" = none
  len : mg "len" = none
  all : mg "all" = none
  any : mg "any" = none
  max : mg "max" = none
  divmod : mg "divmod" = none
  enumerate : mg "enumerate" = none
  sorted : mg "sorted" = none
  list : mg "list" = none
  range : mg "range" = none
  abs : mg "abs" = none
  str : mg "str" = none
  gcd : mg "gcd" = some (.builtin "math.gcd")
section
variable {P : Program} {w : World} {K : PySem.W.Frag} {mg : Str → Option Value} {base : Heap}
/-! ### a name that is a built-in class, as a value -/
section
variable {X : Cx} {e1 e2 : Expr} {t1 t2 : TE} {p pos : Pos}
theorem b_isi {T : String} {x : Str} {q : Pos} (B : Blt X.mg) (h1 : PE X e1 t1) (h : X.mg x = none) (hb : bootBuiltins x = some (.type T)) (hx : x ≠ "__name__" := by decide) (hd : (x == ("__debug__" : Str)) = false := by decide) (hg : Gl X "isinstance" := by rfl) (hg2 : Gl X x := by rfl)
    (he : starEach [e1, .Name x q] X.env = (false, eval e1 X.env) :: starEach [.Name x q] X.env := by rfl)
    (he2 : starEach [.Name x q] X.env = (false, eval (.Name x q) X.env) :: starEach [] X.env := by rfl)
    (hpl : (backTo pos (starEach [.Name x q] X.env)).any (·.1) = false := by rfl) :
    PE X (.Call (.Name "isinstance" p) [e1, .Name x q] [] pos) (tCB (rIsi X.K) (tCons t1 (tCons (tC (.ty T)) tNil))) :=
  pe_callB call_isi hg B.isi PyProof.Rows.boot_isinstance (pa_cons h1 (pa_cons (pe_bltn (v := .ty T) hg2 h hb rfl hx hd) pa_nil he2) he) (he := he) (hpl := hpl)
end

/-! ### is_whole -/
def sp_is_whole : Sp := fun vs H Q _ => ∃ (n lo hi : Int), vs = [.int n, .int lo, .int hi] ∧ Q (.bl (decide (lo ≤ n ∧ n ≤ hi))) H
theorem sc_is_whole : FnScope ["number", "low", "high"] ["number", "low", "high"] (defScope s_is_whole) := ⟨rfl, rfl, rfl, by decide +kernel, rfl, by decide +kernel, by decide +kernel⟩
theorem ok_is_whole {f : Addr} {fd : FuncData} (F : Fun K "is_whole" "is_whole" s_is_whole f fd) (B : Blt mg) : FnOk P w K mg base CX0 1 f fd ["number", "low", "high"] sp_is_whole := by
  refine F.ok sc_is_whole (fun vs H Q E h => ?_) (fun cdv A outer s H vs Q E hr h => ?_)
  · obtain ⟨n, lo, hi, rfl, _⟩ := h
    rfl
  · obtain ⟨n, lo, hi, rfl, k⟩ := h
    refine ⟨_, pss_cons (ps_if (PW.pt (pw_or (pt_val (b_isi B (pv 0) B.bool PyProof.Rows.boot_bool)) (pw_or1 (pt_not (pt_val (b_isi B (pv 0) B.int PyProof.Rows.boot_int))))))
        (pss_one (ps_ret pe_bl)) pss_nil)
      (pss_one (ps_ret (pe_chain op_le op_le (pv 1) (pv 0) (pv 2)))), ?_⟩
    walk_at "rd"
    by_cases h1 : lo ≤ n
    · rw [if_pos h1]
      rw [show (decide (n ≤ hi)) = decide (lo ≤ n ∧ n ≤ hi) from by simp [h1]]
      exact k
    · rw [if_neg (by simpa using h1)]
      rw [show (false) = decide (lo ≤ n ∧ n ≤ hi) from by simp [h1]]
      exact k

/-! ### ratio, plus, times, minus -/
def frac (q : Rat) : List V := [.int q.num, .int (q.den : Int)]
def sp_ratio : Sp := fun vs H Q _ => ∃ (t b : Int), vs = [.int t, .int b] ∧ 0 < b ∧ b.natAbs < 2 ^ 9000 ∧
  ∀ p H', H p = none → Stp [] H H' → H' p = some (.tup (frac (mkRat t b.toNat))) → Q (.ref p) H'
theorem sc_ratio : FnScope ["top", "bottom", "shared"] ["top", "bottom"] (defScope s_ratio) := ⟨rfl, rfl, rfl, by decide +kernel, rfl, by decide +kernel, by decide +kernel⟩
theorem ok_ratio {f : Addr} {fd : FuncData} (F : Fun K "ratio" "ratio" s_ratio f fd) (B : Blt mg) : FnOk P w K mg base CX0 1 f fd ["top", "bottom"] sp_ratio := by
  refine F.ok sc_ratio (fun vs H Q E h => ?_) (fun cdv A outer s H vs Q E hr h => ?_)
  · obtain ⟨t, b, rfl, _⟩ := h
    rfl
  · obtain ⟨t, b', rfl, h0', hb, k⟩ := h
    obtain ⟨b, rfl⟩ : ∃ b : Nat, b' = b := ⟨b'.toNat, by omega⟩
    have h0 : 0 < b := by omega
    rw [Int.natAbs_natCast] at hb
    rw [Int.toNat_natCast] at k
    refine ⟨_, pss_cons (ps_set (i := 2) sc_ratio.nd rfl (Or.inl rfl) (pe_callBfun cr_gcd (by rfl) B.gcd (pa_cons (pv 0) (pa_cons (pv 1) pa_nil))))
      (pss_one (ps_ret (pe_tup (pa_cons (pe_op op_fdivW (pv 0) (pv 2)) (pa_cons (pe_op op_fdivW (pv 1) (pv 2)) pa_nil))))), ?_⟩
    have hgp : 0 < Nat.gcd t.natAbs b := Nat.gcd_pos_of_pos_right _ h0
    have hgd : CDivW t ((Nat.gcd t.natAbs b : Nat) : Int) := wide_div (b := 9000) (by omega) (by rw [Int.natAbs_natCast]; exact Nat.lt_of_le_of_lt (Nat.gcd_le_right _ h0) hb) (by decide) (by decide)
    walk_at "rd"
    refine ⟨hgd, ⟨hgd.1, hgd.2⟩, fun p hp => k p _ hp (Stp.new hp) ?_⟩
    unfold frac
    rw [mk_num t b h0, mk_den t b h0]
    exact upd_same
/-- of two fractions a third: a new tuple -/
def sp_two (g : Rat → Rat → Rat) (K : PySem.W.Frag) : Sp := fun vs H Q _ => ∃ (a b : Addr) (q r : Rat) (n m : Nat), vs = [.ref a, .ref b] ∧ TupAt K H a (frac q) ∧ TupAt K H b (frac r) ∧ Rb n q ∧ Rb m r ∧ n + m < 9000 ∧ 0 < n ∧ 0 < m ∧
  ∀ p H', H p = none → Stp [] H H' → H' p = some (.tup (frac (g q r))) → Q (.ref p) H'
theorem at0 {x : V} {r : List V} : atI (x :: r) 0 = some x := by
  show ((if (0 : Int) ≤ 0 then (if (0 : Int) < ((r.length + 1 : Nat) : Int) then some (0 : Int).toNat else none) else _ : Option Nat)).bind _ = _
  rw [if_pos (by decide), if_pos (by omega)]
  rfl
theorem at1 {x y : V} {r : List V} : atI (x :: y :: r) 1 = some y := by
  show ((if (0 : Int) ≤ 1 then (if (1 : Int) < ((r.length + 1 + 1 : Nat) : Int) then some (1 : Int).toNat else none) else _ : Option Nat)).bind _ = _
  rw [if_pos (by decide), if_pos (by omega)]
  rfl
theorem ixT_0 {H : Hp} {a : Addr} {x : V} {r : List V} {Q : VK} (h : TupAt K H a (x :: r)) (q : Q x H) : rIxT K (.ref a) (.int 0) H Q := ⟨a, _, 0, x, rfl, rfl, h.sq, at0, q⟩
theorem ixT_1 {H : Hp} {a : Addr} {x y : V} {r : List V} {Q : VK} (h : TupAt K H a (x :: y :: r)) (q : Q y H) : rIxT K (.ref a) (.int 1) H Q := ⟨a, _, 1, y, rfl, rfl, h.sq, at1, q⟩
theorem sc_plus : FnScope ["one", "other"] ["one", "other"] (defScope s_plus) := ⟨rfl, rfl, rfl, by decide +kernel, rfl, by decide +kernel, by decide +kernel⟩
theorem ok_plus {f : Addr} {fd : FuncData} (F : Fun K "plus" "plus" s_plus f fd) (G : OwnF P w K mg base "ratio" 1 ["top", "bottom"] sp_ratio) : FnOk P w K mg base CX0 2 f fd ["one", "other"] (sp_two (· + ·) K) := by
  refine F.ok sc_plus (fun vs H Q E h => ?_) (fun cdv A outer s H vs Q E hr h => ?_)
  · obtain ⟨a, b, q, r, n, m, rfl, _⟩ := h
    rfl
  · obtain ⟨a, b, q, r, n, m, rfl, ha, hb, hn, hm, hl, hn0, hm0, k⟩ := h
    refine ⟨_, pss_one (ps_ret (p_call G hr (pa_cons (pe_op op_add (pe_op op_mulW (pe_ix ix_tup (pv 0) pe_int (fun _ _ => rfl)) (pe_ix ix_tup (pv 1) pe_int (fun _ _ => rfl))) (pe_op op_mulW (pe_ix ix_tup (pv 1) pe_int (fun _ _ => rfl)) (pe_ix ix_tup (pv 0) pe_int (fun _ _ => rfl))))
      (pa_cons (pe_op op_mulW (pe_ix ix_tup (pv 0) pe_int (fun _ _ => rfl)) (pe_ix ix_tup (pv 1) pe_int (fun _ _ => rfl))) pa_nil)))), ?_⟩
    walk_at "rd"
    have e1 : 2 ^ n * 2 ^ m = 2 ^ (n + m) := (Nat.pow_add 2 n m).symm
    refine ixT_0 ha (ixT_1 hb ⟨_, rfl, _, rfl, wide_mul hn.num (by simpa using hm.den) hn0 hm0 (by omega), ixT_0 hb (ixT_1 ha ⟨_, rfl, _, rfl, wide_mul hm.num (by simpa using hn.den) hm0 hn0 (by omega), ixT_1 ha (ixT_1 hb ⟨_, rfl, _, rfl, wide_mul (by simpa using hn.den) (by simpa using hm.den) hn0 hm0 (by omega), ?_⟩)⟩)⟩)
    have hd : (q.den : Int) * (r.den : Int) = ((q.den * r.den : Nat) : Int) := by simp
    refine ⟨_, _, rfl, ?_, ?_, fun p H' hp hs hl' => k p H' hp hs ?_⟩
    · rw [hd]
      have := Nat.mul_pos q.den_pos r.den_pos
      omega
    · rw [hd, Int.natAbs_natCast]
      exact Nat.lt_of_lt_of_le (Nat.mul_lt_mul'' hn.den hm.den) (by rw [e1]; exact Nat.pow_le_pow_right (by decide) (by omega))
    · rw [hd, Int.toNat_natCast, add_mk] at hl'
      exact hl'
theorem sc_times : FnScope ["one", "other"] ["one", "other"] (defScope s_times) := ⟨rfl, rfl, rfl, by decide +kernel, rfl, by decide +kernel, by decide +kernel⟩
theorem ok_times {f : Addr} {fd : FuncData} (F : Fun K "times" "times" s_times f fd) (G : OwnF P w K mg base "ratio" 1 ["top", "bottom"] sp_ratio) : FnOk P w K mg base CX0 2 f fd ["one", "other"] (sp_two (· * ·) K) := by
  refine F.ok sc_times (fun vs H Q E h => ?_) (fun cdv A outer s H vs Q E hr h => ?_)
  · obtain ⟨a, b, q, r, n, m, rfl, _⟩ := h
    rfl
  · obtain ⟨a, b, q, r, n, m, rfl, ha, hb, hn, hm, hl, hn0, hm0, k⟩ := h
    refine ⟨_, pss_one (ps_ret (p_call G hr (pa_cons (pe_op op_mulW (pe_ix ix_tup (pv 0) pe_int (fun _ _ => rfl)) (pe_ix ix_tup (pv 1) pe_int (fun _ _ => rfl)))
      (pa_cons (pe_op op_mulW (pe_ix ix_tup (pv 0) pe_int (fun _ _ => rfl)) (pe_ix ix_tup (pv 1) pe_int (fun _ _ => rfl))) pa_nil)))), ?_⟩
    walk_at "rd"
    have e1 : 2 ^ n * 2 ^ m = 2 ^ (n + m) := (Nat.pow_add 2 n m).symm
    refine ixT_0 ha (ixT_0 hb ⟨_, rfl, _, rfl, wide_mul hn.num hm.num hn0 hm0 (by omega), ixT_1 ha (ixT_1 hb ⟨_, rfl, _, rfl, wide_mul (by simpa using hn.den) (by simpa using hm.den) hn0 hm0 (by omega), ?_⟩)⟩)
    have hd : (q.den : Int) * (r.den : Int) = ((q.den * r.den : Nat) : Int) := by simp
    refine ⟨_, _, rfl, ?_, ?_, fun p H' hp hs hl' => k p H' hp hs ?_⟩
    · rw [hd]
      have := Nat.mul_pos q.den_pos r.den_pos
      omega
    · rw [hd, Int.natAbs_natCast]
      exact Nat.lt_of_lt_of_le (Nat.mul_lt_mul'' hn.den hm.den) (by rw [e1]; exact Nat.pow_le_pow_right (by decide) (by omega))
    · rw [hd, Int.toNat_natCast, mul_mk] at hl'
      exact hl'
end
end Mx

namespace Mx
open PySem L2
set_option hygiene false in
local macro_rules | `(tactic| walk_at "rd") => `(tactic| try simp only [L2.start, List.map_cons, List.map_nil, List.length_cons, List.length_nil, Nat.reduceAdd, Nat.reduceSub, Nat.reduceLT, Nat.reduceLeDiff, List.replicate_succ, List.replicate_zero, List.append_nil, List.nil_append, List.cons_append, List.set_cons_zero, List.set_cons_succ, List.getElem?_cons_zero, List.getElem?_cons_succ,
  Option.some.injEq, List.cons.injEq, and_true, true_and, and_assoc, reduceCtorEq, L2.V.int.injEq, L2.V.ref.injEq, L2.V.bl.injEq, L2.V.str.injEq, L2.V.ty.injEq, L2.HO.ins.injEq, L2.HO.lst.injEq, L2.HO.tup.injEq, L2.HO.dK.injEq, exists_eq_left', exists_eq_left, exists_eq_right, exists_eq', exists_eq, exists_and_left, exists_and_right, reduceIte, Bool.false_eq_true, Bool.not_true, Bool.not_false,
  L2.tSeq, L2.tIfS, L2.tRet, L2.tRetN, L2.tNext, L2.tAsg, L2.gName, L2.tVar, L2.tC, L2.tCons, L2.tNil, L2.tCB, L2.tOp, L2.tUn, L2.tTup, L2.tLst, L2.tB, L2.tOr, L2.tAnd, L2.tNot, L2.tAndV, L2.tOrV, L2.tNotV, L2.tIf, L2.tTest, L2.tChain, L2.rI, L2.rI0, L2.rU, L2.tDrop, L2.tNever, L2.tCall, L2.tMeth, L2.tMake, L2.rGcd, L2.tFld, L2.sFld, L2.sFldAug, Mx.sFldA, Mx.sFldAugA, L2.rAdd, L2.rSub, L2.rEq, L2.rNe, L2.tDGet, L2.tDIn, L2.tDNotIn, L2.sDPut,
  Mx.isi_int_bool, Mx.isi_int_int, Mx.isi_int_tuple, Mx.isi_int_list, Mx.isi_int_str, Mx.scal_int, Mx.scal_str, Mx.scal_bl, Mx.ofString_inj, Mx.ofString_beq, Mx.lk_cons, Mx.pf_nil, Mx.pf_cons, Mx.sz1, Mx.sz2, List.lookup_nil, String.reduceEq, decide_true, decide_false, decide_eq_true_eq, Int.natAbs_natCast, L2.upd_same, L2.upd_upd, L2.cxOf, L2.gCons, L2.gNil])
set_option hygiene false in
local macro_rules | `(tactic| walk_at "rds") => `(tactic| try simp only [L2.start, List.map_cons, List.map_nil, List.length_cons, List.length_nil, Nat.reduceAdd, Nat.reduceSub, Nat.reduceLT, Nat.reduceLeDiff, List.replicate_succ, List.replicate_zero, List.append_nil, List.nil_append, List.cons_append, List.set_cons_zero, List.set_cons_succ, List.getElem?_cons_zero, List.getElem?_cons_succ,
  Option.some.injEq, List.cons.injEq, and_true, true_and, and_assoc, reduceCtorEq, L2.V.int.injEq, L2.V.ref.injEq, L2.V.bl.injEq, L2.V.str.injEq, L2.V.ty.injEq, L2.HO.ins.injEq, L2.HO.lst.injEq, L2.HO.tup.injEq, L2.HO.dK.injEq, exists_eq_left', exists_eq_left, exists_eq_right, exists_eq', exists_eq, exists_and_left, exists_and_right, reduceIte, Bool.false_eq_true, Bool.not_true, Bool.not_false,
  L2.tSeq, L2.tIfS, L2.tRet, L2.tRetN, L2.tNext, L2.tAsg, L2.gName, L2.tVar, L2.tC, L2.tCons, L2.tNil, L2.tCB, L2.tOp, L2.tUn, L2.tTup, L2.tLst, L2.tB, L2.tOr, L2.tAnd, L2.tNot, L2.tAndV, L2.tOrV, L2.tNotV, L2.tIf, L2.tTest, L2.tChain, L2.rI, L2.rI0, L2.rU, L2.tDrop, L2.tNever, L2.tCall, L2.tMeth, L2.tMake, L2.rGcd, L2.tFld, L2.sFld, L2.sFldAug, Mx.sFldA, Mx.sFldAugA, L2.rAdd, L2.rSub, L2.rEq, L2.rNe, L2.tDGet, L2.tDIn, L2.tDNotIn, L2.sDPut,
  Mx.isi_int_bool, Mx.isi_int_int, Mx.isi_int_tuple, Mx.isi_int_list, Mx.isi_int_str, Mx.scal_int, Mx.scal_str, Mx.scal_bl, Mx.ofString_inj, Mx.ofString_beq, Mx.lk_cons, Mx.pf_nil, Mx.pf_cons, Mx.sz1, Mx.sz2, List.lookup_nil, String.reduceEq, decide_true, decide_false, decide_eq_true_eq, Int.natAbs_natCast, L2.upd_same, L2.upd_upd, L2.cxOf, L2.gCons, L2.gNil, *])

section
variable {P : Program} {w : World} {K : PySem.W.Frag} {mg : Str → Option Value} {base : Heap}
def lowN (n pn pb : Int) : Int := n * pn / pb
def restN (n pn pb : Int) : Int := n * pn % pb
def wantN (n pn pb : Int) : List Int := if restN n pn pb = 0 then [lowN n pn pb] else [lowN n pn pb, lowN n pn pb + 1]
def lastN (n pn pb : Int) : Int := if restN n pn pb = 0 then lowN n pn pb else lowN n pn pb + 1
theorem at_last {n pn pb : Int} : atI ((wantN n pn pb).map V.int) (-1) = some (.int (lastN n pn pb)) := by
  unfold wantN lastN
  split <;> rfl
def madeN (i pn pb : Int) : Int := (i * pb + pn - 1) / pn
def endN (many L : Int) : Int := (L / many + 1) * many - 1
def gapN (pn pb many p : Int) : Int := madeN (endN many (lastN p pn pb)) pn pb - p
def sp_spot : Sp := fun vs H Q _ => ∃ (tp : Addr) (pn pb n : Int), vs = [.ref tp, .int n] ∧ H tp = some (.tup [.int pn, .int pb]) ∧ (1 ≤ pn ∧ pn ≤ 8) ∧ (1 ≤ pb ∧ pb ≤ 8) ∧ ∀ p H', H p = none → Stp [] H H' → H' p = some (.tup [.int (lowN n pn pb), .int (restN n pn pb)]) → Q (.ref p) H'
theorem sc_spot : FnScope ["pace", "passed", "numbers", "beats"] ["pace", "passed"] (defScope s_spot) := ⟨rfl, rfl, rfl, by decide +kernel, rfl, by decide +kernel, by decide +kernel⟩
theorem ok_spot {f : Addr} {fd : FuncData} (F : Fun K "spot" "spot" s_spot f fd) (B : Blt mg) : FnOk P w K mg base CX0 1 f fd ["pace", "passed"] sp_spot := by
  refine F.ok sc_spot (fun vs H Q E h => ?_) (fun cdv A outer s H vs Q E hr h => ?_)
  · obtain ⟨tp, pn, pb, n, rfl, _⟩ := h
    rfl
  · obtain ⟨tp, pn, pb, n, rfl, htp, hpn, hpb, k⟩ := h
    refine ⟨_, pss_cons (ps_asg (pv 0) (pg_tup rfl (pgs_cons (pg_name (i := 2) sc_spot.nd rfl (.inl rfl)) (pgs_cons (pg_name (i := 3) sc_spot.nd rfl (.inl rfl)) pgs_nil))))
      (pss_one (ps_ret (pe_callB call_divmod (by rfl) B.divmod (by decide +kernel) (pa_cons (pe_op op_mul (pv 1) (pv 2)) (pa_cons (pv 3) pa_nil))))), ?_⟩
    refine ⟨_, rfl, tp, _, rfl, .inl (.inl htp), rfl, ?_⟩
    walk_at "rd"
    exact ⟨.inr ⟨by omega, by omega⟩, ⟨by omega, by omega⟩, fun p hp => k p _ hp (Stp.new hp) upd_same⟩
def sp_wanted : Sp := fun vs H Q _ => ∃ (tp : Addr) (pn pb n : Int), vs = [.ref tp, .int n] ∧ H tp = some (.tup [.int pn, .int pb]) ∧ (1 ≤ pn ∧ pn ≤ 8) ∧ (1 ≤ pb ∧ pb ≤ 8) ∧ ∀ p H', H p = none → Stp [] H H' → H' p = some (.lst ((wantN n pn pb).map V.int)) → Q (.ref p) H'
theorem sc_wanted : FnScope ["pace", "passed", "low", "rest"] ["pace", "passed"] (defScope s_wanted) := ⟨rfl, rfl, rfl, by decide +kernel, rfl, by decide +kernel, by decide +kernel⟩
theorem ok_wanted {f : Addr} {fd : FuncData} (F : Fun K "wanted" "wanted" s_wanted f fd) (G : OwnF P w K mg base "spot" 1 ["pace", "passed"] sp_spot) : FnOk P w K mg base CX0 2 f fd ["pace", "passed"] sp_wanted := by
  refine F.ok sc_wanted (fun vs H Q E h => ?_) (fun cdv A outer s H vs Q E hr h => ?_)
  · obtain ⟨tp, pn, pb, n, rfl, _⟩ := h
    rfl
  · obtain ⟨tp, pn, pb, n, rfl, htp, hpn, hpb, k⟩ := h
    refine ⟨_, pss_cons (ps_asg (p_call G hr (pa_cons (pv 0) (pa_cons (pv 1) pa_nil))) (pg_tup rfl (pgs_cons (pg_name (i := 2) sc_wanted.nd rfl (.inl rfl)) (pgs_cons (pg_name (i := 3) sc_wanted.nd rfl (.inl rfl)) pgs_nil))))
      (pss_one (ps_ret (pe_ifExp (pt_cmpR op_eq (pv 3) pe_int (nomark _)) (pe_lst (pa_cons (pv 2) pa_nil)) (pe_lst (pa_cons (pv 2) (pa_cons (pe_op op_add (pv 2) pe_int) pa_nil)))))), ?_⟩
    refine ⟨_, rfl, _, rfl, tp, pn, pb, n, rfl, htp, hpn, hpb, fun p H1 hp hs hl => ⟨p, _, rfl, .inl (.inl hl), rfl, ?_⟩⟩
    walk_at "rd"
    unfold wantN at k
    by_cases e : restN n pn pb = 0
    · rw [if_pos e] at k ⊢
      intro q hq
      exact k q _ (hs.free hq (by simp)) (hs.trans (Stp.new hq)) upd_same
    · rw [if_neg e] at k ⊢
      intro q hq
      exact k q _ (hs.free hq (by simp)) (hs.trans (Stp.new hq)) upd_same
end
end Mx

namespace Mx
open PySem L2
/-! ### a voice's numbers: what a Line holds -/
structure LineS where
  pn : Int
  pb : Int
  beg : Int
  came : List (Int × Int)
  reach : Int
  many : Option Int
def optV : Option Int → V
  | none => .non
  | some n => .int n
def cam (c : List (Int × Int)) : List (Key × V) := c.map fun p => (Sum.inl p.1, V.int p.2)
def look (c : List (Int × Int)) (i : Int) : Option Int := (c.find? fun p => decide (p.1 = i)).map (·.2)
theorem cam_get (c : List (Int × Int)) (i : Int) : valV (cam c) (Sum.inl i : Key) = (look c i).map V.int := by
  unfold valV look cam
  induction c with
  | nil => rfl
  | cons p r ih =>
    by_cases h : p.1 = i
    · subst h
      simp
    · rw [List.map_cons, List.find?_cons_of_neg (by simpa using h), List.find?_cons_of_neg (by simpa using h)]
      exact ih
def put1 (c : List (Int × Int)) (i n : Int) : List (Int × Int) := if (look c i).isSome then c else c ++ [(i, n)]
def putAll : List (Int × Int) → Int → List Int → List (Int × Int)
  | c, _, [] => c
  | c, i, n :: r => putAll (put1 c i n) (i + 1) r
theorem putAll_snoc : ∀ (r : List Int) (c : List (Int × Int)) (i n : Int), putAll c i (r ++ [n]) = put1 (putAll c i r) (i + (r.length : Int)) n
  | [], c, i, n => by
    show put1 c i n = put1 c (i + ((0 : Nat) : Int)) n
    rw [show i + ((0 : Nat) : Int) = i by omega]
  | m :: r, c, i, n => by
    show putAll (put1 c i m) (i + 1) (r ++ [n]) = put1 (putAll (put1 c i m) (i + 1) r) (i + ((r.length + 1 : Nat) : Int)) n
    rw [putAll_snoc r]
    rw [show i + 1 + (r.length : Int) = i + ((r.length + 1 : Nat) : Int) by omega]
theorem put1_len (c : List (Int × Int)) (i n : Int) : (put1 c i n).length ≤ c.length + 1 := by
  unfold put1
  split
  · omega
  · rw [List.length_append]
    exact Nat.le_refl _
theorem putAll_len : ∀ (r : List Int) (c : List (Int × Int)) (i : Int), (putAll c i r).length ≤ c.length + r.length
  | [], c, i => Nat.le_refl _
  | m :: r, c, i => by
    have h1 := putAll_len r (put1 c i m) (i + 1)
    have h2 := put1_len c i m
    show (putAll (put1 c i m) (i + 1) r).length ≤ c.length + (r.length + 1)
    omega
theorem cam_put {c : List (Int × Int)} {i n : Int} (h : look c i = none) : putK (cam c) (Sum.inl i : Key) (V.int n) = cam (put1 c i n) := by
  have e : valV (cam c) (Sum.inl i : Key) = none := by rw [cam_get, h]; rfl
  rw [putK_new _ e]
  unfold put1
  rw [h]
  simp [cam]
def LineS.low (s : LineS) (t : Int) : Int := (t - s.beg) * s.pn / s.pb
def LineS.rest (s : LineS) (t : Int) : Int := (t - s.beg) * s.pn % s.pb
def LineS.want (s : LineS) (t : Int) : List Int := if s.rest t = 0 then [s.low t] else [s.low t, s.low t + 1]
def LineS.last (s : LineS) (t : Int) : Int := if s.rest t = 0 then s.low t else s.low t + 1
def LineS.over (s : LineS) (t : Int) : Bool := match s.many with
  | none => false
  | some m => decide (m ≤ s.last t)
def LineS.has (s : LineS) (i : Int) : Bool := (look s.came i).isSome
def LineS.begun (s : LineS) (t : Int) : Bool := decide (s.beg ≤ t)
def LineS.lacks (s : LineS) (t : Int) : Bool := s.begun t && !s.over t && (s.want t).any fun i => !s.has i
def LineS.ready (s : LineS) (t : Int) : Bool := s.begun t && !s.over t && !s.lacks t
def LineS.at (s : LineS) (i : Int) : Int := (look s.came i).getD 0
def LineS.value (s : LineS) (t : Int) : Rat := if s.rest t = 0 then mkRat (s.at (s.low t)) 1 else mkRat (s.at (s.low t) * (s.pb - s.rest t) + s.at (s.low t + 1) * s.rest t) s.pb.toNat
def LineS.room (s : LineS) : Int := s.many.getD 1000
def LineS.take (s : LineS) (i : Int) (ns : List Int) : LineS := { s with came := putAll s.came i ns, reach := max s.reach (i + (ns.length : Int)) }
structure LineOk (s : LineS) : Prop where
  pn0 : 1 ≤ s.pn
  pn1 : s.pn ≤ 8
  pb0 : 1 ≤ s.pb
  pb1 : s.pb ≤ 8
  cm : ∀ p ∈ s.came, -999 ≤ p.2 ∧ p.2 ≤ 999
  len : s.came.length ≤ 100000
/-- its attributes, in the order of its making -/
def fsL (tp c : Addr) (s : LineS) : List (Str × V) := [("pace", .ref tp), ("begin", .int s.beg), ("came", .ref c), ("reach", .int s.reach), ("many", optV s.many)]
structure LineAt (C : Addr) (H : Hp) (l c : Addr) (s : LineS) : Prop where
  ob : ∃ dx tp, H l = some (.ins C dx (fsL tp c s)) ∧ H tp = some (.tup [.int s.pn, .int s.pb])
  dc : H c = some (.dK (cam s.came))
theorem LineAt.ne {C : Addr} {H : Hp} {l c : Addr} {s : LineS} (h : LineAt C H l c s) : l ≠ c := by
  obtain ⟨dx, tp, h1, _⟩ := h.ob
  exact ne_of h1 h.dc (fun z => nomatch z)
theorem LineAt.st {C : Addr} {F : List Addr} {H H' : Hp} {l c : Addr} {s : LineS} (h : LineAt C H l c s) (k : Stp F H H') (n1 : l ∉ F) (n2 : c ∉ F) : LineAt C H' l c s := by
  obtain ⟨dx, tp, h1, ht⟩ := h.ob
  exact ⟨⟨dx, tp, k.keep _ _ h1 n1, k.tup _ _ ht⟩, k.keep _ _ h.dc n2⟩
theorem LineAt.st0 {C : Addr} {H H' : Hp} {l c : Addr} {s : LineS} (h : LineAt C H l c s) (k : Stp [] H H') : LineAt C H' l c s := h.st k (by simp) (by simp)
/-- what the class is as the top has made it -/
structure TL (K : PySem.W.Frag) (C : Addr) : Prop where
  cl : Cls K C
  a1 : NoAttr K C "pace"
  a3 : NoAttr K C "begin"
  a4 : NoAttr K C "came"
  a5 : NoAttr K C "reach"
  a6 : NoAttr K C "many"
theorem s1000 {n : Nat} (h : n < 1000) : (n < 1000) = True := eq_true h
set_option hygiene false in
local macro_rules | `(tactic| walk_at "rd") => `(tactic| try simp only [L2.start, List.map_cons, List.map_nil, List.length_cons, List.length_nil, Nat.reduceAdd, Nat.reduceSub, Nat.reduceLT, Nat.reduceLeDiff, List.replicate_succ, List.replicate_zero, List.append_nil, List.nil_append, List.cons_append, List.set_cons_zero, List.set_cons_succ, List.getElem?_cons_zero, List.getElem?_cons_succ,
  Option.some.injEq, List.cons.injEq, and_true, true_and, and_assoc, reduceCtorEq, L2.V.int.injEq, L2.V.ref.injEq, L2.V.bl.injEq, L2.V.str.injEq, L2.V.ty.injEq, L2.HO.ins.injEq, L2.HO.lst.injEq, L2.HO.tup.injEq, L2.HO.dK.injEq, exists_eq_left', exists_eq_left, exists_eq_right, exists_eq', exists_eq, exists_and_left, exists_and_right, reduceIte, Bool.false_eq_true, Bool.not_true, Bool.not_false,
  L2.tSeq, L2.tIfS, L2.tRet, L2.tRetN, L2.tNext, L2.tAsg, L2.gName, L2.tVar, L2.tC, L2.tCons, L2.tNil, L2.tCB, L2.tOp, L2.tUn, L2.tTup, L2.tLst, L2.tB, L2.tOr, L2.tAnd, L2.tNot, L2.tAndV, L2.tOrV, L2.tNotV, L2.tIf, L2.tTest, L2.tChain, L2.rI, L2.rI0, L2.rU, L2.tDrop, L2.tNever, L2.tCall, L2.tMeth, L2.tMake, L2.rGcd, L2.tFld, L2.sFld, L2.sFldAug, Mx.sFldA, Mx.sFldAugA, L2.rAdd, L2.rSub, L2.rEq, L2.rNe, L2.tDGet, L2.tDIn, L2.tDNotIn, L2.sDPut,
  Mx.isi_int_bool, Mx.isi_int_int, Mx.isi_int_tuple, Mx.isi_int_list, Mx.isi_int_str, Mx.scal_int, Mx.scal_str, Mx.scal_bl, Mx.ofString_inj, Mx.ofString_beq, Mx.lk_cons, Mx.pf_nil, Mx.pf_cons, Mx.sz1, Mx.sz2, List.lookup_nil, String.reduceEq, decide_true, decide_false, decide_eq_true_eq, Int.natAbs_natCast, L2.upd_same, L2.upd_upd, L2.cxOf, Mx.fsL, Mx.gFld, L2.gCons, L2.gNil, L2.tDNewK, Mx.optV])
set_option hygiene false in
local macro_rules | `(tactic| walk_at "rds") => `(tactic| try simp only [L2.start, List.map_cons, List.map_nil, List.length_cons, List.length_nil, Nat.reduceAdd, Nat.reduceSub, Nat.reduceLT, Nat.reduceLeDiff, List.replicate_succ, List.replicate_zero, List.append_nil, List.nil_append, List.cons_append, List.set_cons_zero, List.set_cons_succ, List.getElem?_cons_zero, List.getElem?_cons_succ,
  Option.some.injEq, List.cons.injEq, and_true, true_and, and_assoc, reduceCtorEq, L2.V.int.injEq, L2.V.ref.injEq, L2.V.bl.injEq, L2.V.str.injEq, L2.V.ty.injEq, L2.HO.ins.injEq, L2.HO.lst.injEq, L2.HO.tup.injEq, L2.HO.dK.injEq, exists_eq_left', exists_eq_left, exists_eq_right, exists_eq', exists_eq, exists_and_left, exists_and_right, reduceIte, Bool.false_eq_true, Bool.not_true, Bool.not_false,
  L2.tSeq, L2.tIfS, L2.tRet, L2.tRetN, L2.tNext, L2.tAsg, L2.gName, L2.tVar, L2.tC, L2.tCons, L2.tNil, L2.tCB, L2.tOp, L2.tUn, L2.tTup, L2.tLst, L2.tB, L2.tOr, L2.tAnd, L2.tNot, L2.tAndV, L2.tOrV, L2.tNotV, L2.tIf, L2.tTest, L2.tChain, L2.rI, L2.rI0, L2.rU, L2.tDrop, L2.tNever, L2.tCall, L2.tMeth, L2.tMake, L2.rGcd, L2.tFld, L2.sFld, L2.sFldAug, Mx.sFldA, Mx.sFldAugA, L2.rAdd, L2.rSub, L2.rEq, L2.rNe, L2.tDGet, L2.tDIn, L2.tDNotIn, L2.sDPut,
  Mx.isi_int_bool, Mx.isi_int_int, Mx.isi_int_tuple, Mx.isi_int_list, Mx.isi_int_str, Mx.scal_int, Mx.scal_str, Mx.scal_bl, Mx.ofString_inj, Mx.ofString_beq, Mx.lk_cons, Mx.pf_nil, Mx.pf_cons, Mx.sz1, Mx.sz2, List.lookup_nil, String.reduceEq, decide_true, decide_false, decide_eq_true_eq, Int.natAbs_natCast, L2.upd_same, L2.upd_upd, L2.cxOf, Mx.fsL, Mx.gFld, L2.gCons, L2.gNil, L2.tDNewK, Mx.optV, *])

section
variable {P : Program} {w : World} {K : PySem.W.Frag} {mg : Str → Option Value} {base : Heap} {C : Addr}

def sp_Line_init (K : PySem.W.Frag) (C : Addr) : Sp := fun vs H Q _ => ∃ (l dx t : Addr) (pn pb b : Int), vs = [.ref l, .ref t, .int b] ∧ H l = some (.ins C dx []) ∧ H t = some (.tup [.int pn, .int pb]) ∧
  ∀ c H', H c = none → LineAt C H' l c ⟨pn, pb, b, [], 0, none⟩ → Stp [l] H H' → Q .non H'
theorem sc_Line_init : FnScope ["self", "pace", "begin"] ["self", "pace", "begin"] (defScope s_Line_init) := ⟨rfl, rfl, rfl, by decide +kernel, rfl, by decide +kernel, by decide +kernel⟩
theorem ok_Line_init {f : Addr} {fd : FuncData} (F : Fun K "__init__" "Line.__init__" s_Line_init f fd) (T : TL K C) : FnOk P w K mg base CX0 1 f fd ["self", "pace", "begin"] (sp_Line_init K C) := by
  refine F.ok sc_Line_init (fun vs H Q E h => ?_) (fun cdv A outer s H vs Q E hr h => ?_)
  · obtain ⟨l, dx, t, pn, pb, b, rfl, _⟩ := h
    rfl
  · obtain ⟨l, dx, t, pn, pb, b, rfl, hl, ht, k⟩ := h
    refine ⟨_, pss_cons (ps_fldA (pv 0) (pv 1) rfl)
      (pss_cons (ps_fldA (pv 0) (pv 2) rfl) (pss_cons (ps_fldA (pv 0) pe_dnewK rfl) (pss_cons (ps_fldA (pv 0) pe_int rfl) (pss_one (ps_fldA (pv 0) pe_non rfl))))), ?_⟩
    obtain ⟨cl, a1, a3, a4, a5, a6⟩ := T
    have htl : t ≠ l := ne_of ht hl (fun z => nomatch z)
    walk_at "rds"
    intro H1 g1 s1
    walk_at "rds"
    intro H2 g2 s2
    walk_at "rds"
    intro c hc
    have s3 := Stp.new (o := .dK []) hc
    have e3 : upd H2 c (.dK []) c = some (.dK []) := upd_same
    have g3 := s3.keep _ _ g2 (by simp)
    generalize upd H2 c (.dK []) = H3 at *
    have hcl : l ≠ c := ne_of_none g2 hc
    walk_at "rds"
    intro H4 g4 s4
    walk_at "rds"
    intro H5 g5 s5
    walk_at "rds"
    intro H6 g6 s6
    have hc0 : H c = none := s1.free (s2.free hc (by simpa using hcl.symm)) (by simpa using hcl.symm)
    have t6 : Stp [l] H H6 := (s1.trans (s2.trans (s3.trans (s4.trans (s5.trans s6))))).sub (by simp)
    exact k c H6 hc0 ⟨⟨dx, t, g6, t6.tup _ _ ht⟩, s6.keep _ _ (s5.keep _ _ (s4.keep _ _ e3 (by simpa using hcl.symm)) (by simpa using hcl.symm)) (by simpa using hcl.symm)⟩ t6

def sp_Line_room (C : Addr) : Sp := fun vs H Q _ => ∃ (l c : Addr) (s : LineS), vs = [.ref l] ∧ LineAt C H l c s ∧ Q (.int s.room) H
theorem sc_Line_room : FnScope ["self"] ["self"] (defScope s_Line_room) := ⟨rfl, rfl, rfl, by decide +kernel, rfl, by decide +kernel, by decide +kernel⟩
theorem ok_Line_room {f : Addr} {fd : FuncData} (F : Fun K "room" "Line.room" s_Line_room f fd) (T : TL K C) {tm : Tok} (hM : mg "MOST" = some (.int 1000 tm)) : FnOk P w K mg base CX0 1 f fd ["self"] (sp_Line_room C) := by
  refine F.ok sc_Line_room (fun vs H Q E h => ?_) (fun cdv A outer s H vs Q E hr h => ?_)
  · obtain ⟨l, c, s, rfl, _⟩ := h
    rfl
  · obtain ⟨l, c, s, rfl, hL, k⟩ := h
    refine ⟨_, pss_one (ps_ret (pe_ifExp (pt_cmpR op_isN (pe_fld (pv 0) rfl) pe_non (nomark _)) (pe_glob (v := .int 1000) (by rfl) hM ⟨_, rfl⟩) (pe_fld (pv 0) rfl))), ?_⟩
    obtain ⟨cl, a1, a3, a4, a5, a6⟩ := T
    obtain ⟨dx, tp, h1, htp⟩ := hL.ob
    walk_at "rds"
    unfold LineS.room at k
    cases e : s.many with
    | none =>
      rw [e] at k
      walk_at "rds"
      exact k
    | some m =>
      rw [e] at k
      walk_at "rds"
      exact k

def sp_Line_begun (C : Addr) : Sp := fun vs H Q _ => ∃ (l c : Addr) (s : LineS) (t : Int), vs = [.ref l, .int t] ∧ LineAt C H l c s ∧ Q (.bl (s.begun t)) H
theorem sc_Line_begun : FnScope ["self", "beat"] ["self", "beat"] (defScope s_Line_begun) := ⟨rfl, rfl, rfl, by decide +kernel, rfl, by decide +kernel, by decide +kernel⟩
theorem ok_Line_begun {f : Addr} {fd : FuncData} (F : Fun K "begun" "Line.begun" s_Line_begun f fd) (T : TL K C) : FnOk P w K mg base CX0 1 f fd ["self", "beat"] (sp_Line_begun C) := by
  refine F.ok sc_Line_begun (fun vs H Q E h => ?_) (fun cdv A outer s H vs Q E hr h => ?_)
  · obtain ⟨l, c, s, t, rfl, _⟩ := h
    rfl
  · obtain ⟨l, c, s, t, rfl, hL, k⟩ := h
    refine ⟨_, pss_one (ps_ret (pe_cmpR op_ge (pv 1) (pe_fld (pv 0) rfl) (nomark _))), ?_⟩
    obtain ⟨cl, a1, a3, a4, a5, a6⟩ := T
    obtain ⟨dx, tp, h1, htp⟩ := hL.ob
    walk_at "rds"
    exact k

def sp_Line_wanted (C : Addr) : Sp := fun vs H Q _ => ∃ (l c : Addr) (s : LineS) (t : Int), vs = [.ref l, .int t] ∧ LineAt C H l c s ∧ LineOk s ∧ ∀ p H', H p = none → Stp [] H H' → H' p = some (.lst ((s.want t).map V.int)) → Q (.ref p) H'
theorem sc_Line_wants : FnScope ["self", "beat"] ["self", "beat"] (defScope s_Line_wants) := ⟨rfl, rfl, rfl, by decide +kernel, rfl, by decide +kernel, by decide +kernel⟩
theorem ok_Line_wants {f : Addr} {fd : FuncData} (F : Fun K "wants" "Line.wants" s_Line_wants f fd) (T : TL K C) (G : OwnF P w K mg base "wanted" 2 ["pace", "passed"] sp_wanted) : FnOk P w K mg base CX0 3 f fd ["self", "beat"] (sp_Line_wanted C) := by
  refine F.ok sc_Line_wants (fun vs H Q E h => ?_) (fun cdv A outer s H vs Q E hr h => ?_)
  · obtain ⟨l, c, s, t, rfl, _⟩ := h
    rfl
  · obtain ⟨l, c, s, t, rfl, hL, hO, k⟩ := h
    refine ⟨_, pss_one (ps_ret (p_call G hr (pa_cons (pe_fld (pv 0) rfl) (pa_cons (pe_op op_sub (pv 1) (pe_fld (pv 0) rfl)) pa_nil)))), ?_⟩
    obtain ⟨cl, a1, a3, a4, a5, a6⟩ := T
    obtain ⟨dx, tp, h1, htp⟩ := hL.ob
    obtain ⟨b1, b2, b3, b4, _, _⟩ := hO
    walk_at "rds"
    exact ⟨tp, s.pn, s.pb, t - s.beg, rfl, htp, ⟨b1, b2⟩, ⟨b3, b4⟩, k⟩

def sp_Line_bool (C : Addr) (g : LineS → Int → Bool) : Sp := fun vs H Q _ => ∃ (l c : Addr) (s : LineS) (t : Int), vs = [.ref l, .int t] ∧ LineAt C H l c s ∧ LineOk s ∧ ∀ H', Stp [] H H' → Q (.bl (g s t)) H'
theorem sc_Line_over : FnScope ["self", "beat"] ["self", "beat"] (defScope s_Line_over) := ⟨rfl, rfl, rfl, by decide +kernel, rfl, by decide +kernel, by decide +kernel⟩
theorem atI_last1 {x : V} : atI [x] (-1) = some x := rfl
theorem atI_last2 {x y : V} : atI [x, y] (-1) = some y := rfl
theorem ok_Line_over {f : Addr} {fd : FuncData} (F : Fun K "over" "Line.over" s_Line_over f fd) (T : TL K C) (G : OwnM P w K mg base C "wants" 3 ["self", "beat"] (sp_Line_wanted C)) : FnOk P w K mg base CX0 4 f fd ["self", "beat"] (sp_Line_bool C LineS.over) := by
  refine F.ok sc_Line_over (fun vs H Q E h => ?_) (fun cdv A outer s H vs Q E hr h => ?_)
  · obtain ⟨l, c, s, t, rfl, _⟩ := h
    rfl
  · obtain ⟨l, c, s, t, rfl, hL, hO, k⟩ := h
    refine ⟨_, pss_one (ps_ret (pe_and (pe_cmpR op_notN (pe_fld (pv 0) rfl) pe_non (nomark _)) (pe_one (pe_cmpR op_ge (pe_ix ix_list (p_meth G hr (pv 0) (pa_cons (pv 1) pa_nil)) (pe_un un_neg pe_int) (fun _ _ => rfl)) (pe_fld (pv 0) rfl) (nomark _))))), ?_⟩
    obtain ⟨cl, a1, a3, a4, a5, a6⟩ := T
    obtain ⟨dx, tp, h1, htp⟩ := hL.ob
    unfold LineS.over at k
    cases e : s.many with
    | none =>
      rw [e] at k
      walk_at "rds"
      exact k H Stp.refl
    | some m =>
      rw [e] at k
      walk_at "rds"
      refine ⟨l, c, s, t, rfl, hL, hO, fun p H' hp hs hl => ?_⟩
      refine ⟨p, _, _, .int (s.last t), rfl, rfl, .inl (.inl hl), ?_, ?_⟩
      · unfold LineS.want LineS.last
        split
        · exact atI_last1
        · exact atI_last2
      · have h1' := hs.keep _ _ h1 (by simp)
        have := k H' hs
        walk_at "rds" <;> exact this

/-! the list of what any([.. for at in wanted]) goes over -/
theorem sc_Line_lacks : FnScope ["self", "beat", "at"] ["self", "beat"] (defScope s_Line_lacks) := ⟨rfl, rfl, rfl, by decide +kernel, rfl, by decide +kernel, by decide +kernel⟩
theorem ok_Line_lacks {f : Addr} {fd : FuncData} (F : Fun K "lacks" "Line.lacks" s_Line_lacks f fd) (T : TL K C) (B : Blt mg) (GB : OwnM P w K mg base C "begun" 1 ["self", "beat"] (sp_Line_begun C)) (GO : OwnM P w K mg base C "over" 4 ["self", "beat"] (sp_Line_bool C LineS.over))
    (GW : OwnM P w K mg base C "wants" 3 ["self", "beat"] (sp_Line_wanted C)) : FnOk P w K mg base CX0 5 f fd ["self", "beat"] (sp_Line_bool C LineS.lacks) := by
  refine F.ok sc_Line_lacks (fun vs H Q E h => ?_) (fun cdv A outer s H vs Q E hr h => ?_)
  · obtain ⟨l, c, s, t, rfl, _⟩ := h
    rfl
  · obtain ⟨l, c, s, t, rfl, hL, hO, k⟩ := h
    refine ⟨_, pss_cons (ps_if (PW.pt (pw_or (pt_not (pt_val (p_meth GB (hr.mono (by decide)) (pv 0) (pa_cons (pv 1) pa_nil)))) (pw_or1 (pt_val (p_meth GO hr (pv 0) (pa_cons (pv 1) pa_nil)))))) (pss_one (ps_ret pe_bl)) pss_nil)
      (pss_one (ps_ret (pe_callB (cr_any rfl) (by rfl) B.any PyProof.Rows.boot_any (pa_cons (pe_lc (own := [("at", 2)]) (te := tDNotIn (tVar 2) (tFld K (tVar 0) "came")) rfl sc_Line_lacks.nd (pi_list (p_meth GW (hr.mono (by decide)) (pv 0) (pa_cons (pv 1) pa_nil))) (blkOk_by (N := ["self", "beat", "at"]) (sc := defScope s_Line_lacks) (by decide +kernel))
        (fun _ _ _ _ _ => pg_name (i := 2) sc_Line_lacks.nd rfl (.inl rfl)) (fun _ _ _ _ _ => pts_nil) (fun _ _ _ _ _ => pe_cmp (pc_dnotin (hu_of hr) (pv 2) (pe_fld (pv 0) rfl)))) pa_nil)))), ?_⟩
    obtain ⟨cl, a1, a3, a4, a5, a6⟩ := T
    obtain ⟨dx, tp, h1, htp⟩ := hL.ob
    walk_at "rds"
    refine ⟨l, c, s, t, rfl, hL, ?_⟩
    walk_at "rds"
    unfold LineS.lacks at k
    cases eb : s.begun t with
    | false =>
      rw [eb] at k
      walk_at "rds"
      exact k H Stp.refl
    | true =>
      walk_at "rds"
      refine ⟨l, c, s, t, rfl, hL, hO, fun H1 hs1 => ?_⟩
      walk_at "rd"
      cases eo : s.over t with
      | true =>
        rw [eb, eo] at k
        walk_at "rd"
        exact k H1 hs1
      | false =>
        rw [eb, eo] at k
        walk_at "rd"
        have hL1 := hL.st0 hs1
        have h1' := hs1.keep _ _ h1 (by simp)
        refine ⟨_, rfl, l, dx, _, rfl, h1', ?_, ?_⟩
        · walk_at "rd"
        refine ⟨_, rfl, ?_⟩
        refine ⟨l, c, s, t, rfl, hL1, hO, fun p H2 hp hs2 hl => ?_⟩
        have hL2 := hL1.st0 hs2
        have h2' := hs2.keep _ _ h1' (by simp)
        refine ⟨p, rfl, ⟨_, .inl (.inl hl)⟩, lc_pure (K := K) (a := p) (H9 := H2) (i := 2) (te := tDNotIn (tVar 2) (tFld K (tVar 0) "came")) (σ := [some (.ref l), some (.int t), none]) (Q := fun x H => rAny K [x] H Q) (fun x => match x with | .int i => .bl (!s.has i) | _ => .non) (.inl (.inl hl)) ?_ (fun x hx H Q' hs q => ?_) (fun D H3 hD hs hl3 => ?_)⟩
        · rw [List.length_map]
          unfold LineS.want
          split <;> simp
        · obtain ⟨i, hi, rfl⟩ := List.mem_map.mp hx
          have h3' := hs.keep _ _ h2' (by simp)
          have hL3 := hL2.st0 hs
          refine ⟨_, rfl, _, rfl, l, C, dx, _, _, rfl, h3', cl, a4, rfl, c, _, rfl, DGet.k (k := Sum.inl i) hL3.dc, ?_⟩
          rw [cam_get, Option.isSome_map]
          exact q
        · refine ⟨D, (s.want t).map fun i => !s.has i, rfl, .inl (.inl ?_), ?_⟩
          · rw [hl3, List.map_map, List.map_map]
            rfl
          · have := k H3 ((hs1.trans hs2).trans hs)
            simp only [Bool.true_and, Bool.not_false] at this
            rw [List.any_map]
            exact this
end
end Mx

namespace Mx
open PySem L2
set_option hygiene false in
local macro_rules | `(tactic| walk_at "rd") => `(tactic| try simp only [L2.start, List.map_cons, List.map_nil, List.length_cons, List.length_nil, Nat.reduceAdd, Nat.reduceSub, Nat.reduceLT, Nat.reduceLeDiff, List.replicate_succ, List.replicate_zero, List.append_nil, List.nil_append, List.cons_append, List.set_cons_zero, List.set_cons_succ, List.getElem?_cons_zero, List.getElem?_cons_succ,
  Option.some.injEq, List.cons.injEq, and_true, true_and, and_assoc, reduceCtorEq, L2.V.int.injEq, L2.V.ref.injEq, L2.V.bl.injEq, L2.V.str.injEq, L2.V.ty.injEq, L2.HO.ins.injEq, L2.HO.lst.injEq, L2.HO.tup.injEq, L2.HO.dK.injEq, exists_eq_left', exists_eq_left, exists_eq_right, exists_eq', exists_eq, exists_and_left, exists_and_right, reduceIte, Bool.false_eq_true, Bool.not_true, Bool.not_false,
  L2.tSeq, L2.tIfS, L2.tRet, L2.tRetN, L2.tNext, L2.tAsg, L2.gName, L2.tVar, L2.tC, L2.tCons, L2.tNil, L2.tCB, L2.tOp, L2.tUn, L2.tTup, L2.tLst, L2.tB, L2.tOr, L2.tAnd, L2.tNot, L2.tAndV, L2.tOrV, L2.tNotV, L2.tIf, L2.tTest, L2.tChain, L2.rI, L2.rI0, L2.rU, L2.tDrop, L2.tNever, L2.tCall, L2.tMeth, L2.tMake, L2.rGcd, L2.tFld, L2.sFld, L2.sFldAug, Mx.sFldA, Mx.sFldAugA, L2.rAdd, L2.rSub, L2.rEq, L2.rNe, L2.tDGet, L2.tDIn, L2.tDNotIn, L2.sDPut,
  Mx.isi_int_bool, Mx.isi_int_int, Mx.isi_int_tuple, Mx.isi_int_list, Mx.isi_int_str, Mx.scal_int, Mx.scal_str, Mx.scal_bl, Mx.ofString_inj, Mx.ofString_beq, Mx.lk_cons, Mx.pf_nil, Mx.pf_cons, Mx.sz1, Mx.sz2, List.lookup_nil, String.reduceEq, decide_true, decide_false, decide_eq_true_eq, Int.natAbs_natCast, L2.upd_same, L2.upd_upd, L2.cxOf, Mx.fsL, Mx.gFld, L2.gCons, L2.gNil, L2.tDNewK, Mx.optV])
set_option hygiene false in
local macro_rules | `(tactic| walk_at "rds") => `(tactic| try simp only [L2.start, List.map_cons, List.map_nil, List.length_cons, List.length_nil, Nat.reduceAdd, Nat.reduceSub, Nat.reduceLT, Nat.reduceLeDiff, List.replicate_succ, List.replicate_zero, List.append_nil, List.nil_append, List.cons_append, List.set_cons_zero, List.set_cons_succ, List.getElem?_cons_zero, List.getElem?_cons_succ,
  Option.some.injEq, List.cons.injEq, and_true, true_and, and_assoc, reduceCtorEq, L2.V.int.injEq, L2.V.ref.injEq, L2.V.bl.injEq, L2.V.str.injEq, L2.V.ty.injEq, L2.HO.ins.injEq, L2.HO.lst.injEq, L2.HO.tup.injEq, L2.HO.dK.injEq, exists_eq_left', exists_eq_left, exists_eq_right, exists_eq', exists_eq, exists_and_left, exists_and_right, reduceIte, Bool.false_eq_true, Bool.not_true, Bool.not_false,
  L2.tSeq, L2.tIfS, L2.tRet, L2.tRetN, L2.tNext, L2.tAsg, L2.gName, L2.tVar, L2.tC, L2.tCons, L2.tNil, L2.tCB, L2.tOp, L2.tUn, L2.tTup, L2.tLst, L2.tB, L2.tOr, L2.tAnd, L2.tNot, L2.tAndV, L2.tOrV, L2.tNotV, L2.tIf, L2.tTest, L2.tChain, L2.rI, L2.rI0, L2.rU, L2.tDrop, L2.tNever, L2.tCall, L2.tMeth, L2.tMake, L2.rGcd, L2.tFld, L2.sFld, L2.sFldAug, Mx.sFldA, Mx.sFldAugA, L2.rAdd, L2.rSub, L2.rEq, L2.rNe, L2.tDGet, L2.tDIn, L2.tDNotIn, L2.sDPut,
  Mx.isi_int_bool, Mx.isi_int_int, Mx.isi_int_tuple, Mx.isi_int_list, Mx.isi_int_str, Mx.scal_int, Mx.scal_str, Mx.scal_bl, Mx.ofString_inj, Mx.ofString_beq, Mx.lk_cons, Mx.pf_nil, Mx.pf_cons, Mx.sz1, Mx.sz2, List.lookup_nil, String.reduceEq, decide_true, decide_false, decide_eq_true_eq, Int.natAbs_natCast, L2.upd_same, L2.upd_upd, L2.cxOf, Mx.fsL, Mx.gFld, L2.gCons, L2.gNil, L2.tDNewK, Mx.optV, *])

theorem look_mem {c : List (Int × Int)} {i n : Int} (h : look c i = some n) : (i, n) ∈ c := by
  unfold look at h
  cases e : c.find? fun p => decide (p.1 = i) with
  | none => rw [e] at h; cases h
  | some p =>
    rw [e] at h
    have h1 := List.find?_some e
    have h2 := List.mem_of_find?_eq_some e
    have h3 : p.2 = n := Option.some.inj h
    have h4 : p.1 = i := of_decide_eq_true h1
    rw [← h3, ← h4]
    exact h2
theorem LineS.atw {s : LineS} {i : Int} (h : s.has i = true) : look s.came i = some (s.at i) := by
  unfold LineS.has at h
  unfold LineS.at
  cases e : look s.came i with
  | none => rw [e] at h; cases h
  | some n => rfl
theorem LineOk.small {s : LineS} (h : LineOk s) {i n : Int} (e : look s.came i = some n) : -999 ≤ n ∧ n ≤ 999 := h.cm _ (look_mem e)
theorem ready_has {s : LineS} {t : Int} (h : s.ready t = true) : ∀ i ∈ s.want t, s.has i = true := by
  unfold LineS.ready LineS.lacks at h
  cases e1 : s.begun t <;> cases e2 : s.over t <;> rw [e1, e2] at h <;> simp at h
  exact h
section
variable {P : Program} {w : World} {K : PySem.W.Frag} {mg : Str → Option Value} {base : Heap} {C : Addr}
theorem sc_Line_ready : FnScope ["self", "beat"] ["self", "beat"] (defScope s_Line_ready) := ⟨rfl, rfl, rfl, by decide +kernel, rfl, by decide +kernel, by decide +kernel⟩
theorem ok_Line_ready {f : Addr} {fd : FuncData} (F : Fun K "ready" "Line.ready" s_Line_ready f fd) (GB : OwnM P w K mg base C "begun" 1 ["self", "beat"] (sp_Line_begun C)) (GO : OwnM P w K mg base C "over" 4 ["self", "beat"] (sp_Line_bool C LineS.over))
    (GL : OwnM P w K mg base C "lacks" 5 ["self", "beat"] (sp_Line_bool C LineS.lacks)) : FnOk P w K mg base CX0 6 f fd ["self", "beat"] (sp_Line_bool C LineS.ready) := by
  refine F.ok sc_Line_ready (fun vs H Q E h => ?_) (fun cdv A outer s H vs Q E hr h => ?_)
  · obtain ⟨l, c, s, t, rfl, _⟩ := h
    rfl
  · obtain ⟨l, c, s, t, rfl, hL, hO, k⟩ := h
    refine ⟨_, pss_one (ps_ret (pe_and (p_meth GB (hr.mono (by decide)) (pv 0) (pa_cons (pv 1) pa_nil)) (pe_and (pe_not (p_meth GO (hr.mono (by decide)) (pv 0) (pa_cons (pv 1) pa_nil))) (pe_one (pe_not (p_meth GL hr (pv 0) (pa_cons (pv 1) pa_nil))))))), ?_⟩
    obtain ⟨dx, tp, h1, htp⟩ := hL.ob
    walk_at "rds"
    refine ⟨l, c, s, t, rfl, hL, ?_⟩
    walk_at "rds"
    unfold LineS.ready at k
    cases eb : s.begun t with
    | false =>
      rw [eb] at k
      walk_at "rds"
      exact k H Stp.refl
    | true =>
      walk_at "rds"
      refine ⟨l, c, s, t, rfl, hL, hO, fun H1 hs1 => ?_⟩
      have h1' := hs1.keep _ _ h1 (by simp)
      have hL1 := hL.st0 hs1
      cases eo : s.over t with
      | true =>
        rw [eb, eo] at k
        have := k H1 hs1
        walk_at "rds" <;> exact this
      | false =>
        rw [eb, eo] at k
        walk_at "rds"
        refine ⟨l, c, s, t, rfl, hL1, hO, fun H2 hs2 => ?_⟩
        have := k H2 (hs1.trans hs2)
        simp only [Bool.true_and, Bool.not_false] at this
        walk_at "rds" <;> exact this

def sp_Line_value (C : Addr) : Sp := fun vs H Q _ => ∃ (l c : Addr) (s : LineS) (t : Int), vs = [.ref l, .int t] ∧ LineAt C H l c s ∧ LineOk s ∧ s.ready t = true ∧ ∀ p H', H p = none → Stp [] H H' → H' p = some (.tup (frac (s.value t))) → Q (.ref p) H'
theorem sc_Line_value : FnScope ["self", "beat", "low", "rest", "beats"] ["self", "beat"] (defScope s_Line_value) := ⟨rfl, rfl, rfl, by decide +kernel, rfl, by decide +kernel, by decide +kernel⟩
theorem ok_Line_value {f : Addr} {fd : FuncData} (F : Fun K "value" "Line.value" s_Line_value f fd) (T : TL K C) (G : OwnF P w K mg base "spot" 1 ["pace", "passed"] sp_spot) (GR : OwnF P w K mg base "ratio" 1 ["top", "bottom"] sp_ratio) :
    FnOk P w K mg base CX0 2 f fd ["self", "beat"] (sp_Line_value C) := by
  refine F.ok sc_Line_value (fun vs H Q E h => ?_) (fun cdv A outer s H vs Q E hr h => ?_)
  · obtain ⟨l, c, s, t, rfl, _⟩ := h
    rfl
  · obtain ⟨l, c, s, t, rfl, hL, hO, hR, k⟩ := h
    have hu := hu_of hr
    refine ⟨_, pss_cons (ps_asg (p_call G hr (pa_cons (pe_fld (pv 0) rfl) (pa_cons (pe_op op_sub (pv 1) (pe_fld (pv 0) rfl)) pa_nil))) (pg_tup rfl (pgs_cons (pg_name (i := 2) sc_Line_value.nd rfl (.inl rfl)) (pgs_cons (pg_name (i := 3) sc_Line_value.nd rfl (.inl rfl)) pgs_nil))))
      (pss_cons (ps_if (pt_cmpR op_eq (pv 3) pe_int (nomark _)) (pss_one (ps_ret (p_call GR hr (pa_cons (pe_dget hu (pe_fld (pv 0) rfl) (pv 2) (fun _ _ => rfl)) (pa_cons pe_int pa_nil))))) pss_nil)
      (pss_cons (ps_set (i := 4) sc_Line_value.nd rfl (Or.inl rfl) (pe_ix ix_tup (pe_fld (pv 0) rfl) pe_int (fun _ _ => rfl)))
      (pss_one (ps_ret (p_call GR hr (pa_cons (pe_op op_add (pe_op op_mul (pe_dget hu (pe_fld (pv 0) rfl) (pv 2) (fun _ _ => rfl)) (pe_op op_sub (pv 4) (pv 3))) (pe_op op_mul (pe_dget hu (pe_fld (pv 0) rfl) (pe_op op_add (pv 2) pe_int) (fun _ _ => rfl)) (pv 3))) (pa_cons (pv 4) pa_nil))))))), ?_⟩
    obtain ⟨cl, a1, a3, a4, a5, a6⟩ := T
    obtain ⟨dx, tp, h1, htp⟩ := hL.ob
    have hw := ready_has hR
    unfold LineS.want at hw
    have hB := hO
    obtain ⟨b1, b2, b3, b4, _, _⟩ := hB
    walk_at "rds"
    refine ⟨tp, s.pn, s.pb, t - s.beg, rfl, htp, ⟨b1, b2⟩, ⟨b3, b4⟩, fun p H1 hp hs hl => ⟨p, _, rfl, .inl (.inl hl), rfl, ?_⟩⟩
    rw [show lowN (t - s.beg) s.pn s.pb = s.low t from rfl, show restN (t - s.beg) s.pn s.pb = s.rest t from rfl]
    have h1' := hs.keep _ _ h1 (by simp)
    have hL1 := hL.st0 hs
    have hd := hL1.dc
    have hlow : s.has (s.low t) = true := by
      apply hw
      split <;> simp
    have e1 := LineS.atw hlow
    have b1 := hO.small e1
    have htp1 := hs.tup _ _ htp
    have g1 : DGet H1 c (.int (s.low t)) (some (.int (s.at (s.low t)))) := by
      have := DGet.k (k := (Sum.inl (s.low t) : Key)) hd
      rw [cam_get, e1] at this
      exact this
    unfold LineS.value at k
    by_cases e : s.rest t = 0
    · rw [if_pos e] at k
      walk_at "rds"
      refine ⟨_, g1, _, _, rfl, by omega, by decide, fun q H2 hq hs2 hl2 => ?_⟩
      have hq0 := hs.free hq (by simp)
      exact k q _ hq0 (hs.trans hs2) hl2
    · rw [if_neg e] at k hw
      have hlow2 : s.has (s.low t + 1) = true := hw _ (by simp)
      have e2 := LineS.atw hlow2
      have b2 := hO.small e2
      have g2 : DGet H1 c (.int (s.low t + 1)) (some (.int (s.at (s.low t + 1)))) := by
        have := DGet.k (k := (Sum.inl (s.low t + 1) : Key)) hd
        rw [cam_get, e2] at this
        exact this
      obtain ⟨o1, o2, o3, o4, _, _⟩ := hO
      have r0 : 0 ≤ s.rest t := Int.emod_nonneg _ (by omega)
      have r1 : s.rest t < s.pb := Int.emod_lt_of_pos _ (by omega)
      walk_at "rds"
      refine ixT_1 (.inl htp1) ?_
      walk_at "rds"
      refine ⟨_, g1, _, rfl, .inl ⟨by omega, by omega⟩, _, g2, _, rfl, .inl ⟨by omega, by omega⟩, _, _, rfl, by omega, ?_, fun q H2 hq hs2 hl2 => ?_⟩
      · refine Nat.lt_of_lt_of_le (show s.pb.natAbs < 2 ^ 4 by omega) (Nat.pow_le_pow_right (by decide) (by decide))
      · have hq0 := hs.free hq (by simp)
        exact k q _ hq0 (hs.trans hs2) hl2
end
end Mx
namespace Mx
open PySem L2
set_option hygiene false in
local macro_rules | `(tactic| walk_at "rd") => `(tactic| try simp only [L2.start, List.map_cons, List.map_nil, List.length_cons, List.length_nil, Nat.reduceAdd, Nat.reduceSub, Nat.reduceLT, Nat.reduceLeDiff, List.replicate_succ, List.replicate_zero, List.append_nil, List.nil_append, List.cons_append, List.set_cons_zero, List.set_cons_succ, List.getElem?_cons_zero, List.getElem?_cons_succ,
  Option.some.injEq, List.cons.injEq, and_true, true_and, and_assoc, reduceCtorEq, L2.V.int.injEq, L2.V.ref.injEq, L2.V.bl.injEq, L2.V.str.injEq, L2.V.ty.injEq, L2.HO.ins.injEq, L2.HO.lst.injEq, L2.HO.tup.injEq, L2.HO.dK.injEq, exists_eq_left', exists_eq_left, exists_eq_right, exists_eq', exists_eq, exists_and_left, exists_and_right, reduceIte, Bool.false_eq_true, Bool.not_true, Bool.not_false,
  L2.tSeq, L2.tIfS, L2.tRet, L2.tRetN, L2.tNext, L2.tAsg, L2.gName, L2.tVar, L2.tC, L2.tCons, L2.tNil, L2.tCB, L2.tOp, L2.tUn, L2.tTup, L2.tLst, L2.tB, L2.tOr, L2.tAnd, L2.tNot, L2.tAndV, L2.tOrV, L2.tNotV, L2.tIf, L2.tTest, L2.tChain, L2.rI, L2.rI0, L2.rU, L2.tDrop, L2.tNever, L2.tCall, L2.tMeth, L2.tMake, L2.rGcd, L2.tFld, L2.sFld, L2.sFldAug, Mx.sFldA, Mx.sFldAugA, L2.rAdd, L2.rSub, L2.rEq, L2.rNe, L2.tDGet, L2.tDIn, L2.tDNotIn, L2.sDPut,
  Mx.isi_int_bool, Mx.isi_int_int, Mx.isi_int_tuple, Mx.isi_int_list, Mx.isi_int_str, Mx.scal_int, Mx.scal_str, Mx.scal_bl, Mx.ofString_inj, Mx.ofString_beq, Mx.lk_cons, Mx.pf_nil, Mx.pf_cons, Mx.sz1, Mx.sz2, List.lookup_nil, String.reduceEq, decide_true, decide_false, decide_eq_true_eq, Int.natAbs_natCast, L2.upd_same, L2.upd_upd, L2.cxOf, Mx.fsL, Mx.gFld, L2.gCons, L2.gNil, L2.tDNewK, L2.tDSetd, Mx.optV])
set_option hygiene false in
local macro_rules | `(tactic| walk_at "rds") => `(tactic| try simp only [L2.start, List.map_cons, List.map_nil, List.length_cons, List.length_nil, Nat.reduceAdd, Nat.reduceSub, Nat.reduceLT, Nat.reduceLeDiff, List.replicate_succ, List.replicate_zero, List.append_nil, List.nil_append, List.cons_append, List.set_cons_zero, List.set_cons_succ, List.getElem?_cons_zero, List.getElem?_cons_succ,
  Option.some.injEq, List.cons.injEq, and_true, true_and, and_assoc, reduceCtorEq, L2.V.int.injEq, L2.V.ref.injEq, L2.V.bl.injEq, L2.V.str.injEq, L2.V.ty.injEq, L2.HO.ins.injEq, L2.HO.lst.injEq, L2.HO.tup.injEq, L2.HO.dK.injEq, exists_eq_left', exists_eq_left, exists_eq_right, exists_eq', exists_eq, exists_and_left, exists_and_right, reduceIte, Bool.false_eq_true, Bool.not_true, Bool.not_false,
  L2.tSeq, L2.tIfS, L2.tRet, L2.tRetN, L2.tNext, L2.tAsg, L2.gName, L2.tVar, L2.tC, L2.tCons, L2.tNil, L2.tCB, L2.tOp, L2.tUn, L2.tTup, L2.tLst, L2.tB, L2.tOr, L2.tAnd, L2.tNot, L2.tAndV, L2.tOrV, L2.tNotV, L2.tIf, L2.tTest, L2.tChain, L2.rI, L2.rI0, L2.rU, L2.tDrop, L2.tNever, L2.tCall, L2.tMeth, L2.tMake, L2.rGcd, L2.tFld, L2.sFld, L2.sFldAug, Mx.sFldA, Mx.sFldAugA, L2.rAdd, L2.rSub, L2.rEq, L2.rNe, L2.tDGet, L2.tDIn, L2.tDNotIn, L2.sDPut,
  Mx.isi_int_bool, Mx.isi_int_int, Mx.isi_int_tuple, Mx.isi_int_list, Mx.isi_int_str, Mx.scal_int, Mx.scal_str, Mx.scal_bl, Mx.ofString_inj, Mx.ofString_beq, Mx.lk_cons, Mx.pf_nil, Mx.pf_cons, Mx.sz1, Mx.sz2, List.lookup_nil, String.reduceEq, decide_true, decide_false, decide_eq_true_eq, Int.natAbs_natCast, L2.upd_same, L2.upd_upd, L2.cxOf, Mx.fsL, Mx.gFld, L2.gCons, L2.gNil, L2.tDNewK, L2.tDSetd, Mx.optV, *])

section
variable {P : Program} {w : World} {K : PySem.W.Frag} {mg : Str → Option Value} {base : Heap} {C : Addr}
/-- numbers that a parcel may bring -/
structure ParOk (s : LineS) (i : Int) (ns : List Int) : Prop where
  i0 : 0 ≤ i
  i1 : i ≤ 999
  n0 : 1 ≤ ns.length
  n1 : ns.length ≤ 32
  nr : ∀ n ∈ ns, -999 ≤ n ∧ n ≤ 999
  rm : i + (ns.length : Int) ≤ s.room
def sp_Line_take (K : PySem.W.Frag) (C : Addr) : Sp := fun vs H Q _ => ∃ (l c a : Addr) (s : LineS) (i : Int) (ns : List Int), vs = [.ref l, .int i, .ref a] ∧ LineAt C H l c s ∧ SqL K H a (ns.map V.int) ∧ a ≠ l ∧ a ≠ c ∧ ParOk s i ns ∧ s.came.length ≤ 90000 ∧
  ∀ H', LineAt C H' l c (s.take i ns) → Stp [l, c] H H' → Q .non H'
theorem sc_Line_take : FnScope ["self", "place", "numbers", "behind", "at", "number"] ["self", "place", "numbers"] (defScope s_Line_take) := ⟨rfl, rfl, rfl, by decide +kernel, rfl, by decide +kernel, by decide +kernel⟩
theorem ok_Line_take {f : Addr} {fd : FuncData} (F : Fun K "take" "Line.take" s_Line_take f fd) (T : TL K C) (B : Blt mg) {tm : Tok} (hM : mg "MOST" = some (.int 1000 tm)) (GW : OwnF P w K mg base "is_whole" 1 ["number", "low", "high"] sp_is_whole)
    (GR : OwnM P w K mg base C "room" 1 ["self"] (sp_Line_room C)) : FnOk P w K mg base CX0 2 f fd ["self", "place", "numbers"] (sp_Line_take K C) := by
  refine F.ok sc_Line_take (fun vs H Q E h => ?_) (fun cdv A outer s H vs Q E hr h => ?_)
  · obtain ⟨l, c, a, s, i, ns, rfl, _⟩ := h
    rfl
  · obtain ⟨l, c, a, s, i, ns, rfl, hL, ha, hal, hac, hP, hlen, k⟩ := h
    refine ⟨_, pss_cons (ps_if (pt_not (pt_val (p_call GW hr (pa_cons (pv 1) (pa_cons pe_int (pa_cons (pe_op op_sub (pe_glob (v := .int 1000) (by rfl) hM ⟨_, rfl⟩) pe_int) pa_nil)))))) (pss_one ps_never) pss_nil)
      (pss_cons (ps_if (pt_not (pt_val (p_call GW hr (pa_cons (pe_callB call_len_seq (by rfl) B.len PySem.boot_len (pa_cons (pv 2) pa_nil)) (pa_cons pe_int (pa_cons pe_int pa_nil)))))) (pss_one ps_never) pss_nil)
      (pss_cons (ps_if (pt_not (pt_val (pe_callB (cr_all rfl) (by rfl) B.all PyProof.Rows.boot_all (pa_cons (pe_lc (own := [("number", 5)]) (te := tCall sp_is_whole [] E0 (tCons (tVar 5) (tCons (tUn (rU fun i => .int (-i)) (tC (.int 999))) (tCons (tC (.int 999)) tNil)))) rfl sc_Line_take.nd (pi_list (pv 2)) (blkOk_by (N := ["self", "place", "numbers", "behind", "at", "number"]) (sc := defScope s_Line_take) (by decide +kernel))
        (fun _ _ _ _ _ => pg_name (i := 5) sc_Line_take.nd rfl (.inl rfl)) (fun _ _ _ _ _ => pts_nil) (fun _ _ _ _ _ => p_call GW hr (pa_cons (pv 5) (pa_cons (pe_un un_neg pe_int) (pa_cons pe_int pa_nil))))) pa_nil)))) (pss_one ps_never) pss_nil)
      (pss_cons (ps_set (i := 3) sc_Line_take.nd rfl (.inl rfl) (pe_op op_add (pv 1) (pe_callB call_len_seq (by rfl) B.len PySem.boot_len (pa_cons (pv 2) pa_nil))))
      (pss_cons (ps_if (pt_cmpR op_gt (pv 3) (p_meth0 GR hr (pv 0)) (nomark _)) (pss_one ps_never) pss_nil)
      (pss_cons (ps_for PassesOwn.never rfl (pi_enumS (by rfl) B.enumerate (pv 2) (pv 1)) (pg_tup rfl (pgs_cons (pg_name (i := 4) sc_Line_take.nd rfl (.inl rfl)) (pgs_cons (pg_name (i := 5) sc_Line_take.nd rfl (.inl rfl)) pgs_nil)))
        (pss_one (ps_expr (pe_dsetd (pe_fld (pv 0) rfl) (pv 4) (pv 5) ⟨rfl, rfl, rfl, rfl⟩))))
      (pss_one (ps_fld (pv 0) (pe_callB (call_max2 rfl) (by rfl) B.max PyProof.Rows.boot_max (pa_cons (pe_fld (pv 0) rfl) (pa_cons (pv 3) pa_nil))) rfl))))))), ?_⟩
    obtain ⟨cl, a1, a3, a4, a5, a6⟩ := T
    obtain ⟨dx, tp, h1, htp⟩ := hL.ob
    obtain ⟨p1, p2, p3, p4, p5, p6⟩ := hP
    walk_at "rds"
    refine ⟨i, 0, 999, rfl, _, rfl, ?_⟩
    rw [decide_eq_true (show 0 ≤ i ∧ i ≤ 999 from ⟨p1, p2⟩)]
    refine iteF ⟨_, .inl ha, _, _, _, rfl, _, rfl, ?_⟩
    rw [decide_eq_true (show 1 ≤ (((ns.map V.int).length : Nat) : Int) ∧ (((ns.map V.int).length : Nat) : Int) ≤ 32 from by rw [List.length_map]; omega)]
    refine iteF ⟨_, rfl, a, rfl, ⟨_, ha⟩, lc_pure (K := K) (a := a) (H9 := H) (i := 5) (te := tCall sp_is_whole [] E0 (tCons (tVar 5) (tCons (tUn (rU fun i => .int (-i)) (tC (.int 999))) (tCons (tC (.int 999)) tNil)))) (σ := [some (.ref l), some (.int i), some (.ref a), none, none, none]) (Q := fun x H1 => rAll K [x] H1 _) (fun _ => .bl true) ha ?_ (fun x hx H1 Q' hs q => ?_) (fun D H1 hD hs1 hl1 => ?_)⟩
    · rw [List.length_map]
      omega
    · obtain ⟨n, hn, rfl⟩ := List.mem_map.mp hx
      refine ⟨_, rfl, _, rfl, n, -999, 999, rfl, ?_⟩
      rw [decide_eq_true (p5 n hn)]
      exact q
    · have ha1 := seq_st ha hs1 (by simp)
      have h1' := hs1.keep _ _ h1 (by simp)
      have hL1 := hL.st0 hs1
      refine ⟨D, ns.map fun _ => true, rfl, .inl (.inl (by rw [hl1, List.map_map, List.map_map]; rfl)), _, rfl, ?_⟩
      rw [show (ns.map fun _ => true).all id = true from by simp]
      refine iteF ⟨_, .inl ha1, _, _, h1', ?_, l, c, s, rfl, hL1, _, rfl, ?_⟩
      · walk_at "rd"
      rw [if_neg (by rw [List.length_map]; omega)]
      refine ⟨_, rfl, _, rfl, a, _, i, rfl, rfl, ha1, by omega, by omega, ?_⟩
      refine for_enumS (K := K) (a := a) (z := i) (xs := ns.map V.int) (fun j σ H2 => ∃ v4 v5, σ = [some (.ref l), some (.int i), some (.ref a), some (.int (i + ((ns.map V.int).length : Nat))), v4, v5] ∧ LineAt C H2 l c { s with came := putAll s.came i (ns.take j) } ∧ Stp [l, c] H H2) ⟨_, _, rfl, hL1, hs1.sub (by simp)⟩ (fun j σ H2 _ h => ?_) (fun j x σ H2 U hj h hU => ?_) (fun σ H2 h => ?_)
      · obtain ⟨_, _, _, _, hs2⟩ := h
        exact seq_st ha hs2 (by simp [hal, hac])
      · obtain ⟨v4, v5, rfl, hL2, hs2⟩ := h
        rw [List.getElem?_map] at hj
        obtain ⟨n, hn, rfl⟩ := Option.map_eq_some_iff.mp hj
        have hst := Stp.new (o := .tup [.int (i + (j : Nat)), .int n]) hU
        have hL3 := hL2.st0 hst
        obtain ⟨dy, tp2, g1, ht2⟩ := hL3.ob
        refine ⟨U, _, rfl, .inl (.inl upd_same), rfl, ?_⟩
        walk_at "rds"
        have hd := hL3.dc

        refine ⟨.inl ⟨_, .inl hd⟩, _, hd, Sum.inl (i + (j : Nat)), rfl, ?_, fun v hv => ?_, fun hv => ?_⟩
        · refine Nat.lt_of_le_of_lt ?_ (show 90032 < sizeLine by decide)
          have := putAll_len (ns.take j) s.came i
          have : (ns.take j).length ≤ ns.length := by rw [List.length_take]; exact Nat.min_le_right _ _
          rw [show (cam (putAll s.came i (ns.take j))).length = (putAll s.came i (ns.take j)).length from by simp [cam]]
          omega
        all_goals
          have hjl : (ns.take j).length = j := by
            rw [List.length_take]
            have := (List.getElem?_eq_some_iff.mp hn).1
            omega
          have et : ns.take (j + 1) = ns.take j ++ [n] := by rw [List.take_add_one, hn]; rfl
          have ep := putAll_snoc (ns.take j) s.came i n
          rw [hjl, ← et] at ep
        · refine ⟨?_, (hs2.trans hst).sub (by simp)⟩
          rw [cam_get] at hv
          cases el : look (putAll s.came i (ns.take j)) (i + (j : Nat)) with
          | none => rw [el] at hv; cases hv
          | some y =>
            rw [ep]
            unfold put1
            rw [el]
            exact hL3
        · rw [cam_get] at hv
          have el : look (putAll s.came i (ns.take j)) (i + (j : Nat)) = none := by
            cases el : look (putAll s.came i (ns.take j)) (i + (j : Nat)) with
            | none => rfl
            | some y => rw [el] at hv; cases hv
          have hne := hL3.ne
          refine ⟨⟨⟨dy, tp2, ?_, (Stp.put hd (fun xs z => nomatch z)).tup _ _ ht2⟩, ?_⟩, ((hs2.trans hst).trans (Stp.put hd (fun xs z => nomatch z))).sub (by simp)⟩
          · rw [upd_ne hne]
            exact g1
          · rw [upd_same, ep, cam_put el]
      · obtain ⟨v4, v5, rfl, hL2, hs2⟩ := h
        rw [List.length_map, List.take_length] at hL2
        obtain ⟨dy, tp2, g1, ht2⟩ := hL2.ob
        have hne := hL2.ne
        walk_at "rds"
        refine k _ ⟨⟨dy, tp2, ?_, (Stp.put g1 (fun xs z => nomatch z)).tup _ _ ht2⟩, ?_⟩ ?_
        · rw [upd_same]
          have e : (if i + (((ns.map V.int).length : Nat) : Int) > s.reach then i + (((ns.map V.int).length : Nat) : Int) else s.reach) = max s.reach (i + (ns.length : Int)) := by
            rw [List.length_map]
            split <;> omega
          rw [e]
          rfl
        · rw [upd_ne hne.symm]
          exact hL2.dc
        · exact (hs2.trans (Stp.put g1 (fun xs z => nomatch z))).sub (by simp)
end
end Mx

namespace Mx
open PySem L2
/-! ### loudness -/
structure LoudS where
  level : Rat
  stride : Rat
  left : Int
def LoudS.on (s : LoudS) : LoudS := if 0 < s.left then ⟨s.level + s.stride, s.stride, s.left - 1⟩ else s
def LoudS.to (s : LoudS) (l b : Int) : LoudS := ⟨s.level, (mkRat l 64 - s.level) * mkRat 1 b.toNat, b⟩
/-- of a common bottom 64 * D, of so many bits -/
structure LoudIs (D : Nat) (a b : Int) (s : LoudS) : Prop where
  d0 : 0 < D
  lv : s.level = mkRat a (64 * D)
  st : s.stride = mkRat b (64 * D)
  a0 : 0 ≤ a
  a1 : a ≤ 64 * (D : Int)
  b0 : -(64 * (D : Int)) ≤ b
  b1 : b ≤ 64 * (D : Int)
  l0 : 0 ≤ s.left
  e0 : 0 ≤ a + b * s.left
  e1 : a + b * s.left ≤ 64 * (D : Int)
def LoudOk (d : Nat) (s : LoudS) : Prop := ∃ D a b, LoudIs D a b s ∧ 64 * D < 2 ^ d
theorem LoudIs.rb {d D : Nat} {a b : Int} {s : LoudS} (h : LoudIs D a b s) (hd : 64 * D < 2 ^ d) : Rb d s.level ∧ Rb d s.stride := by
  obtain ⟨d0, lv, st, a0, a1, b0, b1, l0, e0, e1⟩ := h
  rw [lv, st]
  exact ⟨Rb.of (by omega) (by omega) hd, Rb.of (by omega) (by omega) hd⟩
theorem mk_add (a b : Int) {D : Nat} (h : 0 < D) : mkRat a D + mkRat b D = mkRat (a + b) D := by
  rw [Rat.mkRat_eq_div, Rat.mkRat_eq_div, Rat.mkRat_eq_div, Rat.intCast_add]
  have : ((D : Nat) : Rat) ≠ 0 := by
    intro z
    have := Rat.natCast_eq_zero_iff.mp z
    omega
  grind
theorem LoudOk.on {d : Nat} {s : LoudS} (h : LoudOk d s) : LoudOk d s.on := by
  obtain ⟨D, a, b, h, hd⟩ := h
  unfold LoudS.on
  split
  · rename_i hp
    obtain ⟨d0, lv, st, a0, a1, b0, b1, l0, e0, e1⟩ := h
    refine ⟨D, a + b, b, ⟨d0, ?_, st, ?_, ?_, b0, b1, by show 0 ≤ s.left - 1; omega, ?_, ?_⟩, hd⟩
    · show s.level + s.stride = _
      rw [lv, st, mk_add a b (by omega)]
    · by_cases hb : 0 ≤ b
      · omega
      · have : b * s.left ≤ b * 1 := Int.mul_le_mul_of_nonpos_left (by omega) (by omega)
        omega
    · by_cases hb : 0 ≤ b
      · have : b * 1 ≤ b * s.left := Int.mul_le_mul_of_nonneg_left (by omega) hb
        omega
      · omega
    · show 0 ≤ a + b + b * (s.left - 1)
      have : b * (s.left - 1) = b * s.left - b := by rw [Int.mul_sub, Int.mul_one]
      omega
    · show a + b + b * (s.left - 1) ≤ _
      have : b * (s.left - 1) = b * s.left - b := by rw [Int.mul_sub, Int.mul_one]
      omega
  · exact ⟨D, a, b, h, hd⟩
def fsD (lv st : V) (left : Int) : List (Str × V) := [("level", lv), ("stride", st), ("left", .int left)]
def LoudAt (K : PySem.W.Frag) (C : Addr) (H : Hp) (q : Addr) (s : LoudS) : Prop := ∃ dx lv st, H q = some (.ins C dx (fsD lv st s.left)) ∧ IsQ K H lv s.level ∧ IsQ K H st s.stride
theorem LoudAt.st {K : PySem.W.Frag} {C : Addr} {F : List Addr} {H H' : Hp} {q : Addr} {s : LoudS} (h : LoudAt K C H q s) (k : Stp F H H') (n : q ∉ F) : LoudAt K C H' q s := by
  obtain ⟨dx, lv, st, h1, h2, h3⟩ := h
  exact ⟨dx, lv, st, k.keep _ _ h1 n, h2.st k, h3.st k⟩
structure TD (K : PySem.W.Frag) (C : Addr) : Prop where
  cl : Cls K C
  a1 : NoAttr K C "level"
  a2 : NoAttr K C "stride"
  a3 : NoAttr K C "left"
/-- the top's constants -/
structure TC (K : PySem.W.Frag) (mg : Str → Option Value) : Prop where
  nothing : ∃ a, mg "NOTHING" = some (.ref a) ∧ ∀ H : Hp, SqT K H a (frac 0)
  most : ∃ t, mg "MOST" = some (.int 1000 t)
  full : ∃ t, mg "FULL" = some (.int 64 t)
  hushed : ∃ t, mg "HUSHED" = some (.str "hushed" t)
  rising : ∃ t, mg "RISING" = some (.str "rising" t)
  on : ∃ t, mg "ON" = some (.str "on" t)
  falling : ∃ t, mg "FALLING" = some (.str "falling" t)
theorem isQ0 {K : PySem.W.Frag} {H : Hp} {a : Addr} (h : ∀ H : Hp, SqT K H a (frac 0)) : IsQ K H (.ref a) 0 := ⟨a, rfl, .inr h⟩
theorem isQ_of {K : PySem.W.Frag} {H : Hp} {p : Addr} {q : Rat} (h : H p = some (.tup (frac q))) : IsQ K H (.ref p) q := ⟨p, rfl, .inl h⟩
set_option hygiene false in
local macro_rules | `(tactic| walk_at "rd") => `(tactic| try simp only [L2.start, List.map_cons, List.map_nil, List.length_cons, List.length_nil, Nat.reduceAdd, Nat.reduceSub, Nat.reduceLT, Nat.reduceLeDiff, List.replicate_succ, List.replicate_zero, List.append_nil, List.nil_append, List.cons_append, List.set_cons_zero, List.set_cons_succ, List.getElem?_cons_zero, List.getElem?_cons_succ,
  Option.some.injEq, List.cons.injEq, and_true, true_and, and_assoc, reduceCtorEq, L2.V.int.injEq, L2.V.ref.injEq, L2.V.bl.injEq, L2.V.str.injEq, L2.V.ty.injEq, L2.HO.ins.injEq, L2.HO.lst.injEq, L2.HO.tup.injEq, L2.HO.dK.injEq, exists_eq_left', exists_eq_left, exists_eq_right, exists_eq', exists_eq, exists_and_left, exists_and_right, reduceIte, Bool.false_eq_true, Bool.not_true, Bool.not_false,
  L2.tSeq, L2.tIfS, L2.tRet, L2.tRetN, L2.tNext, L2.tAsg, L2.gName, L2.tVar, L2.tC, L2.tCons, L2.tNil, L2.tCB, L2.tOp, L2.tUn, L2.tTup, L2.tLst, L2.tB, L2.tOr, L2.tAnd, L2.tNot, L2.tAndV, L2.tOrV, L2.tNotV, L2.tIf, L2.tTest, L2.tChain, L2.rI, L2.rI0, L2.rU, L2.tDrop, L2.tNever, L2.tCall, L2.tMeth, L2.tMake, L2.rGcd, L2.tFld, L2.sFld, L2.sFldAug, Mx.sFldA, Mx.sFldAugA, L2.rAdd, L2.rSub, L2.rEq, L2.rNe, L2.tDGet, L2.tDIn, L2.tDNotIn, L2.sDPut,
  Mx.isi_int_bool, Mx.isi_int_int, Mx.isi_int_tuple, Mx.isi_int_list, Mx.isi_int_str, Mx.scal_int, Mx.scal_str, Mx.scal_bl, Mx.ofString_inj, Mx.ofString_beq, Mx.lk_cons, Mx.pf_nil, Mx.pf_cons, Mx.sz1, Mx.sz2, List.lookup_nil, String.reduceEq, decide_true, decide_false, decide_eq_true_eq, Int.natAbs_natCast, L2.upd_same, L2.upd_upd, L2.cxOf, Mx.fsD])
set_option hygiene false in
local macro_rules | `(tactic| walk_at "rds") => `(tactic| try simp only [L2.start, List.map_cons, List.map_nil, List.length_cons, List.length_nil, Nat.reduceAdd, Nat.reduceSub, Nat.reduceLT, Nat.reduceLeDiff, List.replicate_succ, List.replicate_zero, List.append_nil, List.nil_append, List.cons_append, List.set_cons_zero, List.set_cons_succ, List.getElem?_cons_zero, List.getElem?_cons_succ,
  Option.some.injEq, List.cons.injEq, and_true, true_and, and_assoc, reduceCtorEq, L2.V.int.injEq, L2.V.ref.injEq, L2.V.bl.injEq, L2.V.str.injEq, L2.V.ty.injEq, L2.HO.ins.injEq, L2.HO.lst.injEq, L2.HO.tup.injEq, L2.HO.dK.injEq, exists_eq_left', exists_eq_left, exists_eq_right, exists_eq', exists_eq, exists_and_left, exists_and_right, reduceIte, Bool.false_eq_true, Bool.not_true, Bool.not_false,
  L2.tSeq, L2.tIfS, L2.tRet, L2.tRetN, L2.tNext, L2.tAsg, L2.gName, L2.tVar, L2.tC, L2.tCons, L2.tNil, L2.tCB, L2.tOp, L2.tUn, L2.tTup, L2.tLst, L2.tB, L2.tOr, L2.tAnd, L2.tNot, L2.tAndV, L2.tOrV, L2.tNotV, L2.tIf, L2.tTest, L2.tChain, L2.rI, L2.rI0, L2.rU, L2.tDrop, L2.tNever, L2.tCall, L2.tMeth, L2.tMake, L2.rGcd, L2.tFld, L2.sFld, L2.sFldAug, Mx.sFldA, Mx.sFldAugA, L2.rAdd, L2.rSub, L2.rEq, L2.rNe, L2.tDGet, L2.tDIn, L2.tDNotIn, L2.sDPut,
  Mx.isi_int_bool, Mx.isi_int_int, Mx.isi_int_tuple, Mx.isi_int_list, Mx.isi_int_str, Mx.scal_int, Mx.scal_str, Mx.scal_bl, Mx.ofString_inj, Mx.ofString_beq, Mx.lk_cons, Mx.pf_nil, Mx.pf_cons, Mx.sz1, Mx.sz2, List.lookup_nil, String.reduceEq, decide_true, decide_false, decide_eq_true_eq, Int.natAbs_natCast, L2.upd_same, L2.upd_upd, L2.cxOf, Mx.fsD, *])

section
variable {P : Program} {w : World} {K : PySem.W.Frag} {mg : Str → Option Value} {base : Heap} {C : Addr}
def sp_Loudness_init (K : PySem.W.Frag) (C : Addr) : Sp := fun vs H Q _ => ∃ (q dx : Addr) (n : Int), vs = [.ref q, .int n] ∧ H q = some (.ins C dx []) ∧ ∀ H', LoudAt K C H' q ⟨mkRat n 64, 0, 0⟩ → Stp [q] H H' → Q .non H'
theorem sc_Loudness_init : FnScope ["self", "loudness"] ["self", "loudness"] (defScope s_Loudness_init) := ⟨rfl, rfl, rfl, by decide +kernel, rfl, by decide +kernel, by decide +kernel⟩
theorem ok_Loudness_init {f : Addr} {fd : FuncData} (F : Fun K "__init__" "Loudness.__init__" s_Loudness_init f fd) (T : TD K C) (TT : TC K mg) (GR : OwnF P w K mg base "ratio" 1 ["top", "bottom"] sp_ratio) : FnOk P w K mg base CX0 2 f fd ["self", "loudness"] (sp_Loudness_init K C) := by
  refine F.ok sc_Loudness_init (fun vs H Q E h => ?_) (fun cdv A outer s H vs Q E hr h => ?_)
  · obtain ⟨q, dx, n, rfl, _⟩ := h
    rfl
  · obtain ⟨q, dx, n, rfl, hq, k⟩ := h
    obtain ⟨cl, a1, a2, a3⟩ := T
    obtain ⟨aN, hN, hN2⟩ := TT.nothing
    obtain ⟨tF, hF⟩ := TT.full
    refine ⟨_, pss_cons (ps_fldA (pv 0) (p_call GR hr (pa_cons (pv 1) (pa_cons (pe_glob (v := .int 64) (by rfl) hF ⟨_, rfl⟩) pa_nil))) rfl)
      (pss_cons (ps_fldA (pv 0) (pe_glob (v := .ref aN) (by rfl) hN rfl) rfl) (pss_one (ps_fldA (pv 0) pe_int rfl))), ?_⟩
    walk_at "rds"
    refine ⟨n, 64, rfl, by decide, Nat.pow_lt_pow_right (by decide) (show 7 < 9000 by decide) |> Nat.lt_trans (by decide), fun p H1 hp s1 l1 => ?_⟩
    have h1 := s1.keep _ _ hq (by simp)
    walk_at "rds"
    intro H2 h2 s2
    walk_at "rds"
    intro H3 h3 s3
    walk_at "rds"
    intro H4 h4 s4
    have s34 := s3.trans s4
    exact k _ ⟨dx, _, _, h4, (isQ_of l1).st (s2.trans s34), isQ0 hN2⟩ ((s1.trans (s2.trans s34)).sub (by simp))
def sp_Loudness_lead_on (K : PySem.W.Frag) (C : Addr) : Sp := fun vs H Q _ => ∃ (q : Addr) (s : LoudS) (d : Nat), vs = [.ref q] ∧ LoudAt K C H q s ∧ LoudOk d s ∧ 0 < d ∧ 2 * d < 9000 ∧ ∀ H', LoudAt K C H' q s.on → Stp [q] H H' → Q .non H'
theorem sc_Loudness_lead_on : FnScope ["self"] ["self"] (defScope s_Loudness_lead_on) := ⟨rfl, rfl, rfl, by decide +kernel, rfl, by decide +kernel, by decide +kernel⟩
theorem ok_Loudness_lead_on {f : Addr} {fd : FuncData} (F : Fun K "lead_on" "Loudness.lead_on" s_Loudness_lead_on f fd) (T : TD K C) (GP : OwnF P w K mg base "plus" 2 ["one", "other"] (sp_two (· + ·) K)) : FnOk P w K mg base CX0 3 f fd ["self"] (sp_Loudness_lead_on K C) := by
  refine F.ok sc_Loudness_lead_on (fun vs H Q E h => ?_) (fun cdv A outer s H vs Q E hr h => ?_)
  · obtain ⟨q, s, d, rfl, _⟩ := h
    rfl
  · obtain ⟨q, s, d, rfl, hq, hO, hd0, hd, k⟩ := h
    obtain ⟨cl, a1, a2, a3⟩ := T
    obtain ⟨dx, lv, st, h1, h2, h3⟩ := id hq
    refine ⟨_, pss_one (ps_if (pt_cmpR op_gt (pe_fld (pv 0) rfl) pe_int (nomark _)) (pss_cons (ps_fldA (pv 0) (p_call GP hr (pa_cons (pe_fld (pv 0) rfl) (pa_cons (pe_fld (pv 0) rfl) pa_nil))) rfl) (pss_one (ps_fldaugA (pv 0) pe_int in_sub))) pss_nil), ?_⟩
    obtain ⟨a, rfl, h2'⟩ := h2
    obtain ⟨b, rfl, h3'⟩ := h3
    obtain ⟨D, x, y, hI, hD⟩ := hO
    obtain ⟨r1, r2⟩ := hI.rb hD
    unfold LoudS.on at k
    walk_at "rds"
    by_cases hl : 0 < s.left
    · rw [if_pos hl] at k ⊢
      refine ⟨a, b, s.level, s.stride, d, d, rfl, h2', h3', r1, r2, by omega, hd0, hd0, fun p H1 hp s1 l1 => ?_⟩
      have g1 := s1.keep _ _ h1 (by simp)
      walk_at "rds"
      intro H2 g2 s2
      walk_at "rds"
      intro H3 g3 s3
      have s23 := s2.trans s3
      exact k _ ⟨dx, _, _, g3, (isQ_of l1).st s23, ⟨b, rfl, (h3'.st s1).st s23⟩⟩ ((s1.trans s23).sub (by simp))
    · rw [if_neg hl] at k ⊢
      exact k H hq (Stp.refl.sub (by simp))
end
/-! ### one voice -/
structure VoiceS where
  line : LineS
  loud : LoudS
  heard : Bool
  word : Str
  steps : Int
  part : Rat
  height : Rat
abbrev wH : Str := "hushed"
abbrev wR : Str := "rising"
abbrev wO : Str := "on"
abbrev wF : Str := "falling"
def VoiceS.fall (v : VoiceS) (soft : Int) : VoiceS := { v with steps := v.steps + 1, part := v.height * mkRat (soft - (v.steps + 1)) soft.toNat, word := if v.steps + 1 = soft then wH else v.word }
def VoiceS.rise (v : VoiceS) (whole : Rat) (soft : Int) : VoiceS := { v with steps := v.steps + 1, part := whole * mkRat (v.steps + 1) soft.toNat, word := if v.steps + 1 = soft then wO else v.word }
def VoiceS.sound (v : VoiceS) (whole : Rat) (soft : Int) : VoiceS := if v.word = wO then { v with part := whole } else (if v.word = wH then { v with word := wR, steps := 0 } else v).rise whole soft
def VoiceS.beginFall (v : VoiceS) (soft : Int) : VoiceS := VoiceS.fall { v with word := wF, steps := 0, height := v.part } soft
def VoiceS.may (v : VoiceS) (t : Int) : Bool := v.heard && v.line.ready t
def VoiceS.give (v : VoiceS) (t soft : Int) : VoiceS :=
  let u : VoiceS := { v with loud := v.loud.on }
  if v.word = wF then u.fall soft else if v.may t = true then u.sound (v.line.value t * v.loud.on.level) soft else if v.word = wH then u else u.beginFall soft
def fsV (l q : Addr) (v : VoiceS) (pv hv : V) : List (Str × V) := [("line", .ref l), ("loudness", .ref q), ("heard", .bl v.heard), ("state", .str v.word), ("steps", .int v.steps), ("part", pv), ("height", hv)]
/-- the voice's own object -/
def VObj (K : PySem.W.Frag) (C : Addr) (H : Hp) (a l q : Addr) (v : VoiceS) : Prop := ∃ dx pv hv, H a = some (.ins C dx (fsV l q v pv hv)) ∧ IsQ K H pv v.part ∧ IsQ K H hv v.height
theorem VObj.st {K : PySem.W.Frag} {C : Addr} {F : List Addr} {H H' : Hp} {a l q : Addr} {v : VoiceS} (h : VObj K C H a l q v) (k : Stp F H H') (n : a ∉ F) : VObj K C H' a l q v := by
  obtain ⟨dx, pv, hv, h1, h2, h3⟩ := h
  exact ⟨dx, pv, hv, k.keep _ _ h1 n, h2.st k, h3.st k⟩
structure TV (K : PySem.W.Frag) (C : Addr) : Prop where
  cl : Cls K C
  a1 : NoAttr K C "line"
  a2 : NoAttr K C "loudness"
  a3 : NoAttr K C "heard"
  a4 : NoAttr K C "state"
  a5 : NoAttr K C "steps"
  a6 : NoAttr K C "part"
  a7 : NoAttr K C "height"
theorem p9000 {n m : Nat} (h : n < 2 ^ m) (l : m < 9000) : n < 2 ^ 9000 := Nat.lt_of_lt_of_le h (Nat.pow_le_pow_right (by decide) (Nat.le_of_lt l))
theorem ratioOk {k soft : Int} (h0 : 0 ≤ k) (h1 : k ≤ soft) (h2 : 1 ≤ soft) (h3 : soft ≤ 16) : Rb 5 (mkRat k soft.toNat) := Rb.of (by omega) (by omega) (by omega)
set_option hygiene false in
local macro_rules | `(tactic| walk_at "rd") => `(tactic| try simp only [L2.start, List.map_cons, List.map_nil, List.length_cons, List.length_nil, Nat.reduceAdd, Nat.reduceSub, Nat.reduceLT, Nat.reduceLeDiff, List.replicate_succ, List.replicate_zero, List.append_nil, List.nil_append, List.cons_append, List.set_cons_zero, List.set_cons_succ, List.getElem?_cons_zero, List.getElem?_cons_succ,
  Option.some.injEq, List.cons.injEq, and_true, true_and, and_assoc, reduceCtorEq, L2.V.int.injEq, L2.V.ref.injEq, L2.V.bl.injEq, L2.V.str.injEq, L2.V.ty.injEq, L2.HO.ins.injEq, L2.HO.lst.injEq, L2.HO.tup.injEq, L2.HO.dK.injEq, exists_eq_left', exists_eq_left, exists_eq_right, exists_eq', exists_eq, exists_and_left, exists_and_right, reduceIte, Bool.false_eq_true, Bool.not_true, Bool.not_false,
  L2.tSeq, L2.tIfS, L2.tRet, L2.tRetN, L2.tNext, L2.tAsg, L2.gName, L2.tVar, L2.tC, L2.tCons, L2.tNil, L2.tCB, L2.tOp, L2.tUn, L2.tTup, L2.tLst, L2.tB, L2.tOr, L2.tAnd, L2.tNot, L2.tAndV, L2.tOrV, L2.tNotV, L2.tIf, L2.tTest, L2.tChain, L2.rI, L2.rI0, L2.rU, L2.tDrop, L2.tNever, L2.tCall, L2.tMeth, L2.tMake, L2.rGcd, L2.tFld, L2.sFld, L2.sFldAug, Mx.sFldA, Mx.sFldAugA, L2.rAdd, L2.rSub, L2.rEq, L2.rNe, L2.tDGet, L2.tDIn, L2.tDNotIn, L2.sDPut,
  Mx.isi_int_bool, Mx.isi_int_int, Mx.isi_int_tuple, Mx.isi_int_list, Mx.isi_int_str, Mx.scal_int, Mx.scal_str, Mx.scal_bl, Mx.ofString_inj, Mx.ofString_beq, Mx.lk_cons, Mx.pf_nil, Mx.pf_cons, Mx.sz1, Mx.sz2, List.lookup_nil, String.reduceEq, decide_true, decide_false, decide_eq_true_eq, Int.natAbs_natCast, L2.upd_same, L2.upd_upd, L2.cxOf, Mx.fsV])
set_option hygiene false in
local macro_rules | `(tactic| walk_at "rds") => `(tactic| try simp only [L2.start, List.map_cons, List.map_nil, List.length_cons, List.length_nil, Nat.reduceAdd, Nat.reduceSub, Nat.reduceLT, Nat.reduceLeDiff, List.replicate_succ, List.replicate_zero, List.append_nil, List.nil_append, List.cons_append, List.set_cons_zero, List.set_cons_succ, List.getElem?_cons_zero, List.getElem?_cons_succ,
  Option.some.injEq, List.cons.injEq, and_true, true_and, and_assoc, reduceCtorEq, L2.V.int.injEq, L2.V.ref.injEq, L2.V.bl.injEq, L2.V.str.injEq, L2.V.ty.injEq, L2.HO.ins.injEq, L2.HO.lst.injEq, L2.HO.tup.injEq, L2.HO.dK.injEq, exists_eq_left', exists_eq_left, exists_eq_right, exists_eq', exists_eq, exists_and_left, exists_and_right, reduceIte, Bool.false_eq_true, Bool.not_true, Bool.not_false,
  L2.tSeq, L2.tIfS, L2.tRet, L2.tRetN, L2.tNext, L2.tAsg, L2.gName, L2.tVar, L2.tC, L2.tCons, L2.tNil, L2.tCB, L2.tOp, L2.tUn, L2.tTup, L2.tLst, L2.tB, L2.tOr, L2.tAnd, L2.tNot, L2.tAndV, L2.tOrV, L2.tNotV, L2.tIf, L2.tTest, L2.tChain, L2.rI, L2.rI0, L2.rU, L2.tDrop, L2.tNever, L2.tCall, L2.tMeth, L2.tMake, L2.rGcd, L2.tFld, L2.sFld, L2.sFldAug, Mx.sFldA, Mx.sFldAugA, L2.rAdd, L2.rSub, L2.rEq, L2.rNe, L2.tDGet, L2.tDIn, L2.tDNotIn, L2.sDPut,
  Mx.isi_int_bool, Mx.isi_int_int, Mx.isi_int_tuple, Mx.isi_int_list, Mx.isi_int_str, Mx.scal_int, Mx.scal_str, Mx.scal_bl, Mx.ofString_inj, Mx.ofString_beq, Mx.lk_cons, Mx.pf_nil, Mx.pf_cons, Mx.sz1, Mx.sz2, List.lookup_nil, String.reduceEq, decide_true, decide_false, decide_eq_true_eq, Int.natAbs_natCast, L2.upd_same, L2.upd_upd, L2.cxOf, Mx.fsV, *])

section
variable {P : Program} {w : World} {K : PySem.W.Frag} {mg : Str → Option Value} {base : Heap} {C : Addr}
def sp_Voice_fall (K : PySem.W.Frag) (C : Addr) : Sp := fun vs H Q _ => ∃ (a l q : Addr) (v : VoiceS) (soft : Int) (n : Nat), vs = [.ref a, .int soft] ∧ VObj K C H a l q v ∧ 1 ≤ soft ∧ soft ≤ 16 ∧ 0 ≤ v.steps ∧ v.steps < soft ∧ Rb n v.height ∧ 0 < n ∧ n < 8900 ∧
  ∀ H', VObj K C H' a l q (v.fall soft) → Stp [a] H H' → Q .non H'
theorem sc_Voice_fall : FnScope ["self", "soft"] ["self", "soft"] (defScope s_Voice_fall) := ⟨rfl, rfl, rfl, by decide +kernel, rfl, by decide +kernel, by decide +kernel⟩
theorem ok_Voice_fall {f : Addr} {fd : FuncData} (F : Fun K "fall" "Voice.fall" s_Voice_fall f fd) (T : TV K C) (TT : TC K mg) (GR : OwnF P w K mg base "ratio" 1 ["top", "bottom"] sp_ratio) (GT : OwnF P w K mg base "times" 2 ["one", "other"] (sp_two (· * ·) K)) :
    FnOk P w K mg base CX0 3 f fd ["self", "soft"] (sp_Voice_fall K C) := by
  refine F.ok sc_Voice_fall (fun vs H Q E h => ?_) (fun cdv A outer s H vs Q E hr h => ?_)
  · obtain ⟨a, l, q, v, soft, n, rfl, _⟩ := h
    rfl
  · obtain ⟨a, l, q, v, soft, n, rfl, hV, hs1, hs2, hk0, hk1, hb, hn0, hn1, k⟩ := h
    obtain ⟨tH, hH⟩ := TT.hushed
    refine ⟨_, pss_cons (ps_fldaugA (pv 0) pe_int in_add)
      (pss_cons (ps_fldA (pv 0) (p_call GT hr (pa_cons (pe_fld (pv 0) rfl) (pa_cons (p_call GR (hr.mono (by decide)) (pa_cons (pe_op op_sub (pv 1) (pe_fld (pv 0) rfl)) (pa_cons (pv 1) pa_nil))) pa_nil))) rfl)
      (pss_one (ps_if (pt_cmpR op_eq (pe_fld (pv 0) rfl) (pv 1) (nomark _)) (pss_one (ps_fldA (pv 0) (pe_glob (v := .str "hushed") (by rfl) hH ⟨_, rfl⟩) rfl)) pss_nil))), ?_⟩
    obtain ⟨cl, a1, a2, a3, a4, a5, a6, a7⟩ := T
    obtain ⟨dx, pv, hv, h1, h2, h3⟩ := hV
    obtain ⟨ah, rfl, h3'⟩ := h3
    walk_at "rds"
    intro H1 g1 s1
    walk_at "rds"
    refine ⟨_, _, rfl, by omega, p9000 (show soft.natAbs < 2 ^ 5 by omega) (by decide), fun p H2 hp s2 l2 => ?_⟩
    have g2 := s2.keep _ _ g1 (by simp)
    refine ⟨ah, p, v.height, mkRat (soft - (v.steps + 1)) soft.toNat, n, 5, rfl, (h3'.st s1).st s2, .inl l2, hb, ratioOk (by omega) (by omega) hs1 hs2, by omega, hn0, by decide, fun r H3 hr' s3 l3 => ?_⟩
    have g3 := s3.keep _ _ g2 (by simp)
    walk_at "rds"
    intro H4 g4 s4
    have t4 := (s1.trans (s2.trans s3)).trans s4
    walk_at "rds"
    unfold VoiceS.fall at k
    by_cases e : v.steps + 1 = soft
    · rw [if_pos e] at k ⊢
      intro H5 g5 s5
      exact k _ ⟨dx, _, _, g5, (isQ_of l3).st (s4.trans s5), ⟨ah, rfl, h3'.st (t4.trans s5)⟩⟩ ((t4.trans s5).sub (by simp))
    · rw [if_neg e] at k ⊢
      exact k _ ⟨dx, _, _, g4, (isQ_of l3).st s4, ⟨ah, rfl, h3'.st t4⟩⟩ (t4.sub (by simp))

def sp_Voice_rise (K : PySem.W.Frag) (C : Addr) : Sp := fun vs H Q _ => ∃ (a l q : Addr) (v : VoiceS) (wv : V) (x : Rat) (soft : Int) (n : Nat), vs = [.ref a, wv, .int soft] ∧ VObj K C H a l q v ∧ IsQ K H wv x ∧ 1 ≤ soft ∧ soft ≤ 16 ∧ 0 ≤ v.steps ∧ v.steps < soft ∧ Rb n x ∧ 0 < n ∧ n < 8900 ∧
  ∀ H', VObj K C H' a l q (v.rise x soft) → Stp [a] H H' → Q .non H'
theorem sc_Voice_rise : FnScope ["self", "whole", "soft"] ["self", "whole", "soft"] (defScope s_Voice_rise) := ⟨rfl, rfl, rfl, by decide +kernel, rfl, by decide +kernel, by decide +kernel⟩
theorem ok_Voice_rise {f : Addr} {fd : FuncData} (F : Fun K "rise" "Voice.rise" s_Voice_rise f fd) (T : TV K C) (TT : TC K mg) (GR : OwnF P w K mg base "ratio" 1 ["top", "bottom"] sp_ratio) (GT : OwnF P w K mg base "times" 2 ["one", "other"] (sp_two (· * ·) K)) :
    FnOk P w K mg base CX0 3 f fd ["self", "whole", "soft"] (sp_Voice_rise K C) := by
  refine F.ok sc_Voice_rise (fun vs H Q E h => ?_) (fun cdv A outer s H vs Q E hr h => ?_)
  · obtain ⟨a, l, q, v, wv, x, soft, n, rfl, _⟩ := h
    rfl
  · obtain ⟨a, l, q, v, wv, x, soft, n, rfl, hV, hW, hs1, hs2, hk0, hk1, hb, hn0, hn1, k⟩ := h
    obtain ⟨tO, hO⟩ := TT.on
    refine ⟨_, pss_cons (ps_fldaugA (pv 0) pe_int in_add)
      (pss_cons (ps_fldA (pv 0) (p_call GT hr (pa_cons (pv 1) (pa_cons (p_call GR (hr.mono (by decide)) (pa_cons (pe_fld (pv 0) rfl) (pa_cons (pv 2) pa_nil))) pa_nil))) rfl)
      (pss_one (ps_if (pt_cmpR op_eq (pe_fld (pv 0) rfl) (pv 2) (nomark _)) (pss_one (ps_fldA (pv 0) (pe_glob (v := .str "on") (by rfl) hO ⟨_, rfl⟩) rfl)) pss_nil))), ?_⟩
    obtain ⟨cl, a1, a2, a3, a4, a5, a6, a7⟩ := T
    obtain ⟨dx, pv, hv, h1, h2, h3⟩ := hV
    obtain ⟨aw, rfl, hW'⟩ := hW
    walk_at "rds"
    intro H1 g1 s1
    walk_at "rds"
    refine ⟨_, _, rfl, by omega, p9000 (show soft.natAbs < 2 ^ 5 by omega) (by decide), fun p H2 hp s2 l2 => ?_⟩
    have g2 := s2.keep _ _ g1 (by simp)
    refine ⟨aw, p, x, mkRat (v.steps + 1) soft.toNat, n, 5, rfl, (hW'.st s1).st s2, .inl l2, hb, ratioOk (by omega) (by omega) hs1 hs2, by omega, hn0, by decide, fun r H3 hr' s3 l3 => ?_⟩
    have g3 := s3.keep _ _ g2 (by simp)
    walk_at "rds"
    intro H4 g4 s4
    have t4 := (s1.trans (s2.trans s3)).trans s4
    walk_at "rds"
    unfold VoiceS.rise at k
    by_cases e : v.steps + 1 = soft
    · rw [if_pos e] at k ⊢
      intro H5 g5 s5
      exact k _ ⟨dx, _, _, g5, (isQ_of l3).st (s4.trans s5), h3.st (t4.trans s5)⟩ ((t4.trans s5).sub (by simp))
    · rw [if_neg e] at k ⊢
      exact k _ ⟨dx, _, _, g4, (isQ_of l3).st s4, h3.st t4⟩ (t4.sub (by simp))

theorem sc_Voice_begin_fall : FnScope ["self", "soft"] ["self", "soft"] (defScope s_Voice_begin_fall) := ⟨rfl, rfl, rfl, by decide +kernel, rfl, by decide +kernel, by decide +kernel⟩
def sp_Voice_begin_fall (K : PySem.W.Frag) (C : Addr) : Sp := fun vs H Q _ => ∃ (a l q : Addr) (v : VoiceS) (soft : Int) (n : Nat), vs = [.ref a, .int soft] ∧ VObj K C H a l q v ∧ 1 ≤ soft ∧ soft ≤ 16 ∧ Rb n v.part ∧ 0 < n ∧ n < 8900 ∧
  ∀ H', VObj K C H' a l q (v.beginFall soft) → Stp [a] H H' → Q .non H'
theorem ok_Voice_begin_fall {f : Addr} {fd : FuncData} (F : Fun K "begin_fall" "Voice.begin_fall" s_Voice_begin_fall f fd) (T : TV K C) (TT : TC K mg) (GF : OwnM P w K mg base C "fall" 3 ["self", "soft"] (sp_Voice_fall K C)) :
    FnOk P w K mg base CX0 4 f fd ["self", "soft"] (sp_Voice_begin_fall K C) := by
  refine F.ok sc_Voice_begin_fall (fun vs H Q E h => ?_) (fun cdv A outer s H vs Q E hr h => ?_)
  · obtain ⟨a, l, q, v, soft, n, rfl, _⟩ := h
    rfl
  · obtain ⟨a, l, q, v, soft, n, rfl, hV, hs1, hs2, hb, hn0, hn1, k⟩ := h
    obtain ⟨tF, hF⟩ := TT.falling
    refine ⟨_, pss_cons (ps_fldA (pv 0) (pe_glob (v := .str "falling") (by rfl) hF ⟨_, rfl⟩) rfl) (pss_cons (ps_fldA (pv 0) pe_int rfl) (pss_cons (ps_fldA (pv 0) (pe_fld (pv 0) rfl) rfl)
      (pss_one (ps_expr (p_meth GF hr (pv 0) (pa_cons (pv 1) pa_nil)))))), ?_⟩
    obtain ⟨cl, a1, a2, a3, a4, a5, a6, a7⟩ := T
    obtain ⟨dx, pv, hv, h1, h2, h3⟩ := hV
    walk_at "rds"
    intro H1 g1 s1
    walk_at "rds"
    intro H2 g2 s2
    walk_at "rds"
    intro H3 g3 s3
    have t3 := s1.trans (s2.trans s3)
    walk_at "rds"
    refine ⟨a, l, q, { v with word := wF, steps := 0, height := v.part }, soft, n, rfl, ⟨dx, _, _, g3, h2.st t3, h2.st t3⟩, hs1, hs2, by show (0 : Int) ≤ 0; decide, by show (0 : Int) < soft; omega, hb, hn0, hn1, fun H4 g4 s4 => ?_⟩
    exact k _ g4 ((t3.trans s4).sub (by simp))

theorem sc_Voice_sound : FnScope ["self", "whole", "soft"] ["self", "whole", "soft"] (defScope s_Voice_sound) := ⟨rfl, rfl, rfl, by decide +kernel, rfl, by decide +kernel, by decide +kernel⟩
def sp_Voice_sound (K : PySem.W.Frag) (C : Addr) : Sp := fun vs H Q _ => ∃ (a l q : Addr) (v : VoiceS) (wv : V) (x : Rat) (soft : Int) (n : Nat), vs = [.ref a, wv, .int soft] ∧ VObj K C H a l q v ∧ IsQ K H wv x ∧ 1 ≤ soft ∧ soft ≤ 16 ∧ (v.word = wR → 0 ≤ v.steps ∧ v.steps < soft) ∧ (v.word = wH ∨ v.word = wR ∨ v.word = wO) ∧ Rb n x ∧ 0 < n ∧ n < 8900 ∧
  ∀ H', VObj K C H' a l q (v.sound x soft) → Stp [a] H H' → Q .non H'
theorem ok_Voice_sound {f : Addr} {fd : FuncData} (F : Fun K "sound" "Voice.sound" s_Voice_sound f fd) (T : TV K C) (TT : TC K mg) (GR : OwnM P w K mg base C "rise" 3 ["self", "whole", "soft"] (sp_Voice_rise K C)) :
    FnOk P w K mg base CX0 4 f fd ["self", "whole", "soft"] (sp_Voice_sound K C) := by
  refine F.ok sc_Voice_sound (fun vs H Q E h => ?_) (fun cdv A outer s H vs Q E hr h => ?_)
  · obtain ⟨a, l, q, v, wv, x, soft, n, rfl, _⟩ := h
    rfl
  · obtain ⟨a, l, q, v, wv, x, soft, n, rfl, hV, hW, hs1, hs2, hk, hww, hb, hn0, hn1, k⟩ := h
    obtain ⟨tH, hH⟩ := TT.hushed
    obtain ⟨tR, hR⟩ := TT.rising
    obtain ⟨tO, hO⟩ := TT.on
    refine ⟨_, pss_cons (ps_if (pt_cmpR op_eq (pe_fld (pv 0) rfl) (pe_glob (v := .str "on") (by rfl) hO ⟨_, rfl⟩) (nomark _)) (pss_cons (ps_fldA (pv 0) (pv 1) rfl) (pss_one ps_retN)) pss_nil)
      (pss_cons (ps_if (pt_cmpR op_eq (pe_fld (pv 0) rfl) (pe_glob (v := .str "hushed") (by rfl) hH ⟨_, rfl⟩) (nomark _)) (pss_cons (ps_fldA (pv 0) (pe_glob (v := .str "rising") (by rfl) hR ⟨_, rfl⟩) rfl) (pss_one (ps_fldA (pv 0) pe_int rfl))) pss_nil)
      (pss_one (ps_expr (p_meth GR hr (pv 0) (pa_cons (pv 1) (pa_cons (pv 2) pa_nil)))))), ?_⟩
    obtain ⟨cl, a1, a2, a3, a4, a5, a6, a7⟩ := T
    obtain ⟨dx, pv, hv, h1, h2, h3⟩ := id hV
    obtain ⟨aw, rfl, hW'⟩ := id hW
    unfold VoiceS.sound at k
    rcases hww with e | e | e
    · rw [e] at k
      walk_at "rds"
      simp only [wH, wO, wR, ofString_inj, String.reduceEq, reduceIte] at k ⊢
      intro H1 g1 s1
      walk_at "rds"
      intro H2 g2 s2
      have t2 := s1.trans s2
      walk_at "rds"
      refine ⟨a, l, q, { v with word := wR, steps := 0 }, _, x, soft, n, rfl, ⟨dx, _, _, g2, h2.st t2, h3.st t2⟩, hW.st t2, hs1, hs2, by show (0 : Int) ≤ 0; decide, by show (0 : Int) < soft; omega, hb, hn0, hn1, fun H4 g4 s4 => ?_⟩
      exact k _ g4 ((t2.trans s4).sub (by simp))
    · rw [e] at k
      have ⟨q0, q1⟩ := hk e
      walk_at "rds"
      simp only [wH, wO, wR, ofString_inj, String.reduceEq, reduceIte] at k ⊢
      exact ⟨a, l, q, v, _, x, soft, n, rfl, hV, hW, hs1, hs2, q0, q1, hb, hn0, hn1, fun H4 g4 s4 => k _ g4 (s4.sub (by simp))⟩
    · rw [e] at k
      walk_at "rds"
      simp only [wH, wO, wR, ofString_inj, String.reduceEq, reduceIte] at k ⊢
      intro H1 g1 s1
      exact k _ ⟨dx, _, _, g1, hW.st s1, h3.st s1⟩ (s1.sub (by simp))
end
end Mx

namespace Mx
open PySem L2
/-- the classes -/
structure Cs where
  L : Addr
  D : Addr
  V : Addr
  M : Addr
/-- a voice's objects -/
structure VA where
  a : Addr
  l : Addr
  c : Addr
  q : Addr
def VA.foot (A : VA) : List Addr := [A.a, A.l, A.c, A.q]
structure VoiceAt (K : PySem.W.Frag) (cs : Cs) (H : Hp) (A : VA) (v : VoiceS) : Prop where
  ob : VObj K cs.V H A.a A.l A.q v
  line : LineAt cs.L H A.l A.c v.line
  loud : LoudAt K cs.D H A.q v.loud
  nd : A.foot.Nodup
theorem VoiceAt.st {K : PySem.W.Frag} {cs : Cs} {F : List Addr} {H H' : Hp} {A : VA} {v : VoiceS} (h : VoiceAt K cs H A v) (k : Stp F H H') (n : ∀ b ∈ A.foot, b ∉ F) : VoiceAt K cs H' A v :=
  ⟨h.ob.st k (n _ (by simp [VA.foot])), h.line.st k (n _ (by simp [VA.foot])) (n _ (by simp [VA.foot])), h.loud.st k (n _ (by simp [VA.foot])), h.nd⟩
theorem VoiceAt.st0 {K : PySem.W.Frag} {cs : Cs} {H H' : Hp} {A : VA} {v : VoiceS} (h : VoiceAt K cs H A v) (k : Stp [] H H') : VoiceAt K cs H' A v := h.st k (by simp)
theorem VoiceAt.some {K : PySem.W.Frag} {cs : Cs} {H : Hp} {A : VA} {v : VoiceS} (h : VoiceAt K cs H A v) : ∀ b ∈ A.foot, H b ≠ none := by
  obtain ⟨⟨dx, pv, hv, h1, _⟩, ⟨⟨dy, tp, h2, _⟩, h3⟩, ⟨dz, lv, st, h4, _⟩, _⟩ := h
  intro b hb
  simp only [VA.foot, List.mem_cons, List.not_mem_nil, or_false] at hb
  rcases hb with e | e | e | e <;> subst e
  · rw [h1]; exact fun z => nomatch z
  · rw [h2]; exact fun z => nomatch z
  · rw [h3]; exact fun z => nomatch z
  · rw [h4]; exact fun z => nomatch z
/-- what goes well with a voice: so many bits, this soft -/
structure VoiceOk (d : Nat) (soft : Int) (v : VoiceS) : Prop where
  line : LineOk v.line
  loud : LoudOk d v.loud
  word : v.word = wH ∨ v.word = wR ∨ v.word = wO ∨ v.word = wF
  stR : v.word = wR → 0 ≤ v.steps ∧ v.steps < soft
  stF : v.word = wF → 0 ≤ v.steps ∧ v.steps < soft
  part : Rb (d + 24) v.part
  partS : v.word = wR ∨ v.word = wO → Rb (d + 19) v.part
  height : v.word = wF → Rb (d + 19) v.height
theorem Rb.mul {n m : Nat} {q r : Rat} (h : Rb n q) (k : Rb m r) : Rb (n + m) (q * r) := by
  rw [← mul_mk]
  have e : 2 ^ n * 2 ^ m = 2 ^ (n + m) := (Nat.pow_add 2 n m).symm
  refine Rb.of (Nat.mul_pos q.den_pos r.den_pos) ?_ ?_
  · rw [Int.natAbs_mul, ← e]
    exact Nat.mul_lt_mul'' h.num k.num
  · rw [← e]
    exact Nat.mul_lt_mul'' h.den k.den
theorem value_rb {s : LineS} (h : LineOk s) {t : Int} (hr : s.ready t = true) : Rb 14 (s.value t) := by
  have hw := ready_has hr
  unfold LineS.want at hw
  have b1 := h.small (LineS.atw (hw (s.low t) (by split <;> simp)))
  obtain ⟨o1, o2, o3, o4, _, _⟩ := h
  have r0 : 0 ≤ s.rest t := Int.emod_nonneg _ (by omega)
  have r1 : s.rest t < s.pb := Int.emod_lt_of_pos _ (by omega)
  unfold LineS.value
  by_cases e : s.rest t = 0
  · rw [if_pos e]
    exact Rb.of (by decide) (by omega) (by decide)
  · rw [if_neg e] at hw ⊢
    have b2 := LineOk.small ⟨o1, o2, o3, o4, ‹_›, ‹_›⟩ (LineS.atw (hw (s.low t + 1) (by simp)))
    refine Rb.of (by omega) ?_ (by omega)
    have p1 : (s.at (s.low t) * (s.pb - s.rest t)).natAbs ≤ 999 * 8 := by
      rw [Int.natAbs_mul]
      exact Nat.mul_le_mul (by omega) (by omega)
    have p2 : (s.at (s.low t + 1) * s.rest t).natAbs ≤ 999 * 8 := by
      rw [Int.natAbs_mul]
      exact Nat.mul_le_mul (by omega) (by omega)
    omega
theorem wne : wH ≠ wR ∧ wH ≠ wO ∧ wH ≠ wF ∧ wR ≠ wO ∧ wR ≠ wF ∧ wO ≠ wF := by decide +kernel
theorem VoiceOk.give {d : Nat} {soft : Int} {v : VoiceS} (h : VoiceOk d soft v) (h1 : 1 ≤ soft) (h2 : soft ≤ 16) (t : Int) : VoiceOk d soft (v.give t soft) := by
  obtain ⟨n1, n2, n3, n4, n5, n6⟩ := wne
  obtain ⟨hl, hd, hw, hR, hF, hp, hpS, hh⟩ := h
  have hon := hd.on
  obtain ⟨D, x, y, hI, hD⟩ := id hon
  have hlev := (hI.rb hD).1
  -- a fall
  have fall : ∀ u : VoiceS, u.line = v.line → u.loud = v.loud.on → u.word = wF → 0 ≤ u.steps → u.steps < soft → Rb (d + 19) u.height → VoiceOk d soft (u.fall soft) := by
    intro u e1 e2 e3 s0 s1 hb
    have hm := (hb.mul (ratioOk (k := soft - (u.steps + 1)) (by omega) (by omega) h1 h2)).mono (show d + 19 + 5 ≤ d + 24 by omega)
    unfold VoiceS.fall
    by_cases e : u.steps + 1 = soft
    · rw [if_pos e]
      exact ⟨by rw [e1]; exact hl, by rw [e2]; exact hon, .inl rfl, fun z => absurd z n1, fun z => absurd z n3, hm, fun z => by rcases z with z | z; exact absurd z n1; exact absurd z n2, fun z => absurd z n3⟩
    · rw [if_neg e, e3]
      exact ⟨by rw [e1]; exact hl, by rw [e2]; exact hon, .inr (.inr (.inr rfl)), fun z => absurd z.symm n5, fun _ => ⟨by show 0 ≤ u.steps + 1; omega, by show u.steps + 1 < soft; omega⟩, hm, fun z => by rcases z with z | z; exact absurd z.symm n5; exact absurd z.symm n6, fun _ => hb⟩
  -- a rise
  have rise : ∀ (u : VoiceS) (x : Rat), u.line = v.line → u.loud = v.loud.on → u.word = wR → 0 ≤ u.steps → u.steps < soft → Rb (d + 14) x → VoiceOk d soft (u.rise x soft) := by
    intro u x e1 e2 e3 s0 s1 hb
    have hm := (hb.mul (ratioOk (k := u.steps + 1) (by omega) (by omega) h1 h2)).mono (show d + 14 + 5 ≤ d + 19 by omega)
    unfold VoiceS.rise
    by_cases e : u.steps + 1 = soft
    · rw [if_pos e]
      exact ⟨by rw [e1]; exact hl, by rw [e2]; exact hon, .inr (.inr (.inl rfl)), fun z => absurd z.symm n4, fun z => absurd z n6, hm.mono (by omega), fun _ => hm, fun z => absurd z n6⟩
    · rw [if_neg e, e3]
      exact ⟨by rw [e1]; exact hl, by rw [e2]; exact hon, .inr (.inl rfl), fun _ => ⟨by show 0 ≤ u.steps + 1; omega, by show u.steps + 1 < soft; omega⟩, fun z => absurd z n5, hm.mono (by omega), fun _ => hm, fun z => absurd z n5⟩
  unfold VoiceS.give
  by_cases eF : v.word = wF
  · rw [if_pos eF]
    exact fall _ rfl rfl eF (hF eF).1 (hF eF).2 (hh eF)
  · rw [if_neg eF]
    by_cases em : v.may t = true
    · rw [if_pos em]
      have hr : v.line.ready t = true := by
        unfold VoiceS.may at em
        rw [Bool.and_eq_true] at em
        exact em.2
      have hx : Rb (d + 14) (v.line.value t * v.loud.on.level) := ((value_rb hl hr).mul hlev).mono (by omega)
      unfold VoiceS.sound
      by_cases eO : v.word = wO
      · rw [if_pos eO]
        exact ⟨hl, hon, .inr (.inr (.inl eO)), fun z => absurd (eO.symm.trans z).symm n4, fun z => absurd z eF, hx.mono (by omega), fun _ => hx.mono (by omega), fun z => absurd z eF⟩
      · rw [if_neg eO]
        by_cases eH : v.word = wH
        · rw [if_pos eH]
          exact rise _ _ rfl rfl rfl (Int.le_refl 0) (by show (0 : Int) < soft; omega) hx
        · rw [if_neg eH]
          have eR : v.word = wR := by
            rcases hw with z | z | z | z
            · exact absurd z eH
            · exact z
            · exact absurd z eO
            · exact absurd z eF
          exact rise _ _ rfl rfl eR (hR eR).1 (hR eR).2 hx
    · rw [if_neg em]
      by_cases eH : v.word = wH
      · rw [if_pos eH]
        exact ⟨hl, hon, .inl eH, fun z => absurd (eH.symm.trans z) n1, fun z => absurd z eF, hp, fun z => by rcases z with z | z; exact absurd (eH.symm.trans z) n1; exact absurd (eH.symm.trans z) n2, fun z => absurd z eF⟩
      · rw [if_neg eH]
        have eS : v.word = wR ∨ v.word = wO := by
          rcases hw with z | z | z | z
          · exact absurd z eH
          · exact .inl z
          · exact .inr z
          · exact absurd z eF
        exact fall _ rfl rfl rfl (Int.le_refl 0) (by show (0 : Int) < soft; omega) (hpS eS)
end Mx

namespace Mx
open PySem L2
set_option hygiene false in
local macro_rules | `(tactic| walk_at "rd") => `(tactic| try simp only [L2.start, List.map_cons, List.map_nil, List.length_cons, List.length_nil, Nat.reduceAdd, Nat.reduceSub, Nat.reduceLT, Nat.reduceLeDiff, List.replicate_succ, List.replicate_zero, List.append_nil, List.nil_append, List.cons_append, List.set_cons_zero, List.set_cons_succ, List.getElem?_cons_zero, List.getElem?_cons_succ,
  Option.some.injEq, List.cons.injEq, and_true, true_and, and_assoc, reduceCtorEq, L2.V.int.injEq, L2.V.ref.injEq, L2.V.bl.injEq, L2.V.str.injEq, L2.V.ty.injEq, L2.HO.ins.injEq, L2.HO.lst.injEq, L2.HO.tup.injEq, L2.HO.dK.injEq, exists_eq_left', exists_eq_left, exists_eq_right, exists_eq', exists_eq, exists_and_left, exists_and_right, reduceIte, Bool.false_eq_true, Bool.not_true, Bool.not_false,
  L2.tSeq, L2.tIfS, L2.tRet, L2.tRetN, L2.tNext, L2.tAsg, L2.gName, L2.tVar, L2.tC, L2.tCons, L2.tNil, L2.tCB, L2.tOp, L2.tUn, L2.tTup, L2.tLst, L2.tB, L2.tOr, L2.tAnd, L2.tNot, L2.tAndV, L2.tOrV, L2.tNotV, L2.tIf, L2.tTest, L2.tChain, L2.rI, L2.rI0, L2.rU, L2.tDrop, L2.tNever, L2.tCall, L2.tMeth, L2.tMake, L2.rGcd, L2.tFld, L2.sFld, L2.sFldAug, Mx.sFldA, Mx.sFldAugA, L2.rAdd, L2.rSub, L2.rEq, L2.rNe, L2.tDGet, L2.tDIn, L2.tDNotIn, L2.sDPut,
  Mx.isi_int_bool, Mx.isi_int_int, Mx.isi_int_tuple, Mx.isi_int_list, Mx.isi_int_str, Mx.scal_int, Mx.scal_str, Mx.scal_bl, Mx.ofString_inj, Mx.ofString_beq, Mx.lk_cons, Mx.pf_nil, Mx.pf_cons, Mx.sz1, Mx.sz2, List.lookup_nil, String.reduceEq, decide_true, decide_false, decide_eq_true_eq, Int.natAbs_natCast, L2.upd_same, L2.upd_upd, L2.cxOf, Mx.fsV, Mx.fsD, Mx.fsL])
set_option hygiene false in
local macro_rules | `(tactic| walk_at "rds") => `(tactic| try simp only [L2.start, List.map_cons, List.map_nil, List.length_cons, List.length_nil, Nat.reduceAdd, Nat.reduceSub, Nat.reduceLT, Nat.reduceLeDiff, List.replicate_succ, List.replicate_zero, List.append_nil, List.nil_append, List.cons_append, List.set_cons_zero, List.set_cons_succ, List.getElem?_cons_zero, List.getElem?_cons_succ,
  Option.some.injEq, List.cons.injEq, and_true, true_and, and_assoc, reduceCtorEq, L2.V.int.injEq, L2.V.ref.injEq, L2.V.bl.injEq, L2.V.str.injEq, L2.V.ty.injEq, L2.HO.ins.injEq, L2.HO.lst.injEq, L2.HO.tup.injEq, L2.HO.dK.injEq, exists_eq_left', exists_eq_left, exists_eq_right, exists_eq', exists_eq, exists_and_left, exists_and_right, reduceIte, Bool.false_eq_true, Bool.not_true, Bool.not_false,
  L2.tSeq, L2.tIfS, L2.tRet, L2.tRetN, L2.tNext, L2.tAsg, L2.gName, L2.tVar, L2.tC, L2.tCons, L2.tNil, L2.tCB, L2.tOp, L2.tUn, L2.tTup, L2.tLst, L2.tB, L2.tOr, L2.tAnd, L2.tNot, L2.tAndV, L2.tOrV, L2.tNotV, L2.tIf, L2.tTest, L2.tChain, L2.rI, L2.rI0, L2.rU, L2.tDrop, L2.tNever, L2.tCall, L2.tMeth, L2.tMake, L2.rGcd, L2.tFld, L2.sFld, L2.sFldAug, Mx.sFldA, Mx.sFldAugA, L2.rAdd, L2.rSub, L2.rEq, L2.rNe, L2.tDGet, L2.tDIn, L2.tDNotIn, L2.sDPut,
  Mx.isi_int_bool, Mx.isi_int_int, Mx.isi_int_tuple, Mx.isi_int_list, Mx.isi_int_str, Mx.scal_int, Mx.scal_str, Mx.scal_bl, Mx.ofString_inj, Mx.ofString_beq, Mx.lk_cons, Mx.pf_nil, Mx.pf_cons, Mx.sz1, Mx.sz2, List.lookup_nil, String.reduceEq, decide_true, decide_false, decide_eq_true_eq, Int.natAbs_natCast, L2.upd_same, L2.upd_upd, L2.cxOf, Mx.fsV, Mx.fsD, Mx.fsL, *])

section
variable {P : Program} {w : World} {K : PySem.W.Frag} {mg : Str → Option Value} {base : Heap} {cs : Cs}
def sp_Voice_init (K : PySem.W.Frag) (cs : Cs) : Sp := fun vs H Q _ => ∃ (a dx t : Addr) (pn pb b n : Int), vs = [.ref a, .ref t, .int b, .int n] ∧ H a = some (.ins cs.V dx []) ∧ H t = some (.tup [.int pn, .int pb]) ∧
  ∀ (A : VA) H', A.a = a → (∀ b ∈ A.foot, b = a ∨ H b = none) → VoiceAt K cs H' A ⟨⟨pn, pb, b, [], 0, none⟩, ⟨mkRat n 64, 0, 0⟩, true, wH, 0, 0, 0⟩ → Stp [a] H H' → Q .non H'
theorem sc_Voice_init : FnScope ["self", "pace", "begin", "loudness"] ["self", "pace", "begin", "loudness"] (defScope s_Voice_init) := ⟨rfl, rfl, rfl, by decide +kernel, rfl, by decide +kernel, by decide +kernel⟩
theorem stp_made {H : Hp} {x dx C : Addr} (hx : H x = none) (hd : H dx = none) : Stp [] H (upd (upd H dx (.own x)) x (.ins C dx [])) := .of fun b o e => by
  rw [upd_ne (ne_of_none e hx), upd_ne (ne_of_none e hd)]
  exact e
theorem ok_Voice_init {f : Addr} {fd : FuncData} (F : Fun K "__init__" "Voice.__init__" s_Voice_init f fd) (T : TV K cs.V) (TT : TC K mg) (GL : OwnC P w K mg base cs.L "Line" 1 ["self", "pace", "begin"] (sp_Line_init K cs.L))
    (GD : OwnC P w K mg base cs.D "Loudness" 2 ["self", "loudness"] (sp_Loudness_init K cs.D)) : FnOk P w K mg base CX0 4 f fd ["self", "pace", "begin", "loudness"] (sp_Voice_init K cs) := by
  refine F.ok sc_Voice_init (fun vs H Q E h => ?_) (fun cdv A outer s H vs Q E hr h => ?_)
  · obtain ⟨a, dx, t, pn, pb, b, n, rfl, _⟩ := h
    rfl
  · obtain ⟨a, dx, t, pn, pb, b, n, rfl, ha, ht, k⟩ := h
    obtain ⟨cl, a1, a2, a3, a4, a5, a6, a7⟩ := T
    obtain ⟨aN, hN, hN2⟩ := TT.nothing
    obtain ⟨tH, hH⟩ := TT.hushed
    refine ⟨_, pss_cons (ps_fldA (pv 0) (p_make GL (hr.mono (by decide)) (pa_cons (pv 1) (pa_cons (pv 2) pa_nil))) rfl)
      (pss_cons (ps_fldA (pv 0) (p_make GD hr (pa_cons (pv 3) pa_nil)) rfl)
      (pss_cons (ps_fldA (pv 0) pe_bl rfl) (pss_cons (ps_fldA (pv 0) (pe_glob (v := .str "hushed") (by rfl) hH ⟨_, rfl⟩) rfl) (pss_cons (ps_fldA (pv 0) pe_int rfl)
      (pss_cons (ps_fldA (pv 0) (pe_glob (v := .ref aN) (by rfl) hN rfl) rfl) (pss_one (ps_fldA (pv 0) (pe_glob (v := .ref aN) (by rfl) hN rfl) rfl))))))), ?_⟩
    walk_at "rds"
    intro l dl hl hdl hdn
    have s1 := stp_made (C := cs.L) hl hdl
    have e1 : upd (upd H dl (.own l)) l (.ins cs.L dl []) l = some (.ins cs.L dl []) := upd_same
    generalize upd (upd H dl (.own l)) l (.ins cs.L dl []) = H1 at *
    refine ⟨l, dl, t, pn, pb, b, rfl, e1, s1.tup _ _ ht, fun c H2 hc hL2 s2 => ⟨rfl, ?_⟩⟩
    have hla : a ≠ l := ne_of_none ha hl
    have f2 := (s2.keep _ _ (s1.keep _ _ ha (by simp)) (by simpa using hla))
    have hcl : l ≠ c := hL2.ne
    have hca : a ≠ c := ne_of_none (s1.keep _ _ ha (by simp)) hc
    have hc0 : H c = none := s1.free hc (by simp)
    walk_at "rds"
    intro H3 g3 s3
    have hL3 := hL2.st s3 (by simpa using hla.symm) (by simpa using hca.symm)
    intro q dq hq hdq hqn
    have s4 := stp_made (C := cs.D) hq hdq
    have e4 : upd (upd H3 dq (.own q)) q (.ins cs.D dq []) q = some (.ins cs.D dq []) := upd_same
    generalize upd (upd H3 dq (.own q)) q (.ins cs.D dq []) = H4 at *
    refine ⟨q, dq, n, rfl, e4, fun H5 hD5 s5 => ⟨rfl, ?_⟩⟩
    have hqa : a ≠ q := ne_of_none g3 hq
    have hql : l ≠ q := by
      obtain ⟨_, _, z, _⟩ := hL3.ob
      exact ne_of_none z hq
    have hqc : c ≠ q := ne_of_none hL3.dc hq
    have g5 := s5.keep _ _ (s4.keep _ _ g3 (by simp)) (by simpa using hqa)
    have hL5 := (hL3.st0 s4).st s5 (by simpa using hql) (by simpa using hqc)
    have hq0 : H q = none := by
      have := s3.free hq (by simpa using hqa.symm)
      have := s2.free this (by simpa using hql.symm)
      exact s1.free this (by simp)
    have t5 := ((s1.trans s2).trans s3).trans (s4.trans s5)
    walk_at "rds"
    intro H6 g6 s6
    walk_at "rds"
    intro H7 g7 s7
    walk_at "rds"
    intro H8 g8 s8
    walk_at "rds"
    intro H9 g9 s9
    walk_at "rds"
    intro Hy gy sy
    walk_at "rds"
    intro Hx gx sx
    have tx := s6.trans (s7.trans (s8.trans (s9.trans (sy.trans sx))))
    have na : ∀ z, a ≠ z → z ∉ [a] ++ ([a] ++ ([a] ++ ([a] ++ ([a] ++ [a])))) := fun z hz => by simpa using Ne.symm hz
    refine k ⟨a, l, c, q⟩ _ rfl (fun b hb => ?_) ⟨⟨dx, _, _, gx, isQ0 hN2, isQ0 hN2⟩, hL5.st tx (na _ hla) (na _ hca), hD5.st tx (na _ hqa), ?_⟩ ?_
    · simp only [VA.foot, List.mem_cons, List.not_mem_nil, or_false] at hb
      rcases hb with e | e | e | e <;> subst e
      · exact .inl rfl
      · exact .inr hl
      · exact .inr hc0
      · exact .inr hq0
    · simp [VA.foot, hla, hca, hqa, hcl, hql, hqc]
    · refine (t5.trans tx).subN fun z hz => ?_
      simp only [List.nil_append, List.append_assoc, List.mem_append, List.mem_cons, List.not_mem_nil, or_false, List.mem_singleton] at hz
      rcases hz with e | e | e | e | e | e | e | e | e
      · exact .inr (e ▸ hl)
      · exact .inl (by simp [e])
      · exact .inr (e ▸ hq0)
      all_goals exact .inl (by simp [e])

theorem sound_ll (u : VoiceS) (x : Rat) (soft : Int) : (u.sound x soft).line = u.line ∧ (u.sound x soft).loud = u.loud := by
  unfold VoiceS.sound
  by_cases e : u.word = wO
  · rw [if_pos e]
    exact ⟨rfl, rfl⟩
  · rw [if_neg e]
    by_cases e2 : u.word = wH
    · rw [if_pos e2]
      exact ⟨rfl, rfl⟩
    · rw [if_neg e2]
      exact ⟨rfl, rfl⟩
theorem give_ll (v : VoiceS) (t soft : Int) : (v.give t soft).line = v.line ∧ (v.give t soft).loud = v.loud.on := by
  unfold VoiceS.give
  by_cases e : v.word = wF
  · rw [if_pos e]
    exact ⟨rfl, rfl⟩
  · rw [if_neg e]
    by_cases e2 : v.may t = true
    · rw [if_pos e2]
      exact sound_ll _ _ _
    · rw [if_neg e2]
      by_cases e3 : v.word = wH
      · rw [if_pos e3]
        exact ⟨rfl, rfl⟩
      · rw [if_neg e3]
        exact ⟨rfl, rfl⟩
theorem give_line (v : VoiceS) (t soft : Int) : (v.give t soft).line = v.line := (give_ll v t soft).1
theorem give_loud (v : VoiceS) (t soft : Int) : (v.give t soft).loud = v.loud.on := (give_ll v t soft).2
def sp_Voice_give (K : PySem.W.Frag) (cs : Cs) : Sp := fun vs H Q _ => ∃ (A : VA) (v : VoiceS) (t soft : Int) (d : Nat), vs = [.ref A.a, .int t, .int soft] ∧ VoiceAt K cs H A v ∧ VoiceOk d soft v ∧ 1 ≤ soft ∧ soft ≤ 16 ∧ 0 < d ∧ 2 * d < 8900 ∧
  ∀ r H', IsQ K H' r (v.give t soft).part → VoiceAt K cs H' A (v.give t soft) → Stp A.foot H H' → Q r H'
theorem sc_Voice_give : FnScope ["self", "beat", "soft", "may_sound"] ["self", "beat", "soft"] (defScope s_Voice_give) := ⟨rfl, rfl, rfl, by decide +kernel, rfl, by decide +kernel, by decide +kernel⟩
theorem ok_Voice_give {f : Addr} {fd : FuncData} (F : Fun K "give" "Voice.give" s_Voice_give f fd) (T : TV K cs.V) (TDD : TD K cs.D) (TT : TC K mg)
    (G1 : OwnM P w K mg base cs.D "lead_on" 3 ["self"] (sp_Loudness_lead_on K cs.D)) (G2 : OwnM P w K mg base cs.L "ready" 6 ["self", "beat"] (sp_Line_bool cs.L LineS.ready)) (G3 : OwnM P w K mg base cs.V "fall" 3 ["self", "soft"] (sp_Voice_fall K cs.V))
    (G4 : OwnM P w K mg base cs.L "value" 2 ["self", "beat"] (sp_Line_value cs.L)) (G5 : OwnM P w K mg base cs.V "sound" 4 ["self", "whole", "soft"] (sp_Voice_sound K cs.V)) (G6 : OwnM P w K mg base cs.V "begin_fall" 4 ["self", "soft"] (sp_Voice_begin_fall K cs.V))
    (GT : OwnF P w K mg base "times" 2 ["one", "other"] (sp_two (· * ·) K)) : FnOk P w K mg base CX0 7 f fd ["self", "beat", "soft"] (sp_Voice_give K cs) := by
  refine F.ok sc_Voice_give (fun vs H Q E h => ?_) (fun cdv A outer s H vs Q E hr h => ?_)
  · obtain ⟨A, v, t, soft, d, rfl, _⟩ := h
    rfl
  · obtain ⟨A, v, t, soft, d, rfl, hV, hO, hs1, hs2, hd0, hd, k⟩ := h
    obtain ⟨tH, hH⟩ := TT.hushed
    obtain ⟨tF, hF⟩ := TT.falling
    refine ⟨_, pss_cons (ps_expr (p_meth0 G1 (hr.mono (by decide)) (pe_fld (pv 0) rfl)))
      (pss_cons (ps_set (i := 3) sc_Voice_give.nd rfl (.inl rfl) (pe_and (pe_fld (pv 0) rfl) (pe_one (p_meth G2 hr (pe_fld (pv 0) rfl) (pa_cons (pv 1) pa_nil)))))
      (pss_cons (ps_if (pt_cmpR op_eq (pe_fld (pv 0) rfl) (pe_glob (v := .str "falling") (by rfl) hF ⟨_, rfl⟩) (nomark _)) (pss_one (ps_expr (p_meth G3 (hr.mono (by decide)) (pv 0) (pa_cons (pv 2) pa_nil))))
        (pss_one (ps_if (pt_val (pv 3)) (pss_one (ps_expr (p_meth G5 (hr.mono (by decide)) (pv 0) (pa_cons (p_call GT (hr.mono (by decide)) (pa_cons (p_meth G4 (hr.mono (by decide)) (pe_fld (pv 0) rfl) (pa_cons (pv 1) pa_nil)) (pa_cons (pe_fld (pe_fld (pv 0) rfl) rfl) pa_nil))) (pa_cons (pv 2) pa_nil)))))
          (pss_one (ps_if (pt_cmpR op_ne (pe_fld (pv 0) rfl) (pe_glob (v := .str "hushed") (by rfl) hH ⟨_, rfl⟩) (nomark _)) (pss_one (ps_expr (p_meth G6 (hr.mono (by decide)) (pv 0) (pa_cons (pv 2) pa_nil)))) pss_nil)))))
      (pss_one (ps_ret (pe_fld (pv 0) rfl))))), ?_⟩
    obtain ⟨dcl, da1, da2, da3⟩ := TDD
    obtain ⟨cl, a1, a2, a3, a4, a5, a6, a7⟩ := T
    obtain ⟨hVo, hVl, hVd, hnd⟩ := hV
    obtain ⟨dx, pv', hv', h1, h2, h3⟩ := id hVo
    obtain ⟨dq, lv, st, q1, q2, q3⟩ := id hVd
    walk_at "rds"
    refine ⟨A.q, v.loud, d, rfl, hVd, hO.loud, hd0, by omega, fun H1 hD1 s1 => ?_⟩
    have nal : A.a ≠ A.l ∧ A.a ≠ A.c ∧ A.a ≠ A.q ∧ A.l ≠ A.c ∧ A.l ≠ A.q ∧ A.c ≠ A.q := by
      simp only [VA.foot, List.nodup_cons, List.mem_cons, List.not_mem_nil, or_false, not_or, List.nodup_nil, and_true, not_false_eq_true] at hnd
      exact ⟨hnd.1.1, hnd.1.2.1, hnd.1.2.2, hnd.2.1.1, hnd.2.1.2, hnd.2.2⟩
    obtain ⟨nal1, nac, naq, nlc, nlq, ncq⟩ := nal
    have hL1 := hVl.st s1 (by simpa using nlq) (by simpa using ncq)
    have h1a := s1.keep _ _ h1 (by simpa using naq)
    obtain ⟨dl, tpl, hl1, _⟩ := id hL1.ob
    walk_at "rds"
    have main : ∀ (H2 : Hp), Stp [] H1 H2 → (∀ r H', IsQ K H' r (v.give t soft).part → VObj K cs.V H' A.a A.l A.q (v.give t soft) → Stp [A.a] H2 H' → Q r H') := by
      intro H2 s2 r H' hq hv s3
      refine k r H' hq ⟨hv, ?_, ?_, hnd⟩ (((s1.trans s2).trans s3).sub (by simp [VA.foot]))
      · have e : (v.give t soft).line = v.line := give_line v t soft
        rw [e]
        exact (hL1.st0 s2).st s3 (by simpa using nal1.symm) (by simpa using nac.symm)
      · have e : (v.give t soft).loud = v.loud.on := give_loud v t soft
        rw [e]
        exact (hD1.st s2 (by simp)).st s3 (by simpa using naq.symm)
    have fin : ∀ (H2 H3 : Hp) (u : VoiceS), Stp [] H1 H2 → v.give t soft = u → VObj K cs.V H3 A.a A.l A.q u → Stp [A.a] H2 H3 → tFld K (tVar 0) "part" [some (.ref A.a), some (.int t), some (.int soft), some (.bl (v.may t))] H3 Q := by
      intro H2 H3 u s2 eu hv s3
      obtain ⟨dy, pv2, hv2, g1, g2, g3⟩ := id hv
      refine ⟨_, rfl, A.a, cs.V, dy, _, pv2, rfl, g1, cl, a6, ?_, main H2 s2 _ _ (by rw [eu]; exact g2) (by rw [eu]; exact hv) s3⟩
      walk_at "rd"
    have hVo1 : VObj K cs.V H1 A.a A.l A.q { v with loud := v.loud.on } := by
      obtain ⟨dy, pv2, hv2, g1, g2, g3⟩ := hVo.st s1 (by simpa using naq)
      exact ⟨dy, pv2, hv2, g1, g2, g3⟩
    cases eh : v.heard with
    | false =>
      have em : v.may t = false := by unfold VoiceS.may; rw [eh]; rfl
      walk_at "rds"
      have s2 : Stp [] H1 H1 := Stp.refl
      have hVo2 := hVo1
      by_cases eF : v.word = wF
      · have eu : v.give t soft = VoiceS.fall { v with loud := v.loud.on } soft := by
          unfold VoiceS.give
          rw [if_pos eF]
        rw [if_pos (show v.word = Str.ofString "falling" from eF)]
        refine ⟨A.a, A.l, A.q, { v with loud := v.loud.on }, soft, d + 19, rfl, hVo2, hs1, hs2, (hO.stF eF).1, (hO.stF eF).2, hO.height eF, by omega, by omega, fun H3 hv s3 => ?_⟩
        obtain ⟨dy, pv2, hv2, g1, g2, g3⟩ := id hv
        walk_at "rds"
        exact main H1 s2 _ _ (by rw [eu]; exact g2) (by rw [eu]; exact hv) s3
      · rw [if_neg (show ¬ v.word = Str.ofString "falling" from eF)]
        by_cases eH : v.word = wH
        · have eu : v.give t soft = { v with loud := v.loud.on } := by
            unfold VoiceS.give
            rw [if_neg eF, if_neg (by rw [em]; decide), if_pos eH]
          rw [decide_eq_true (show v.word = Str.ofString "hushed" from eH)]
          walk_at "rd"
          obtain ⟨dy, pv2, hv2, g1, g2, g3⟩ := id hVo2
          exact main H1 s2 _ _ (by rw [eu]; exact (h2.st s1).st s2) (by rw [eu]; exact hVo2) (Stp.refl.sub (by simp))
        · have eu : v.give t soft = VoiceS.beginFall { v with loud := v.loud.on } soft := by
            unfold VoiceS.give
            rw [if_neg eF, if_neg (by rw [em]; decide), if_neg eH]
          have eS : v.word = wR ∨ v.word = wO := by
            rcases hO.word with z | z | z | z
            · exact absurd z eH
            · exact .inl z
            · exact .inr z
            · exact absurd z eF
          rw [decide_eq_false (show ¬ v.word = Str.ofString "hushed" from eH)]
          walk_at "rd"
          refine ⟨A.a, A.l, A.q, { v with loud := v.loud.on }, soft, d + 19, rfl, hVo2, hs1, hs2, hO.partS eS, by omega, by omega, fun H3 hv s3 => ?_⟩
          obtain ⟨dy, pv2, hv2, g1, g2, g3⟩ := id hv
          walk_at "rds"
          exact main H1 s2 _ _ (by rw [eu]; exact g2) (by rw [eu]; exact hv) s3
    | true =>
      walk_at "rds"
      refine ⟨A.l, A.c, v.line, t, rfl, hL1, hO.line, fun H2 s2 => ?_⟩
      have em : v.may t = v.line.ready t := by unfold VoiceS.may; rw [eh]; rfl
      have hVo2 := hVo1.st s2 (by simp)
      have h2a := s2.keep _ _ h1a (by simp)
      have h2l := s2.keep _ _ hl1 (by simp)
      cases er : v.line.ready t with
      | false =>
        rw [er] at em
        walk_at "rds"
        by_cases eF : v.word = wF
        · have eu : v.give t soft = VoiceS.fall { v with loud := v.loud.on } soft := by
            unfold VoiceS.give
            rw [if_pos eF]
          rw [if_pos (show v.word = Str.ofString "falling" from eF)]
          refine ⟨A.a, A.l, A.q, { v with loud := v.loud.on }, soft, d + 19, rfl, hVo2, hs1, hs2, (hO.stF eF).1, (hO.stF eF).2, hO.height eF, by omega, by omega, fun H3 hv s3 => ?_⟩
          obtain ⟨dy, pv2, hv2, g1, g2, g3⟩ := id hv
          walk_at "rds"
          exact main H2 s2 _ _ (by rw [eu]; exact g2) (by rw [eu]; exact hv) s3
        · rw [if_neg (show ¬ v.word = Str.ofString "falling" from eF)]
          by_cases eH : v.word = wH
          · have eu : v.give t soft = { v with loud := v.loud.on } := by
              unfold VoiceS.give
              rw [if_neg eF, if_neg (by rw [em]; decide), if_pos eH]
            rw [decide_eq_true (show v.word = Str.ofString "hushed" from eH)]
            walk_at "rd"
            obtain ⟨dy, pv2, hv2, g1, g2, g3⟩ := id hVo2
            exact main H2 s2 _ _ (by rw [eu]; exact (h2.st s1).st s2) (by rw [eu]; exact hVo2) (Stp.refl.sub (by simp))
          · have eu : v.give t soft = VoiceS.beginFall { v with loud := v.loud.on } soft := by
              unfold VoiceS.give
              rw [if_neg eF, if_neg (by rw [em]; decide), if_neg eH]
            have eS : v.word = wR ∨ v.word = wO := by
              rcases hO.word with z | z | z | z
              · exact absurd z eH
              · exact .inl z
              · exact .inr z
              · exact absurd z eF
            rw [decide_eq_false (show ¬ v.word = Str.ofString "hushed" from eH)]
            walk_at "rd"
            refine ⟨A.a, A.l, A.q, { v with loud := v.loud.on }, soft, d + 19, rfl, hVo2, hs1, hs2, hO.partS eS, by omega, by omega, fun H3 hv s3 => ?_⟩
            obtain ⟨dy, pv2, hv2, g1, g2, g3⟩ := id hv
            walk_at "rds"
            exact main H2 s2 _ _ (by rw [eu]; exact g2) (by rw [eu]; exact hv) s3
      | true =>
        rw [er] at em
        walk_at "rds"
        by_cases eF : v.word = wF
        · have eu : v.give t soft = VoiceS.fall { v with loud := v.loud.on } soft := by
            unfold VoiceS.give
            rw [if_pos eF]
          rw [if_pos (show v.word = Str.ofString "falling" from eF)]
          refine ⟨A.a, A.l, A.q, { v with loud := v.loud.on }, soft, d + 19, rfl, hVo2, hs1, hs2, (hO.stF eF).1, (hO.stF eF).2, hO.height eF, by omega, by omega, fun H3 hv s3 => ?_⟩
          obtain ⟨dy, pv2, hv2, g1, g2, g3⟩ := id hv
          walk_at "rds"
          exact main H2 s2 _ _ (by rw [eu]; exact g2) (by rw [eu]; exact hv) s3
        · rw [if_neg (show ¬ v.word = Str.ofString "falling" from eF)]
          have eu : v.give t soft = VoiceS.sound { v with loud := v.loud.on } (v.line.value t * v.loud.on.level) soft := by
            unfold VoiceS.give
            rw [if_neg eF, if_pos (by rw [em])]
          refine ⟨A.l, A.c, v.line, t, rfl, hL1.st0 s2, hO.line, er, fun p Ha hp sa la => ?_⟩
          obtain ⟨dqa, lva, sta, qa1, qa2, qa3⟩ := (hD1.st s2 (by simp)).st sa (by simp)
          have hla := sa.keep _ _ (s2.keep _ _ h1a (by simp)) (by simp)
          obtain ⟨al, rfl, qa2'⟩ := qa2
          obtain ⟨DD, xx, yy, hII, hDD⟩ := hO.loud.on
          have hlev := (hII.rb hDD).1
          have hx : Rb (d + 14) (v.line.value t * v.loud.on.level) := ((value_rb hO.line er).mul hlev).mono (by omega)
          walk_at "rds"
          refine ⟨p, al, _, _, 14, d, rfl, .inl la, qa2', value_rb hO.line er, hlev, by omega, by decide, hd0, fun pw Hb hpw sb lb => ?_⟩
          have eS : v.word = wH ∨ v.word = wR ∨ v.word = wO := by
            rcases hO.word with z | z | z | z
            · exact .inl z
            · exact .inr (.inl z)
            · exact .inr (.inr z)
            · exact absurd z eF
          have hlb := sb.keep _ _ hla (by simp)
          walk_at "rds"
          refine ⟨A.a, A.l, A.q, { v with loud := v.loud.on }, _, _, soft, d + 14, rfl, (hVo2.st sa (by simp)).st sb (by simp), isQ_of lb, hs1, hs2, hO.stR, eS, hx, by omega, by omega, fun H3 hv s3' => ?_⟩
          have s3 := ((sa.trans sb).trans s3').sub (G := [A.a]) (by simp)
          obtain ⟨dy, pv2, hv2, g1, g2, g3⟩ := id hv
          walk_at "rds"
          exact main H2 s2 _ _ (by rw [eu]; exact g2) (by rw [eu]; exact hv) s3
end
end Mx

namespace Mx
open PySem L2
/-! ### the mixer -/
abbrev MV := Int × VA × VoiceS
structure MixS where
  soft : Int
  coming : Int
  vs : List MV
  lacked : List (Int × Int)
def fsM (d k : Addr) (soft coming : Int) : List (Str × V) := [("soft", .int soft), ("coming", .int coming), ("voices", .ref d), ("lacked", .ref k)]
def vdict (vs : List MV) : List (Key × V) := vs.map fun e => (Sum.inl e.1, V.ref e.2.1.a)
def IsPair (H : Hp) (v : V) (p : Int × Int) : Prop := ∃ a, v = .ref a ∧ H a = some (.tup [.int p.1, .int p.2])
structure MixAt (K : PySem.W.Frag) (cs : Cs) (H : Hp) (m d k : Addr) (s : MixS) : Prop where
  ob : ∃ dx, H m = some (.ins cs.M dx (fsM d k s.soft s.coming))
  dv : H d = some (.dK (vdict s.vs))
  lk : ∃ ls, H k = some (.lst ls) ∧ Paired (IsPair H) ls s.lacked
  vo : ∀ e ∈ s.vs, VoiceAt K cs H e.2.1 e.2.2
  ap : ∀ e ∈ s.vs, m ∉ e.2.1.foot ∧ d ∉ e.2.1.foot ∧ k ∉ e.2.1.foot
  dj : ∀ e ∈ s.vs, ∀ f ∈ s.vs, e.1 ≠ f.1 → ∀ b ∈ e.2.1.foot, b ∉ f.2.1.foot
  nm : (s.vs.map (·.1)).Nodup
def MixS.foot (m d k : Addr) (s : MixS) : List Addr := m :: d :: k :: s.vs.flatMap fun e => e.2.1.foot
theorem IsPair.st {F : List Addr} {H H' : Hp} {v : V} {p : Int × Int} (h : IsPair H v p) (s : Stp F H H') : IsPair H' v p := by
  obtain ⟨a, e, g⟩ := h
  exact ⟨a, e, s.tup _ _ g⟩
theorem pairs_st {F : List Addr} {H H' : Hp} (s : Stp F H H') : ∀ {ls : List V} {ps : List (Int × Int)}, Paired (IsPair H) ls ps → Paired (IsPair H') ls ps
  | _, _, .nil => .nil
  | _, _, .cons h r => .cons (h.st s) (pairs_st s r)
theorem MixAt.ne {K : PySem.W.Frag} {cs : Cs} {H : Hp} {m d k : Addr} {s : MixS} (h : MixAt K cs H m d k s) : m ≠ d ∧ m ≠ k ∧ d ≠ k := by
  obtain ⟨⟨dx, h1⟩, h2, ⟨ls, h3, _⟩, _⟩ := h
  exact ⟨ne_of h1 h2 (fun z => nomatch z), ne_of h1 h3 (fun z => nomatch z), ne_of h2 h3 (fun z => nomatch z)⟩
theorem MixAt.st {K : PySem.W.Frag} {cs : Cs} {F : List Addr} {H H' : Hp} {m d k : Addr} {s : MixS} (h : MixAt K cs H m d k s) (g : Stp F H H') (n : ∀ b ∈ s.foot m d k, b ∉ F) : MixAt K cs H' m d k s := by
  obtain ⟨⟨dx, h1⟩, h2, ⟨ls, h3, h4⟩, h5, h6, h7, h8⟩ := h
  refine ⟨⟨dx, g.keep _ _ h1 (n _ (by simp [MixS.foot]))⟩, g.keep _ _ h2 (n _ (by simp [MixS.foot])), ⟨ls, g.keep _ _ h3 (n _ (by simp [MixS.foot])), pairs_st g h4⟩, fun e he => (h5 e he).st g fun b hb => n b ?_, h6, h7, h8⟩
  unfold MixS.foot
  exact List.mem_cons_of_mem _ (List.mem_cons_of_mem _ (List.mem_cons_of_mem _ (List.mem_flatMap.mpr ⟨e, he, hb⟩)))
theorem MixAt.st0 {K : PySem.W.Frag} {cs : Cs} {H H' : Hp} {m d k : Addr} {s : MixS} (h : MixAt K cs H m d k s) (g : Stp [] H H') : MixAt K cs H' m d k s := h.st g (by simp)
theorem MixAt.some {K : PySem.W.Frag} {cs : Cs} {H : Hp} {m d k : Addr} {s : MixS} (h : MixAt K cs H m d k s) : ∀ b ∈ s.foot m d k, H b ≠ none := by
  obtain ⟨⟨dx, h1⟩, h2, ⟨ls, h3, h4⟩, h5, h6, h7, h8⟩ := h
  intro b hb
  unfold MixS.foot at hb
  rcases List.mem_cons.mp hb with e | hb
  · rw [e, h1]; exact fun z => nomatch z
  rcases List.mem_cons.mp hb with e | hb
  · rw [e, h2]; exact fun z => nomatch z
  rcases List.mem_cons.mp hb with e | hb
  · rw [e, h3]; exact fun z => nomatch z
  obtain ⟨e, he, hb⟩ := List.mem_flatMap.mp hb
  exact (h5 e he).some b hb
/-- the voice of a name turned -/
def setV (vs : List MV) (n : Int) (v : VoiceS) : List MV := vs.map fun e => if e.1 = n then (e.1, e.2.1, v) else e
theorem setV_names (vs : List MV) (n : Int) (v : VoiceS) : (setV vs n v).map (·.1) = vs.map (·.1) := by
  unfold setV
  rw [List.map_map]
  refine List.map_congr_left fun e _ => ?_
  show (if e.1 = n then (e.1, e.2.1, v) else e).1 = e.1
  split <;> rfl
theorem setV_dict (vs : List MV) (n : Int) (v : VoiceS) : vdict (setV vs n v) = vdict vs := by
  unfold vdict setV
  rw [List.map_map]
  refine List.map_congr_left fun e _ => ?_
  show ((Sum.inl (if e.1 = n then (e.1, e.2.1, v) else e).1, V.ref (if e.1 = n then (e.1, e.2.1, v) else e).2.1.a) : Key × V) = _
  split <;> rfl
theorem setV_mem {vs : List MV} {n : Int} {v : VoiceS} {f : MV} (h : f ∈ setV vs n v) : ∃ e ∈ vs, e.1 = f.1 ∧ e.2.1 = f.2.1 ∧ (f.1 = n ∧ f.2.2 = v ∨ f.1 ≠ n ∧ f = e) := by
  unfold setV at h
  obtain ⟨e, he, rfl⟩ := List.mem_map.mp h
  refine ⟨e, he, ?_⟩
  by_cases q : e.1 = n
  · rw [if_pos q]
    exact ⟨rfl, rfl, .inl ⟨q, rfl⟩⟩
  · rw [if_neg q]
    exact ⟨rfl, rfl, .inr ⟨q, rfl⟩⟩
theorem setV_foot (vs : List MV) (n : Int) (v : VoiceS) : ((setV vs n v).flatMap fun e => e.2.1.foot) = vs.flatMap fun e => e.2.1.foot := by
  unfold setV
  induction vs with
  | nil => rfl
  | cons e r ih =>
    rw [List.map_cons, List.flatMap_cons, List.flatMap_cons, ih]
    congr 1
    split <;> rfl
theorem nodup_inj {vs : List MV} (h : (vs.map (·.1)).Nodup) {e f : MV} (he : e ∈ vs) (hf : f ∈ vs) (q : e.1 = f.1) : e = f := by
  induction vs with
  | nil => cases he
  | cons x r ih =>
    rw [List.map_cons, List.nodup_cons] at h
    rcases List.mem_cons.mp he with a | a <;> rcases List.mem_cons.mp hf with b | b
    · rw [a, b]
    · exact absurd (List.mem_map.mpr ⟨f, b, by rw [← q, a]⟩) h.1
    · exact absurd (List.mem_map.mpr ⟨e, a, by rw [q, b]⟩) h.1
    · exact ih h.2 a b
theorem MixAt.turn {K : PySem.W.Frag} {cs : Cs} {F : List Addr} {H H' : Hp} {m d k : Addr} {s : MixS} (h : MixAt K cs H m d k s) {e : MV} (he : e ∈ s.vs) {v : VoiceS} (g : Stp F H H') (hF : ∀ b ∈ F, b ∈ e.2.1.foot) (hv : VoiceAt K cs H' e.2.1 v) : MixAt K cs H' m d k { s with vs := setV s.vs e.1 v } := by
  obtain ⟨⟨dx, h1⟩, h2, ⟨ls, h3, h4⟩, h5, h6, h7, h8⟩ := h
  have q := h6 e he
  refine ⟨⟨dx, g.keep _ _ h1 fun z => q.1 (hF _ z)⟩, ?_, ⟨ls, g.keep _ _ h3 fun z => q.2.2 (hF _ z), pairs_st g h4⟩, fun f hf => ?_, fun f hf => ?_, fun f hf f' hf' hn => ?_, ?_⟩
  · show H' d = Option.some (.dK (vdict (setV s.vs e.1 v)))
    rw [setV_dict]
    exact g.keep _ _ h2 fun z => q.2.1 (hF _ z)
  · obtain ⟨e', he', e1, e2, c⟩ := setV_mem hf
    rcases c with ⟨c1, c2⟩ | ⟨c1, c2⟩
    · rw [c2, ← e2]
      have : e' = e := by
        have w1 : e'.1 = e.1 := e1.trans c1
        exact nodup_inj h8 he' he w1
      rw [this]
      exact hv
    · rw [c2]
      exact (h5 e' he').st g fun b hb z => h7 e' he' e he (by rw [e1]; exact c1) b hb (hF b z)
  · obtain ⟨e', he', e1, e2, _⟩ := setV_mem hf
    rw [← e2]
    exact h6 e' he'
  · obtain ⟨e', he', e1, e2, _⟩ := setV_mem hf
    obtain ⟨e'', he'', e1', e2', _⟩ := setV_mem hf'
    rw [← e2, ← e2']
    exact h7 e' he' e'' he'' (by rw [e1, e1']; exact hn)
  · show ((setV s.vs e.1 v).map (·.1)).Nodup
    rw [setV_names]
    exact h8
end Mx

namespace Mx
open PySem L2
set_option hygiene false in
local macro_rules | `(tactic| walk_at "rd") => `(tactic| try simp only [L2.start, List.map_cons, List.map_nil, List.length_cons, List.length_nil, Nat.reduceAdd, Nat.reduceSub, Nat.reduceLT, Nat.reduceLeDiff, List.replicate_succ, List.replicate_zero, List.append_nil, List.nil_append, List.cons_append, List.set_cons_zero, List.set_cons_succ, List.getElem?_cons_zero, List.getElem?_cons_succ,
  Option.some.injEq, List.cons.injEq, and_true, true_and, and_assoc, reduceCtorEq, L2.V.int.injEq, L2.V.ref.injEq, L2.V.bl.injEq, L2.V.str.injEq, L2.V.ty.injEq, L2.HO.ins.injEq, L2.HO.lst.injEq, L2.HO.tup.injEq, L2.HO.dK.injEq, exists_eq_left', exists_eq_left, exists_eq_right, exists_eq', exists_eq, exists_and_left, exists_and_right, reduceIte, Bool.false_eq_true, Bool.not_true, Bool.not_false,
  L2.tSeq, L2.tIfS, L2.tRet, L2.tRetN, L2.tNext, L2.tAsg, L2.gName, L2.tVar, L2.tC, L2.tCons, L2.tNil, L2.tCB, L2.tOp, L2.tUn, L2.tTup, L2.tLst, L2.tB, L2.tOr, L2.tAnd, L2.tNot, L2.tAndV, L2.tOrV, L2.tNotV, L2.tIf, L2.tTest, L2.tChain, L2.rI, L2.rI0, L2.rU, L2.tDrop, L2.tNever, L2.tCall, L2.tMeth, L2.tMake, L2.rGcd, L2.tFld, L2.sFld, L2.sFldAug, Mx.sFldA, Mx.sFldAugA, L2.rAdd, L2.rSub, L2.rEq, L2.rNe, L2.tDGet, L2.tDIn, L2.tDNotIn, L2.sDPut,
  Mx.isi_int_bool, Mx.isi_int_int, Mx.isi_int_tuple, Mx.isi_int_list, Mx.isi_int_str, Mx.scal_int, Mx.scal_str, Mx.scal_bl, Mx.ofString_inj, Mx.ofString_beq, Mx.lk_cons, Mx.pf_nil, Mx.pf_cons, Mx.sz1, Mx.sz2, List.lookup_nil, String.reduceEq, decide_true, decide_false, decide_eq_true_eq, Int.natAbs_natCast, L2.upd_same, L2.upd_upd, L2.cxOf])
set_option hygiene false in
local macro_rules | `(tactic| walk_at "rds") => `(tactic| try simp only [L2.start, List.map_cons, List.map_nil, List.length_cons, List.length_nil, Nat.reduceAdd, Nat.reduceSub, Nat.reduceLT, Nat.reduceLeDiff, List.replicate_succ, List.replicate_zero, List.append_nil, List.nil_append, List.cons_append, List.set_cons_zero, List.set_cons_succ, List.getElem?_cons_zero, List.getElem?_cons_succ,
  Option.some.injEq, List.cons.injEq, and_true, true_and, and_assoc, reduceCtorEq, L2.V.int.injEq, L2.V.ref.injEq, L2.V.bl.injEq, L2.V.str.injEq, L2.V.ty.injEq, L2.HO.ins.injEq, L2.HO.lst.injEq, L2.HO.tup.injEq, L2.HO.dK.injEq, exists_eq_left', exists_eq_left, exists_eq_right, exists_eq', exists_eq, exists_and_left, exists_and_right, reduceIte, Bool.false_eq_true, Bool.not_true, Bool.not_false,
  L2.tSeq, L2.tIfS, L2.tRet, L2.tRetN, L2.tNext, L2.tAsg, L2.gName, L2.tVar, L2.tC, L2.tCons, L2.tNil, L2.tCB, L2.tOp, L2.tUn, L2.tTup, L2.tLst, L2.tB, L2.tOr, L2.tAnd, L2.tNot, L2.tAndV, L2.tOrV, L2.tNotV, L2.tIf, L2.tTest, L2.tChain, L2.rI, L2.rI0, L2.rU, L2.tDrop, L2.tNever, L2.tCall, L2.tMeth, L2.tMake, L2.rGcd, L2.tFld, L2.sFld, L2.sFldAug, Mx.sFldA, Mx.sFldAugA, L2.rAdd, L2.rSub, L2.rEq, L2.rNe, L2.tDGet, L2.tDIn, L2.tDNotIn, L2.sDPut,
  Mx.isi_int_bool, Mx.isi_int_int, Mx.isi_int_tuple, Mx.isi_int_list, Mx.isi_int_str, Mx.scal_int, Mx.scal_str, Mx.scal_bl, Mx.ofString_inj, Mx.ofString_beq, Mx.lk_cons, Mx.pf_nil, Mx.pf_cons, Mx.sz1, Mx.sz2, List.lookup_nil, String.reduceEq, decide_true, decide_false, decide_eq_true_eq, Int.natAbs_natCast, L2.upd_same, L2.upd_upd, L2.cxOf, *])

section
variable {P : Program} {w : World} {K : PySem.W.Frag} {mg : Str → Option Value} {base : Heap}
/-! what lets whole numbers within bounds by -/
def sp_in (lo hi : Int) : Sp := fun vs H Q _ => ∃ n : Int, vs = [.int n] ∧ lo ≤ n ∧ n ≤ hi ∧ Q .non H
theorem sc_check_soft : FnScope ["soft"] ["soft"] (defScope s_check_soft) := ⟨rfl, rfl, rfl, by decide +kernel, rfl, by decide +kernel, by decide +kernel⟩
theorem ok_check_soft {f : Addr} {fd : FuncData} (F : Fun K "check_soft" "check_soft" s_check_soft f fd) (G : OwnF P w K mg base "is_whole" 1 ["number", "low", "high"] sp_is_whole) : FnOk P w K mg base CX0 2 f fd ["soft"] (sp_in 1 16) := by
  refine F.ok sc_check_soft (fun vs H Q E h => ?_) (fun cdv A outer s H vs Q E hr h => ?_)
  · obtain ⟨n, rfl, _⟩ := h
    rfl
  · obtain ⟨n, rfl, h1, h2, k⟩ := h
    refine ⟨_, pss_one (ps_if (pt_not (pt_val (p_call G hr (pa_cons (pv 0) (pa_cons pe_int (pa_cons pe_int pa_nil)))))) (pss_one ps_never) pss_nil), ?_⟩
    refine ⟨_, rfl, n, 1, 16, rfl, _, rfl, ?_⟩
    rw [decide_eq_true (show 1 ≤ n ∧ n ≤ 16 from ⟨h1, h2⟩)]
    exact iteF k
theorem sc_check_name : FnScope ["name"] ["name"] (defScope s_check_name) := ⟨rfl, rfl, rfl, by decide +kernel, rfl, by decide +kernel, by decide +kernel⟩
theorem ok_check_name {f : Addr} {fd : FuncData} (F : Fun K "check_name" "check_name" s_check_name f fd) (G : OwnF P w K mg base "is_whole" 1 ["number", "low", "high"] sp_is_whole) : FnOk P w K mg base CX0 2 f fd ["name"] (sp_in 0 5) := by
  refine F.ok sc_check_name (fun vs H Q E h => ?_) (fun cdv A outer s H vs Q E hr h => ?_)
  · obtain ⟨n, rfl, _⟩ := h
    rfl
  · obtain ⟨n, rfl, h1, h2, k⟩ := h
    refine ⟨_, pss_one (ps_if (pt_not (pt_val (p_call G hr (pa_cons (pv 0) (pa_cons pe_int (pa_cons pe_int pa_nil)))))) (pss_one ps_never) pss_nil), ?_⟩
    refine ⟨_, rfl, n, 0, 5, rfl, _, rfl, ?_⟩
    rw [decide_eq_true (show 0 ≤ n ∧ n ≤ 5 from ⟨h1, h2⟩)]
    exact iteF k
theorem sc_check_wait : FnScope ["wait"] ["wait"] (defScope s_check_wait) := ⟨rfl, rfl, rfl, by decide +kernel, rfl, by decide +kernel, by decide +kernel⟩
theorem ok_check_wait {f : Addr} {fd : FuncData} (F : Fun K "check_wait" "check_wait" s_check_wait f fd) (G : OwnF P w K mg base "is_whole" 1 ["number", "low", "high"] sp_is_whole) : FnOk P w K mg base CX0 2 f fd ["wait"] (sp_in 0 64) := by
  refine F.ok sc_check_wait (fun vs H Q E h => ?_) (fun cdv A outer s H vs Q E hr h => ?_)
  · obtain ⟨n, rfl, _⟩ := h
    rfl
  · obtain ⟨n, rfl, h1, h2, k⟩ := h
    refine ⟨_, pss_one (ps_if (pt_not (pt_val (p_call G hr (pa_cons (pv 0) (pa_cons pe_int (pa_cons pe_int pa_nil)))))) (pss_one ps_never) pss_nil), ?_⟩
    refine ⟨_, rfl, n, 0, 64, rfl, _, rfl, ?_⟩
    rw [decide_eq_true (show 0 ≤ n ∧ n ≤ 64 from ⟨h1, h2⟩)]
    exact iteF k
theorem sc_check_loudness : FnScope ["loudness"] ["loudness"] (defScope s_check_loudness) := ⟨rfl, rfl, rfl, by decide +kernel, rfl, by decide +kernel, by decide +kernel⟩
theorem ok_check_loudness {f : Addr} {fd : FuncData} (F : Fun K "check_loudness" "check_loudness" s_check_loudness f fd) (G : OwnF P w K mg base "is_whole" 1 ["number", "low", "high"] sp_is_whole) : FnOk P w K mg base CX0 2 f fd ["loudness"] (sp_in 0 64) := by
  refine F.ok sc_check_loudness (fun vs H Q E h => ?_) (fun cdv A outer s H vs Q E hr h => ?_)
  · obtain ⟨n, rfl, _⟩ := h
    rfl
  · obtain ⟨n, rfl, h1, h2, k⟩ := h
    refine ⟨_, pss_one (ps_if (pt_not (pt_val (p_call G hr (pa_cons (pv 0) (pa_cons pe_int (pa_cons pe_int pa_nil)))))) (pss_one ps_never) pss_nil), ?_⟩
    refine ⟨_, rfl, n, 0, 64, rfl, _, rfl, ?_⟩
    rw [decide_eq_true (show 0 ≤ n ∧ n ≤ 64 from ⟨h1, h2⟩)]
    exact iteF k
def sp_check_pace : Sp := fun vs H Q _ => ∃ (t : Addr) (pn pb : Int), vs = [.ref t] ∧ H t = some (.tup [.int pn, .int pb]) ∧ (1 ≤ pn ∧ pn ≤ 8) ∧ (1 ≤ pb ∧ pb ≤ 8) ∧ ∀ H', Stp [] H H' → Q .non H'
theorem sc_check_pace : FnScope ["pace", "number"] ["pace"] (defScope s_check_pace) := ⟨rfl, rfl, rfl, by decide +kernel, rfl, by decide +kernel, by decide +kernel⟩
theorem ok_check_pace {f : Addr} {fd : FuncData} (F : Fun K "check_pace" "check_pace" s_check_pace f fd) (B : Blt mg) (G : OwnF P w K mg base "is_whole" 1 ["number", "low", "high"] sp_is_whole) : FnOk P w K mg base CX0 2 f fd ["pace"] sp_check_pace := by
  refine F.ok sc_check_pace (fun vs H Q E h => ?_) (fun cdv A outer s H vs Q E hr h => ?_)
  · obtain ⟨t, pn, pb, rfl, _⟩ := h
    rfl
  · obtain ⟨t, pn, pb, rfl, ht, h1, h2, k⟩ := h
    refine ⟨_, pss_cons (ps_if (PW.pt (pw_or (pt_not (pt_val (b_isi B (pv 0) B.tuple PyProof.Rows.boot_tuple))) (pw_or1 (pt_cmpR op_ne (pe_callB call_len_seq (by rfl) B.len PySem.boot_len (pa_cons (pv 0) pa_nil)) pe_int (nomark _))))) (pss_one ps_never) pss_nil)
      (pss_one (ps_if (pt_not (pt_val (pe_callB (cr_all rfl) (by rfl) B.all PyProof.Rows.boot_all (pa_cons (pe_lc (own := [("number", 1)]) (te := tCall sp_is_whole [] E0 (tCons (tVar 1) (tCons (tC (.int 1)) (tCons (tC (.int 8)) tNil)))) rfl sc_check_pace.nd (pi_tup (pv 0)) (blkOk_by (N := ["pace", "number"]) (sc := defScope s_check_pace) (by decide +kernel))
        (fun _ _ _ _ _ => pg_name (i := 1) sc_check_pace.nd rfl (.inl rfl)) (fun _ _ _ _ _ => pts_nil) (fun _ _ _ _ _ => p_call G hr (pa_cons (pv 1) (pa_cons pe_int (pa_cons pe_int pa_nil))))) pa_nil)))) (pss_one ps_never) pss_nil)), ?_⟩
    walk_at "rd"
    refine isi_tup ht ?_
    walk_at "rd"
    refine ⟨_, .inr (.inl (.inl ht)), ?_⟩
    walk_at "rd"
    refine ⟨_, rfl, t, rfl, ⟨_, .inl (.inl ht)⟩, lc_pureT (K := K) (a := t) (H9 := H) (i := 1) (te := tCall sp_is_whole [] E0 (tCons (tVar 1) (tCons (tC (.int 1)) (tCons (tC (.int 8)) tNil)))) (σ := [some (.ref t), none]) (Q := fun x H1 => rAll K [x] H1 _) (fun _ => .bl true) ht (by show 2 ≤ 100000; decide) (fun x hx H1 Q' hs q => ?_) (fun D H1 hD hs1 hl1 => ?_)⟩
    · refine ⟨_, rfl, ?_⟩
      rcases List.mem_cons.mp hx with e | hx
      · subst e
        refine ⟨pn, 1, 8, rfl, ?_⟩
        rw [decide_eq_true h1]
        exact q
      · rw [List.mem_singleton.mp hx]
        refine ⟨pb, 1, 8, rfl, ?_⟩
        rw [decide_eq_true h2]
        exact q
    · refine ⟨D, [true, true], rfl, .inl (.inl hl1), _, rfl, iteF ?_⟩
      exact k H1 hs1

end
end Mx

namespace Mx
open PySem L2
theorem vdict_get {vs : List MV} (h : (vs.map (·.1)).Nodup) {e : MV} (he : e ∈ vs) : valV (vdict vs) (Sum.inl e.1 : Key) = some (.ref e.2.1.a) := by
  unfold valV vdict
  induction vs with
  | nil => cases he
  | cons x r ih =>
    rw [List.map_cons, List.nodup_cons] at h
    rcases List.mem_cons.mp he with a | a
    · subst a
      simp
    · have : x.1 ≠ e.1 := fun z => h.1 (List.mem_map.mpr ⟨e, a, z.symm⟩)
      rw [List.map_cons, List.find?_cons_of_neg (by simpa using this)]
      exact ih h.2 a
theorem vdict_no {vs : List MV} {n : Int} (h : n ∉ vs.map (·.1)) : valV (vdict vs) (Sum.inl n : Key) = none := by
  unfold valV vdict
  induction vs with
  | nil => rfl
  | cons x r ih =>
    rw [List.map_cons, List.mem_cons, not_or] at h
    rw [List.map_cons, List.find?_cons_of_neg (by simpa using Ne.symm h.1)]
    exact ih h.2
theorem vdict_put {vs : List MV} {n : Int} {A : VA} {v : VoiceS} (h : n ∉ vs.map (·.1)) : putK (vdict vs) (Sum.inl n : Key) (V.ref A.a) = vdict (vs ++ [(n, A, v)]) := by
  rw [putK_new _ (vdict_no h)]
  simp [vdict]
structure TM (K : PySem.W.Frag) (C : Addr) : Prop where
  cl : Cls K C
  a1 : NoAttr K C "soft"
  a2 : NoAttr K C "coming"
  a3 : NoAttr K C "voices"
  a4 : NoAttr K C "lacked"
set_option hygiene false in
local macro_rules | `(tactic| walk_at "rd") => `(tactic| try simp only [L2.start, List.map_cons, List.map_nil, List.length_cons, List.length_nil, Nat.reduceAdd, Nat.reduceSub, Nat.reduceLT, Nat.reduceLeDiff, List.replicate_succ, List.replicate_zero, List.append_nil, List.nil_append, List.cons_append, List.set_cons_zero, List.set_cons_succ, List.getElem?_cons_zero, List.getElem?_cons_succ,
  Option.some.injEq, List.cons.injEq, and_true, true_and, and_assoc, reduceCtorEq, L2.V.int.injEq, L2.V.ref.injEq, L2.V.bl.injEq, L2.V.str.injEq, L2.V.ty.injEq, L2.HO.ins.injEq, L2.HO.lst.injEq, L2.HO.tup.injEq, L2.HO.dK.injEq, exists_eq_left', exists_eq_left, exists_eq_right, exists_eq', exists_eq, exists_and_left, exists_and_right, reduceIte, Bool.false_eq_true, Bool.not_true, Bool.not_false,
  L2.tSeq, L2.tIfS, L2.tRet, L2.tRetN, L2.tNext, L2.tAsg, L2.gName, L2.tVar, L2.tC, L2.tCons, L2.tNil, L2.tCB, L2.tOp, L2.tUn, L2.tTup, L2.tLst, L2.tB, L2.tOr, L2.tAnd, L2.tNot, L2.tAndV, L2.tOrV, L2.tNotV, L2.tIf, L2.tTest, L2.tChain, L2.rI, L2.rI0, L2.rU, L2.tDrop, L2.tNever, L2.tCall, L2.tMeth, L2.tMake, L2.rGcd, L2.tFld, L2.sFld, L2.sFldAug, Mx.sFldA, Mx.sFldAugA, L2.rAdd, L2.rSub, L2.rEq, L2.rNe, L2.tDGet, L2.tDIn, L2.tDNotIn, L2.sDPut,
  Mx.isi_int_bool, Mx.isi_int_int, Mx.isi_int_tuple, Mx.isi_int_list, Mx.isi_int_str, Mx.scal_int, Mx.scal_str, Mx.scal_bl, Mx.ofString_inj, Mx.ofString_beq, Mx.lk_cons, Mx.pf_nil, Mx.pf_cons, Mx.sz1, Mx.sz2, List.lookup_nil, String.reduceEq, decide_true, decide_false, decide_eq_true_eq, Int.natAbs_natCast, L2.upd_same, L2.upd_upd, L2.cxOf, Mx.fsM, Mx.fsV, Mx.fsL])
set_option hygiene false in
local macro_rules | `(tactic| walk_at "rds") => `(tactic| try simp only [L2.start, List.map_cons, List.map_nil, List.length_cons, List.length_nil, Nat.reduceAdd, Nat.reduceSub, Nat.reduceLT, Nat.reduceLeDiff, List.replicate_succ, List.replicate_zero, List.append_nil, List.nil_append, List.cons_append, List.set_cons_zero, List.set_cons_succ, List.getElem?_cons_zero, List.getElem?_cons_succ,
  Option.some.injEq, List.cons.injEq, and_true, true_and, and_assoc, reduceCtorEq, L2.V.int.injEq, L2.V.ref.injEq, L2.V.bl.injEq, L2.V.str.injEq, L2.V.ty.injEq, L2.HO.ins.injEq, L2.HO.lst.injEq, L2.HO.tup.injEq, L2.HO.dK.injEq, exists_eq_left', exists_eq_left, exists_eq_right, exists_eq', exists_eq, exists_and_left, exists_and_right, reduceIte, Bool.false_eq_true, Bool.not_true, Bool.not_false,
  L2.tSeq, L2.tIfS, L2.tRet, L2.tRetN, L2.tNext, L2.tAsg, L2.gName, L2.tVar, L2.tC, L2.tCons, L2.tNil, L2.tCB, L2.tOp, L2.tUn, L2.tTup, L2.tLst, L2.tB, L2.tOr, L2.tAnd, L2.tNot, L2.tAndV, L2.tOrV, L2.tNotV, L2.tIf, L2.tTest, L2.tChain, L2.rI, L2.rI0, L2.rU, L2.tDrop, L2.tNever, L2.tCall, L2.tMeth, L2.tMake, L2.rGcd, L2.tFld, L2.sFld, L2.sFldAug, Mx.sFldA, Mx.sFldAugA, L2.rAdd, L2.rSub, L2.rEq, L2.rNe, L2.tDGet, L2.tDIn, L2.tDNotIn, L2.sDPut,
  Mx.isi_int_bool, Mx.isi_int_int, Mx.isi_int_tuple, Mx.isi_int_list, Mx.isi_int_str, Mx.scal_int, Mx.scal_str, Mx.scal_bl, Mx.ofString_inj, Mx.ofString_beq, Mx.lk_cons, Mx.pf_nil, Mx.pf_cons, Mx.sz1, Mx.sz2, List.lookup_nil, String.reduceEq, decide_true, decide_false, decide_eq_true_eq, Int.natAbs_natCast, L2.upd_same, L2.upd_upd, L2.cxOf, Mx.fsM, Mx.fsV, Mx.fsL, *])

section
variable {P : Program} {w : World} {K : PySem.W.Frag} {mg : Str → Option Value} {base : Heap} {cs : Cs}
/-! a mixer is made -/
def sp_Mixer_init (K : PySem.W.Frag) (cs : Cs) : Sp := fun vs H Q _ => ∃ (m dx : Addr) (soft : Int), vs = [.ref m, .int soft] ∧ H m = some (.ins cs.M dx []) ∧ 1 ≤ soft ∧ soft ≤ 16 ∧
  ∀ d k H', H d = none → H k = none → MixAt K cs H' m d k ⟨soft, 0, [], []⟩ → Stp [m] H H' → Q .non H'
theorem sc_Mixer_init : FnScope ["self", "soft"] ["self", "soft"] (defScope s_Mixer_init) := ⟨rfl, rfl, rfl, by decide +kernel, rfl, by decide +kernel, by decide +kernel⟩
theorem ok_Mixer_init {f : Addr} {fd : FuncData} (F : Fun K "__init__" "Mixer.__init__" s_Mixer_init f fd) (T : TM K cs.M) (G : OwnF P w K mg base "check_soft" 2 ["soft"] (sp_in 1 16)) : FnOk P w K mg base CX0 3 f fd ["self", "soft"] (sp_Mixer_init K cs) := by
  refine F.ok sc_Mixer_init (fun vs H Q E h => ?_) (fun cdv A outer s H vs Q E hr h => ?_)
  · obtain ⟨m, dx, soft, rfl, _⟩ := h
    rfl
  · obtain ⟨m, dx, soft, rfl, hm, hs1, hs2, k⟩ := h
    obtain ⟨cl, a1, a2, a3, a4⟩ := T
    refine ⟨_, pss_cons (ps_expr (p_call G hr (pa_cons (pv 1) pa_nil))) (pss_cons (ps_fldA (pv 0) (pv 1) rfl) (pss_cons (ps_fldA (pv 0) pe_int rfl) (pss_cons (ps_fldA (pv 0) pe_dnewK rfl) (pss_one (ps_fldA (pv 0) (pe_lst pa_nil) rfl))))), ?_⟩
    refine ⟨_, rfl, soft, rfl, hs1, hs2, ?_⟩
    walk_at "rds"
    intro H1 g1 s1
    walk_at "rds"
    intro H2 g2 s2
    walk_at "rds"
    intro d hd
    have s3 := Stp.new (o := .dK []) hd
    have e3 : upd H2 d (.dK []) d = some (.dK []) := upd_same
    have g3 := s3.keep _ _ g2 (by simp)
    generalize upd H2 d (.dK []) = H3 at *
    have hdm : m ≠ d := ne_of_none g2 hd
    walk_at "rds"
    intro H4 g4 s4
    walk_at "rds"
    refine ⟨by decide, fun l hl => ?_⟩
    have s5 := Stp.new (o := .lst []) hl
    have e5 : upd H4 l (.lst []) l = some (.lst []) := upd_same
    have g5 := s5.keep _ _ g4 (by simp)
    have hlm : m ≠ l := ne_of_none g4 hl
    have e4 := s4.keep _ _ e3 (by simpa using hdm.symm)
    have hdl : d ≠ l := ne_of_none e4 hl
    generalize upd H4 l (.lst []) = H5 at *
    walk_at "rds"
    intro H6 g6 s6
    have hd0 : H d = none := s1.free (s2.free hd (by simpa using hdm.symm)) (by simpa using hdm.symm)
    have hl0 : H l = none := s1.free (s2.free (s3.free (s4.free hl (by simpa using hlm.symm)) (by simp)) (by simpa using hlm.symm)) (by simpa using hlm.symm)
    refine k d l H6 hd0 hl0 ⟨⟨dx, g6⟩, ?_, ⟨[], ?_, .nil⟩, (by simp), (by simp), (by simp), List.nodup_nil⟩ ?_
    · exact s6.keep _ _ (s5.keep _ _ e4 (by simp)) (by simpa using hdm.symm)
    · exact s6.keep _ _ e5 (by simpa using hlm.symm)
    · exact (s1.trans (s2.trans (s3.trans (s4.trans (s5.trans s6))))).sub (by simp)

/-! its voice of a name -/
def sp_Mixer_voice_of (K : PySem.W.Frag) (cs : Cs) : Sp := fun vs H Q _ => ∃ (m d k : Addr) (s : MixS) (e : MV), vs = [.ref m, .int e.1] ∧ MixAt K cs H m d k s ∧ e ∈ s.vs ∧ 0 ≤ e.1 ∧ e.1 ≤ 5 ∧ Q (.ref e.2.1.a) H
theorem sc_Mixer_voice_of : FnScope ["self", "name"] ["self", "name"] (defScope s_Mixer_voice_of) := ⟨rfl, rfl, rfl, by decide +kernel, rfl, by decide +kernel, by decide +kernel⟩
theorem ok_Mixer_voice_of {f : Addr} {fd : FuncData} (F : Fun K "voice_of" "Mixer.voice_of" s_Mixer_voice_of f fd) (T : TM K cs.M) (G : OwnF P w K mg base "check_name" 2 ["name"] (sp_in 0 5)) : FnOk P w K mg base CX0 3 f fd ["self", "name"] (sp_Mixer_voice_of K cs) := by
  refine F.ok sc_Mixer_voice_of (fun vs H Q E h => ?_) (fun cdv A outer s H vs Q E hr h => ?_)
  · obtain ⟨m, d, k, s, e, rfl, _⟩ := h
    rfl
  · obtain ⟨m, d, k, s, e, rfl, hM, he, h0, h5, q⟩ := h
    obtain ⟨cl, a1, a2, a3, a4⟩ := T
    have hu := hu_of hr
    refine ⟨_, pss_cons (ps_expr (p_call G hr (pa_cons (pv 1) pa_nil))) (pss_cons (ps_if (pt_cmp (pc_dnotin hu (pv 1) (pe_fld (pv 0) rfl))) (pss_one ps_never) pss_nil) (pss_one (ps_ret (pe_dget hu (pe_fld (pv 0) rfl) (pv 1) (fun _ _ => rfl))))), ?_⟩
    obtain ⟨dx, h1⟩ := hM.ob
    have g1 := DGet.k (k := (Sum.inl e.1 : Key)) hM.dv
    rw [vdict_get hM.nm he] at g1
    refine ⟨_, rfl, e.1, rfl, h0, h5, ?_⟩
    walk_at "rds"
    refine ⟨_, g1, ?_⟩
    rw [if_neg (by simp)]
    exact ⟨_, g1, q⟩
end
end Mx

namespace Mx
open PySem L2
set_option hygiene false in
local macro_rules | `(tactic| walk_at "rd") => `(tactic| try simp only [L2.start, List.map_cons, List.map_nil, List.length_cons, List.length_nil, Nat.reduceAdd, Nat.reduceSub, Nat.reduceLT, Nat.reduceLeDiff, List.replicate_succ, List.replicate_zero, List.append_nil, List.nil_append, List.cons_append, List.set_cons_zero, List.set_cons_succ, List.getElem?_cons_zero, List.getElem?_cons_succ,
  Option.some.injEq, List.cons.injEq, and_true, true_and, and_assoc, reduceCtorEq, L2.V.int.injEq, L2.V.ref.injEq, L2.V.bl.injEq, L2.V.str.injEq, L2.V.ty.injEq, L2.HO.ins.injEq, L2.HO.lst.injEq, L2.HO.tup.injEq, L2.HO.dK.injEq, exists_eq_left', exists_eq_left, exists_eq_right, exists_eq', exists_eq, exists_and_left, exists_and_right, reduceIte, Bool.false_eq_true, Bool.not_true, Bool.not_false,
  L2.tSeq, L2.tIfS, L2.tRet, L2.tRetN, L2.tNext, L2.tAsg, L2.gName, L2.tVar, L2.tC, L2.tCons, L2.tNil, L2.tCB, L2.tOp, L2.tUn, L2.tTup, L2.tLst, L2.tB, L2.tOr, L2.tAnd, L2.tNot, L2.tAndV, L2.tOrV, L2.tNotV, L2.tIf, L2.tTest, L2.tChain, L2.rI, L2.rI0, L2.rU, L2.tDrop, L2.tNever, L2.tCall, L2.tMeth, L2.tMake, L2.rGcd, L2.tFld, L2.sFld, L2.sFldAug, Mx.sFldA, Mx.sFldAugA, L2.rAdd, L2.rSub, L2.rEq, L2.rNe, L2.tDGet, L2.tDIn, L2.tDNotIn, L2.sDPut,
  Mx.isi_int_bool, Mx.isi_int_int, Mx.isi_int_tuple, Mx.isi_int_list, Mx.isi_int_str, Mx.scal_int, Mx.scal_str, Mx.scal_bl, Mx.ofString_inj, Mx.ofString_beq, Mx.lk_cons, Mx.pf_nil, Mx.pf_cons, Mx.sz1, Mx.sz2, List.lookup_nil, String.reduceEq, decide_true, decide_false, decide_eq_true_eq, Int.natAbs_natCast, L2.upd_same, L2.upd_upd, L2.cxOf, Mx.fsM, Mx.fsV, Mx.fsL, Mx.optV])
set_option hygiene false in
local macro_rules | `(tactic| walk_at "rds") => `(tactic| try simp only [L2.start, List.map_cons, List.map_nil, List.length_cons, List.length_nil, Nat.reduceAdd, Nat.reduceSub, Nat.reduceLT, Nat.reduceLeDiff, List.replicate_succ, List.replicate_zero, List.append_nil, List.nil_append, List.cons_append, List.set_cons_zero, List.set_cons_succ, List.getElem?_cons_zero, List.getElem?_cons_succ,
  Option.some.injEq, List.cons.injEq, and_true, true_and, and_assoc, reduceCtorEq, L2.V.int.injEq, L2.V.ref.injEq, L2.V.bl.injEq, L2.V.str.injEq, L2.V.ty.injEq, L2.HO.ins.injEq, L2.HO.lst.injEq, L2.HO.tup.injEq, L2.HO.dK.injEq, exists_eq_left', exists_eq_left, exists_eq_right, exists_eq', exists_eq, exists_and_left, exists_and_right, reduceIte, Bool.false_eq_true, Bool.not_true, Bool.not_false,
  L2.tSeq, L2.tIfS, L2.tRet, L2.tRetN, L2.tNext, L2.tAsg, L2.gName, L2.tVar, L2.tC, L2.tCons, L2.tNil, L2.tCB, L2.tOp, L2.tUn, L2.tTup, L2.tLst, L2.tB, L2.tOr, L2.tAnd, L2.tNot, L2.tAndV, L2.tOrV, L2.tNotV, L2.tIf, L2.tTest, L2.tChain, L2.rI, L2.rI0, L2.rU, L2.tDrop, L2.tNever, L2.tCall, L2.tMeth, L2.tMake, L2.rGcd, L2.tFld, L2.sFld, L2.sFldAug, Mx.sFldA, Mx.sFldAugA, L2.rAdd, L2.rSub, L2.rEq, L2.rNe, L2.tDGet, L2.tDIn, L2.tDNotIn, L2.sDPut,
  Mx.isi_int_bool, Mx.isi_int_int, Mx.isi_int_tuple, Mx.isi_int_list, Mx.isi_int_str, Mx.scal_int, Mx.scal_str, Mx.scal_bl, Mx.ofString_inj, Mx.ofString_beq, Mx.lk_cons, Mx.pf_nil, Mx.pf_cons, Mx.sz1, Mx.sz2, List.lookup_nil, String.reduceEq, decide_true, decide_false, decide_eq_true_eq, Int.natAbs_natCast, L2.upd_same, L2.upd_upd, L2.cxOf, Mx.fsM, Mx.fsV, Mx.fsL, Mx.optV, *])

section
variable {P : Program} {w : World} {K : PySem.W.Frag} {mg : Str → Option Value} {base : Heap} {cs : Cs}
/-! a voice that has just been added -/
def VoiceS.new (pn pb b n : Int) : VoiceS := ⟨⟨pn, pb, b, [], 0, none⟩, ⟨mkRat n 64, 0, 0⟩, true, wH, 0, 0, 0⟩
def sp_Mixer_add (K : PySem.W.Frag) (cs : Cs) : Sp := fun vs H Q _ => ∃ (m d k t : Addr) (s : MixS) (n pn pb wt ld : Int), vs = [.ref m, .int n, .ref t, .int wt, .int ld] ∧ MixAt K cs H m d k s ∧ n ∉ s.vs.map (·.1) ∧ 0 ≤ n ∧ n ≤ 5 ∧ H t = some (.tup [.int pn, .int pb]) ∧
  (1 ≤ pn ∧ pn ≤ 8) ∧ (1 ≤ pb ∧ pb ≤ 8) ∧ (0 ≤ wt ∧ wt ≤ 64) ∧ (0 ≤ ld ∧ ld ≤ 64) ∧ s.vs.length ≤ 100 ∧
  ∀ (A : VA) H', (∀ b ∈ A.foot, H b = none) → MixAt K cs H' m d k { s with vs := s.vs ++ [(n, A, VoiceS.new pn pb (s.coming + wt) ld)] } → Stp [d] H H' → Q .non H'
theorem sc_Mixer_add : FnScope ["self", "name", "pace", "wait", "loudness"] ["self", "name", "pace", "wait", "loudness"] (defScope s_Mixer_add) := ⟨rfl, rfl, rfl, by decide +kernel, rfl, by decide +kernel, by decide +kernel⟩
theorem MixAt.grow {H H' : Hp} {m d k : Addr} {s : MixS} (h : MixAt K cs H m d k s) {n : Int} {A : VA} {v : VoiceS} (hn : n ∉ s.vs.map (·.1)) (hA : ∀ b ∈ A.foot, H b = none) (g : Stp [d] H H') (hv : VoiceAt K cs H' A v) (hd : H' d = Option.some (.dK (vdict (s.vs ++ [(n, A, v)])))) :
    MixAt K cs H' m d k { s with vs := s.vs ++ [(n, A, v)] } := by
  have hne := h.ne
  have hsome := h.some
  obtain ⟨⟨dx, h1⟩, h2, ⟨ls, h3, h4⟩, h5, h6, h7, h8⟩ := h
  have no : ∀ b, H b ≠ none → b ∉ A.foot := fun b hb z => hb (hA b z)
  have infoot : ∀ e ∈ s.vs, ∀ b ∈ e.2.1.foot, H b ≠ none := fun e he b hb => (h5 e he).some b hb
  refine ⟨⟨dx, g.keep _ _ h1 (by simpa using hne.1)⟩, hd, ⟨ls, g.keep _ _ h3 (by simpa using hne.2.2.symm), pairs_st g h4⟩, fun e he => ?_, fun e he => ?_, fun e he f hf hnf b hb => ?_, ?_⟩
  · rcases List.mem_append.mp he with he | he
    · refine (h5 e he).st g fun b hb z => ?_
      have := List.mem_singleton.mp z
      subst this
      exact (h6 e he).2.1 hb
    · rw [List.mem_singleton.mp he]
      exact hv
  · rcases List.mem_append.mp he with he | he
    · exact h6 e he
    · rw [List.mem_singleton.mp he]
      exact ⟨no _ (by rw [h1]; exact fun z => nomatch z), no _ (by rw [h2]; exact fun z => nomatch z), no _ (by rw [h3]; exact fun z => nomatch z)⟩
  · rcases List.mem_append.mp he with he | he <;> rcases List.mem_append.mp hf with hf | hf
    · exact h7 e he f hf hnf b hb
    · rw [List.mem_singleton.mp hf]
      exact no b (infoot e he b hb)
    · rw [List.mem_singleton.mp he] at hb
      exact fun z => infoot f hf b z (hA b hb)
    · rw [List.mem_singleton.mp he, List.mem_singleton.mp hf] at hnf
      exact absurd rfl hnf
  · show ((s.vs ++ [(n, A, v)]).map (·.1)).Nodup
    rw [List.map_append, List.nodup_append]
    refine ⟨h8, by simp, fun a ha b hb => ?_⟩
    have hb' : b = n := by simpa using hb
    subst hb'
    rintro rfl
    exact hn ha
theorem ok_Mixer_add {f : Addr} {fd : FuncData} (F : Fun K "add" "Mixer.add" s_Mixer_add f fd) (T : TM K cs.M) (G1 : OwnF P w K mg base "check_name" 2 ["name"] (sp_in 0 5)) (G2 : OwnF P w K mg base "check_pace" 2 ["pace"] sp_check_pace) (G3 : OwnF P w K mg base "check_wait" 2 ["wait"] (sp_in 0 64))
    (G4 : OwnF P w K mg base "check_loudness" 2 ["loudness"] (sp_in 0 64)) (GV : OwnC P w K mg base cs.V "Voice" 4 ["self", "pace", "begin", "loudness"] (sp_Voice_init K cs)) : FnOk P w K mg base CX0 6 f fd ["self", "name", "pace", "wait", "loudness"] (sp_Mixer_add K cs) := by
  refine F.ok sc_Mixer_add (fun vs H Q E h => ?_) (fun cdv A outer s H vs Q E hr h => ?_)
  · obtain ⟨m, d, k, t, s, n, pn, pb, wt, ld, rfl, _⟩ := h
    rfl
  · obtain ⟨m, d, k, t, s, n, pn, pb, wt, ld, rfl, hM, hn, hn0, hn5, ht, hpn, hpb, hw, hl, hlen, q⟩ := h
    obtain ⟨cl, a1, a2, a3, a4⟩ := T
    have hu := hu_of hr
    have hr2 := hr.mono (show 2 ≤ 5 by decide)
    refine ⟨_, pss_cons (ps_expr (p_call G1 hr2 (pa_cons (pv 1) pa_nil))) (pss_cons (ps_if (pt_cmp (pc_din hu (pv 1) (pe_fld (pv 0) rfl))) (pss_one ps_never) pss_nil)
      (pss_cons (ps_expr (p_call G2 hr2 (pa_cons (pv 2) pa_nil))) (pss_cons (ps_expr (p_call G3 hr2 (pa_cons (pv 3) pa_nil))) (pss_cons (ps_expr (p_call G4 hr2 (pa_cons (pv 4) pa_nil)))
      (pss_one (ps_dput hu (pe_fld (pv 0) rfl) (pv 1) (p_make GV hr (pa_cons (pv 2) (pa_cons (pe_op op_add (pe_fld (pv 0) rfl) (pv 3)) (pa_cons (pv 4) pa_nil)))) rfl)))))), ?_⟩
    have hne := hM.ne
    obtain ⟨dx, h1⟩ := id hM.ob
    have g1 := DGet.k (k := (Sum.inl n : Key)) hM.dv
    rw [vdict_no hn] at g1
    refine ⟨_, rfl, n, rfl, hn0, hn5, ?_⟩
    walk_at "rds"
    refine ⟨_, g1, ?_⟩
    rw [if_neg (by simp)]
    refine ⟨t, pn, pb, rfl, ht, hpn, hpb, fun H1 s1 => ?_⟩
    refine ⟨wt, rfl, hw.1, hw.2, ld, rfl, hl.1, hl.2, ?_⟩
    have h1' := s1.keep _ _ h1 (by simp)
    walk_at "rds"
    intro x dv hx hdv hxd
    have s2 := stp_made (C := cs.V) hx hdv
    have e2 : upd (upd H1 dv (.own x)) x (.ins cs.V dv []) x = some (.ins cs.V dv []) := upd_same
    generalize upd (upd H1 dv (.own x)) x (.ins cs.V dv []) = H2 at *
    refine ⟨x, dv, t, pn, pb, s.coming + wt, ld, rfl, e2, s2.tup _ _ (s1.tup _ _ ht), fun A H3 hAx hA hv s3 => ⟨rfl, ?_⟩⟩
    have t2 := s1.trans s2
    have t3 : Stp [] H H3 := (t2.trans s3).subN fun b hb => .inr (by
      have : b = x := by simpa using hb
      rw [this]
      exact s1.free hx (by simp))
    have hA0 : ∀ b ∈ A.foot, H b = none := fun b hb => by
      rcases hA b hb with e | e
      · rw [e]
        exact s1.free hx (by simp)
      · exact t2.free e (by simp)
    have hM3 := hM.st0 t3
    have h3' := t3.keep _ _ h1 (by simp)
    have hd3 := hM3.dv
    walk_at "rds"
    refine ⟨_, DPut.k (k := (Sum.inl n : Key)) hd3 ?_, ?_⟩
    · show (vdict s.vs).length < sizeLine
      rw [show (vdict s.vs).length = s.vs.length from by simp [vdict]]
      exact Nat.lt_of_le_of_lt hlen (by decide)
    have s4 := Stp.put (o := .dK (putK (vdict s.vs) (Sum.inl n : Key) (V.ref x))) hd3 (fun xs z => nomatch z)
    have hdA : d ∉ A.foot := fun z => by
      have := hA0 d z
      rw [hM.dv] at this
      cases this
    have hx' : x = A.a := hAx.symm
    refine q A _ hA0 (MixAt.grow hM hn hA0 ((t3.trans s4).sub (by simp)) (hv.st s4 fun b hb z => hdA (List.mem_singleton.mp z ▸ hb)) ?_) ((t3.trans s4).sub (by simp))
    rw [upd_same, hx', vdict_put hn]

def sp_Mixer_parcel (K : PySem.W.Frag) (cs : Cs) : Sp := fun vs H Q _ => ∃ (m d k a : Addr) (s : MixS) (e : MV) (i : Int) (ns : List Int), vs = [.ref m, .int e.1, .int i, .ref a] ∧ MixAt K cs H m d k s ∧ e ∈ s.vs ∧ 0 ≤ e.1 ∧ e.1 ≤ 5 ∧ SqL K H a (ns.map V.int) ∧ a ∉ e.2.1.foot ∧ ParOk e.2.2.line i ns ∧ e.2.2.line.came.length ≤ 90000 ∧
  ∀ H', MixAt K cs H' m d k { s with vs := setV s.vs e.1 { e.2.2 with line := e.2.2.line.take i ns } } → Stp e.2.1.foot H H' → Q .non H'
theorem sc_Mixer_parcel : FnScope ["self", "name", "place", "numbers"] ["self", "name", "place", "numbers"] (defScope s_Mixer_parcel) := ⟨rfl, rfl, rfl, by decide +kernel, rfl, by decide +kernel, by decide +kernel⟩
theorem nd4 {A : VA} (h : A.foot.Nodup) : A.a ≠ A.l ∧ A.a ≠ A.c ∧ A.a ≠ A.q ∧ A.l ≠ A.c ∧ A.l ≠ A.q ∧ A.c ≠ A.q := by
  simp only [VA.foot, List.nodup_cons, List.mem_cons, List.not_mem_nil, or_false, not_or, List.nodup_nil, and_true, not_false_eq_true] at h
  exact ⟨h.1.1, h.1.2.1, h.1.2.2, h.2.1.1, h.2.1.2, h.2.2⟩
theorem VoiceAt.lined {H H' : Hp} {A : VA} {v : VoiceS} (h : VoiceAt K cs H A v) {l' : LineS} (s : Stp [A.l, A.c] H H') (hl : LineAt cs.L H' A.l A.c l') : VoiceAt K cs H' A { v with line := l' } := by
  obtain ⟨n1, n2, n3, n4, n5, n6⟩ := nd4 h.nd
  obtain ⟨dx, pv, hv, h1, h2, h3⟩ := h.ob
  exact ⟨⟨dx, pv, hv, s.keep _ _ h1 (by simp [n1, n2]), h2.st s, h3.st s⟩, hl, h.loud.st s (by simp [n5.symm, n6.symm]), h.nd⟩
theorem ok_Mixer_parcel {f : Addr} {fd : FuncData} (F : Fun K "parcel" "Mixer.parcel" s_Mixer_parcel f fd) (TVV : TV K cs.V) (G1 : OwnM P w K mg base cs.M "voice_of" 3 ["self", "name"] (sp_Mixer_voice_of K cs)) (G2 : OwnM P w K mg base cs.L "take" 2 ["self", "place", "numbers"] (sp_Line_take K cs.L)) :
    FnOk P w K mg base CX0 4 f fd ["self", "name", "place", "numbers"] (sp_Mixer_parcel K cs) := by
  refine F.ok sc_Mixer_parcel (fun vs H Q E h => ?_) (fun cdv A outer s H vs Q E hr h => ?_)
  · obtain ⟨m, d, k, a, s, e, i, ns, rfl, _⟩ := h
    rfl
  · obtain ⟨m, d, k, a, s, e, i, ns, rfl, hM, he, h0, h5, ha, haf, hP, hlen, q⟩ := h
    refine ⟨_, pss_one (ps_expr (p_meth G2 (hr.mono (by decide)) (pe_fld (p_meth G1 hr (pv 0) (pa_cons (pv 1) pa_nil)) rfl) (pa_cons (pv 2) (pa_cons (pv 3) pa_nil)))), ?_⟩
    obtain ⟨dx, h1⟩ := id hM.ob
    have hv := hM.vo e he
    obtain ⟨n1, n2, n3, n4, n5, n6⟩ := nd4 hv.nd
    obtain ⟨dy, pv', hv', g1, g2, g3⟩ := hv.ob
    obtain ⟨dl, tpl, gl, _⟩ := hv.line.ob
    obtain ⟨cl, a1, _⟩ := TVV
    walk_at "rds"
    refine ⟨m, d, k, s, e, rfl, hM, he, h0, h5, ?_⟩
    walk_at "rds"
    have hal : a ≠ e.2.1.l := fun z => haf (by simp [VA.foot, z])
    have hac : a ≠ e.2.1.c := fun z => haf (by simp [VA.foot, z])
    refine ⟨e.2.1.l, e.2.1.c, a, e.2.2.line, i, ns, rfl, hv.line, ha, hal, hac, hP, hlen, fun H1 hL s1 => ?_⟩
    exact q H1 (hM.turn he s1 (by simp [VA.foot]) (hv.lined s1 hL)) (s1.sub (by simp [VA.foot]))
def sp_Mixer_missed (K : PySem.W.Frag) (cs : Cs) : Sp := fun vs H Q _ => ∃ (m d k : Addr) (s : MixS), vs = [.ref m] ∧ MixAt K cs H m d k s ∧ ∀ p H' ls, H p = none → Stp [] H H' → H' p = some (.lst ls) → Paired (IsPair H') ls s.lacked → Q (.ref p) H'
theorem sc_Mixer_missed : FnScope ["self"] ["self"] (defScope s_Mixer_missed) := ⟨rfl, rfl, rfl, by decide +kernel, rfl, by decide +kernel, by decide +kernel⟩
theorem ok_Mixer_missed {f : Addr} {fd : FuncData} (F : Fun K "missed" "Mixer.missed" s_Mixer_missed f fd) (T : TM K cs.M) (B : Blt mg) : FnOk P w K mg base CX0 1 f fd ["self"] (sp_Mixer_missed K cs) := by
  refine F.ok sc_Mixer_missed (fun vs H Q E h => ?_) (fun cdv A outer s H vs Q E hr h => ?_)
  · obtain ⟨m, d, k, s, rfl, _⟩ := h
    rfl
  · obtain ⟨m, d, k, s, rfl, hM, q⟩ := h
    obtain ⟨cl, a1, a2, a3, a4⟩ := T
    refine ⟨_, pss_one (ps_ret (pe_callTy call_list_of (by rfl) B.list PyProof.Rows.boot_list (pa_cons (pe_fld (pv 0) rfl) pa_nil))), ?_⟩
    obtain ⟨dx, h1⟩ := id hM.ob
    obtain ⟨ls, hl, hp⟩ := hM.lk
    walk_at "rds"
    refine ⟨ls, .inl (.inl (.inl hl)), fun p hp0 => ?_⟩
    have s1 := Stp.new (o := .lst ls) hp0
    exact q p _ ls hp0 s1 upd_same (pairs_st s1 hp)
end
end Mx

namespace Mx
open PySem L2
set_option hygiene false in
local macro_rules | `(tactic| walk_at "rd") => `(tactic| try simp only [L2.start, List.map_cons, List.map_nil, List.length_cons, List.length_nil, Nat.reduceAdd, Nat.reduceSub, Nat.reduceLT, Nat.reduceLeDiff, List.replicate_succ, List.replicate_zero, List.append_nil, List.nil_append, List.cons_append, List.set_cons_zero, List.set_cons_succ, List.getElem?_cons_zero, List.getElem?_cons_succ,
  Option.some.injEq, List.cons.injEq, and_true, true_and, and_assoc, reduceCtorEq, L2.V.int.injEq, L2.V.ref.injEq, L2.V.bl.injEq, L2.V.str.injEq, L2.V.ty.injEq, L2.HO.ins.injEq, L2.HO.lst.injEq, L2.HO.tup.injEq, L2.HO.dK.injEq, exists_eq_left', exists_eq_left, exists_eq_right, exists_eq', exists_eq, exists_and_left, exists_and_right, reduceIte, Bool.false_eq_true, Bool.not_true, Bool.not_false,
  L2.tSeq, L2.tIfS, L2.tRet, L2.tRetN, L2.tNext, L2.tAsg, L2.gName, L2.tVar, L2.tC, L2.tCons, L2.tNil, L2.tCB, L2.tOp, L2.tUn, L2.tTup, L2.tLst, L2.tB, L2.tOr, L2.tAnd, L2.tNot, L2.tAndV, L2.tOrV, L2.tNotV, L2.tIf, L2.tTest, L2.tChain, L2.rI, L2.rI0, L2.rU, L2.tDrop, L2.tNever, L2.tCall, L2.tMeth, L2.tMake, L2.rGcd, L2.tFld, L2.sFld, L2.sFldAug, Mx.sFldA, Mx.sFldAugA, L2.rAdd, L2.rSub, L2.rEq, L2.rNe, L2.tDGet, L2.tDIn, L2.tDNotIn, L2.sDPut,
  Mx.isi_int_bool, Mx.isi_int_int, Mx.isi_int_tuple, Mx.isi_int_list, Mx.isi_int_str, Mx.scal_int, Mx.scal_str, Mx.scal_bl, Mx.ofString_inj, Mx.ofString_beq, Mx.lk_cons, Mx.pf_nil, Mx.pf_cons, Mx.sz1, Mx.sz2, List.lookup_nil, String.reduceEq, decide_true, decide_false, decide_eq_true_eq, Int.natAbs_natCast, L2.upd_same, L2.upd_upd, L2.cxOf, Mx.fsM, Mx.fsV, Mx.fsL, Mx.optV])
set_option hygiene false in
local macro_rules | `(tactic| walk_at "rds") => `(tactic| try simp only [L2.start, List.map_cons, List.map_nil, List.length_cons, List.length_nil, Nat.reduceAdd, Nat.reduceSub, Nat.reduceLT, Nat.reduceLeDiff, List.replicate_succ, List.replicate_zero, List.append_nil, List.nil_append, List.cons_append, List.set_cons_zero, List.set_cons_succ, List.getElem?_cons_zero, List.getElem?_cons_succ,
  Option.some.injEq, List.cons.injEq, and_true, true_and, and_assoc, reduceCtorEq, L2.V.int.injEq, L2.V.ref.injEq, L2.V.bl.injEq, L2.V.str.injEq, L2.V.ty.injEq, L2.HO.ins.injEq, L2.HO.lst.injEq, L2.HO.tup.injEq, L2.HO.dK.injEq, exists_eq_left', exists_eq_left, exists_eq_right, exists_eq', exists_eq, exists_and_left, exists_and_right, reduceIte, Bool.false_eq_true, Bool.not_true, Bool.not_false,
  L2.tSeq, L2.tIfS, L2.tRet, L2.tRetN, L2.tNext, L2.tAsg, L2.gName, L2.tVar, L2.tC, L2.tCons, L2.tNil, L2.tCB, L2.tOp, L2.tUn, L2.tTup, L2.tLst, L2.tB, L2.tOr, L2.tAnd, L2.tNot, L2.tAndV, L2.tOrV, L2.tNotV, L2.tIf, L2.tTest, L2.tChain, L2.rI, L2.rI0, L2.rU, L2.tDrop, L2.tNever, L2.tCall, L2.tMeth, L2.tMake, L2.rGcd, L2.tFld, L2.sFld, L2.sFldAug, Mx.sFldA, Mx.sFldAugA, L2.rAdd, L2.rSub, L2.rEq, L2.rNe, L2.tDGet, L2.tDIn, L2.tDNotIn, L2.sDPut,
  Mx.isi_int_bool, Mx.isi_int_int, Mx.isi_int_tuple, Mx.isi_int_list, Mx.isi_int_str, Mx.scal_int, Mx.scal_str, Mx.scal_bl, Mx.ofString_inj, Mx.ofString_beq, Mx.lk_cons, Mx.pf_nil, Mx.pf_cons, Mx.sz1, Mx.sz2, List.lookup_nil, String.reduceEq, decide_true, decide_false, decide_eq_true_eq, Int.natAbs_natCast, L2.upd_same, L2.upd_upd, L2.cxOf, Mx.fsM, Mx.fsV, Mx.fsL, Mx.optV, *])

section
variable {P : Program} {w : World} {K : PySem.W.Frag} {mg : Str → Option Value} {base : Heap} {cs : Cs} {C : Addr}
/-! how many numbers there are -/
def sp_Line_close (C : Addr) : Sp := fun vs H Q _ => ∃ (l c : Addr) (s : LineS) (n : Int), vs = [.ref l, .int n] ∧ LineAt C H l c s ∧ s.many = none ∧ 1 ≤ n ∧ n ≤ 1000 ∧ s.reach ≤ n ∧ ∀ H', LineAt C H' l c { s with many := some n } → Stp [l] H H' → Q .non H'
theorem sc_Line_close : FnScope ["self", "many"] ["self", "many"] (defScope s_Line_close) := ⟨rfl, rfl, rfl, by decide +kernel, rfl, by decide +kernel, by decide +kernel⟩
theorem ok_Line_close {f : Addr} {fd : FuncData} (F : Fun K "close" "Line.close" s_Line_close f fd) (T : TL K C) (TT : TC K mg) (G : OwnF P w K mg base "is_whole" 1 ["number", "low", "high"] sp_is_whole) : FnOk P w K mg base CX0 2 f fd ["self", "many"] (sp_Line_close C) := by
  refine F.ok sc_Line_close (fun vs H Q E h => ?_) (fun cdv A outer s H vs Q E hr h => ?_)
  · obtain ⟨l, c, s, n, rfl, _⟩ := h
    rfl
  · obtain ⟨l, c, s, n, rfl, hL, hm, hn1, hn2, hre, k⟩ := h
    obtain ⟨tM, hM⟩ := TT.most
    obtain ⟨cl, a1, a3, a4, a5, a6⟩ := T
    refine ⟨_, pss_cons (ps_if (pt_cmpR op_notN (pe_fld (pv 0) rfl) pe_non (nomark _)) (pss_one ps_never) pss_nil)
      (pss_cons (ps_if (pt_not (pt_val (p_call G hr (pa_cons (pv 1) (pa_cons pe_int (pa_cons (pe_glob (v := .int 1000) (by rfl) hM ⟨_, rfl⟩) pa_nil)))))) (pss_one ps_never) pss_nil)
      (pss_cons (ps_if (pt_cmpR op_lt (pv 1) (pe_fld (pv 0) rfl) (nomark _)) (pss_one ps_never) pss_nil)
      (pss_one (ps_fldA (pv 0) (pv 1) rfl)))), ?_⟩
    have hne := hL.ne
    obtain ⟨dx, tp, h1, htp⟩ := id hL.ob
    walk_at "rds"
    refine ⟨n, 1, 1000, rfl, _, rfl, ?_⟩
    rw [decide_eq_true (show 1 ≤ n ∧ n ≤ 1000 from ⟨hn1, hn2⟩)]
    refine iteF ?_
    walk_at "rds"
    rw [if_neg (show ¬ n < s.reach by omega)]
    intro H1 g1 s1
    exact k H1 ⟨⟨dx, tp, g1, s1.tup _ _ htp⟩, s1.keep _ _ hL.dc (by simpa using hne.symm)⟩ s1
def sp_Mixer_end (K : PySem.W.Frag) (cs : Cs) : Sp := fun vs H Q _ => ∃ (m d k : Addr) (s : MixS) (e : MV) (n : Int), vs = [.ref m, .int e.1, .int n] ∧ MixAt K cs H m d k s ∧ e ∈ s.vs ∧ 0 ≤ e.1 ∧ e.1 ≤ 5 ∧ e.2.2.line.many = none ∧ 1 ≤ n ∧ n ≤ 1000 ∧ e.2.2.line.reach ≤ n ∧
  ∀ H', MixAt K cs H' m d k { s with vs := setV s.vs e.1 { e.2.2 with line := { e.2.2.line with many := some n } } } → Stp e.2.1.foot H H' → Q .non H'
theorem sc_Mixer_end : FnScope ["self", "name", "many"] ["self", "name", "many"] (defScope s_Mixer_end) := ⟨rfl, rfl, rfl, by decide +kernel, rfl, by decide +kernel, by decide +kernel⟩
theorem ok_Mixer_end {f : Addr} {fd : FuncData} (F : Fun K "end" "Mixer.end" s_Mixer_end f fd) (TVV : TV K cs.V) (G1 : OwnM P w K mg base cs.M "voice_of" 3 ["self", "name"] (sp_Mixer_voice_of K cs)) (G2 : OwnM P w K mg base cs.L "close" 2 ["self", "many"] (sp_Line_close cs.L)) :
    FnOk P w K mg base CX0 4 f fd ["self", "name", "many"] (sp_Mixer_end K cs) := by
  refine F.ok sc_Mixer_end (fun vs H Q E h => ?_) (fun cdv A outer s H vs Q E hr h => ?_)
  · obtain ⟨m, d, k, s, e, n, rfl, _⟩ := h
    rfl
  · obtain ⟨m, d, k, s, e, n, rfl, hM, he, h0, h5, hm, hn1, hn2, hre, q⟩ := h
    refine ⟨_, pss_one (ps_expr (p_meth G2 (hr.mono (by decide)) (pe_fld (p_meth G1 hr (pv 0) (pa_cons (pv 1) pa_nil)) rfl) (pa_cons (pv 2) pa_nil))), ?_⟩
    obtain ⟨dx, h1⟩ := id hM.ob
    have hv := hM.vo e he
    obtain ⟨dy, pv', hv', g1, g2, g3⟩ := hv.ob
    obtain ⟨dl, tpl, gl, _⟩ := hv.line.ob
    obtain ⟨cl, a1, _⟩ := TVV
    walk_at "rds"
    refine ⟨m, d, k, s, e, rfl, hM, he, h0, h5, ?_⟩
    walk_at "rds"
    refine ⟨e.2.1.l, e.2.1.c, e.2.2.line, n, rfl, hv.line, hm, hn1, hn2, hre, fun H1 hL s1 => ?_⟩
    have s2 : Stp [e.2.1.l, e.2.1.c] H H1 := s1.sub (by simp)
    exact q H1 (hM.turn he s2 (by simp [VA.foot]) (hv.lined s2 hL)) (s2.sub (by simp [VA.foot]))
end
end Mx

namespace Mx
open PySem L2
set_option hygiene false in
local macro_rules | `(tactic| walk_at "rd") => `(tactic| try simp only [L2.start, List.map_cons, List.map_nil, List.length_cons, List.length_nil, Nat.reduceAdd, Nat.reduceSub, Nat.reduceLT, Nat.reduceLeDiff, List.replicate_succ, List.replicate_zero, List.append_nil, List.nil_append, List.cons_append, List.set_cons_zero, List.set_cons_succ, List.getElem?_cons_zero, List.getElem?_cons_succ,
  Option.some.injEq, List.cons.injEq, and_true, true_and, and_assoc, reduceCtorEq, L2.V.int.injEq, L2.V.ref.injEq, L2.V.bl.injEq, L2.V.str.injEq, L2.V.ty.injEq, L2.HO.ins.injEq, L2.HO.lst.injEq, L2.HO.tup.injEq, L2.HO.dK.injEq, exists_eq_left', exists_eq_left, exists_eq_right, exists_eq', exists_eq, exists_and_left, exists_and_right, reduceIte, Bool.false_eq_true, Bool.not_true, Bool.not_false,
  L2.tSeq, L2.tIfS, L2.tRet, L2.tRetN, L2.tNext, L2.tAsg, L2.gName, L2.tVar, L2.tC, L2.tCons, L2.tNil, L2.tCB, L2.tOp, L2.tUn, L2.tTup, L2.tLst, L2.tB, L2.tOr, L2.tAnd, L2.tNot, L2.tAndV, L2.tOrV, L2.tNotV, L2.tIf, L2.tTest, L2.tChain, L2.rI, L2.rI0, L2.rU, L2.tDrop, L2.tNever, L2.tCall, L2.tMeth, L2.tMake, L2.rGcd, L2.tFld, L2.sFld, L2.sFldAug, Mx.sFldA, Mx.sFldAugA, L2.rAdd, L2.rSub, L2.rEq, L2.rNe, L2.tDGet, L2.tDIn, L2.tDNotIn, L2.sDPut,
  Mx.isi_int_bool, Mx.isi_int_int, Mx.isi_int_tuple, Mx.isi_int_list, Mx.isi_int_str, Mx.scal_int, Mx.scal_str, Mx.scal_bl, Mx.ofString_inj, Mx.ofString_beq, Mx.lk_cons, Mx.pf_nil, Mx.pf_cons, Mx.sz1, Mx.sz2, List.lookup_nil, String.reduceEq, decide_true, decide_false, decide_eq_true_eq, Int.natAbs_natCast, L2.upd_same, L2.upd_upd, L2.cxOf, Mx.fsM, Mx.fsV, Mx.fsD])
set_option hygiene false in
local macro_rules | `(tactic| walk_at "rds") => `(tactic| try simp only [L2.start, List.map_cons, List.map_nil, List.length_cons, List.length_nil, Nat.reduceAdd, Nat.reduceSub, Nat.reduceLT, Nat.reduceLeDiff, List.replicate_succ, List.replicate_zero, List.append_nil, List.nil_append, List.cons_append, List.set_cons_zero, List.set_cons_succ, List.getElem?_cons_zero, List.getElem?_cons_succ,
  Option.some.injEq, List.cons.injEq, and_true, true_and, and_assoc, reduceCtorEq, L2.V.int.injEq, L2.V.ref.injEq, L2.V.bl.injEq, L2.V.str.injEq, L2.V.ty.injEq, L2.HO.ins.injEq, L2.HO.lst.injEq, L2.HO.tup.injEq, L2.HO.dK.injEq, exists_eq_left', exists_eq_left, exists_eq_right, exists_eq', exists_eq, exists_and_left, exists_and_right, reduceIte, Bool.false_eq_true, Bool.not_true, Bool.not_false,
  L2.tSeq, L2.tIfS, L2.tRet, L2.tRetN, L2.tNext, L2.tAsg, L2.gName, L2.tVar, L2.tC, L2.tCons, L2.tNil, L2.tCB, L2.tOp, L2.tUn, L2.tTup, L2.tLst, L2.tB, L2.tOr, L2.tAnd, L2.tNot, L2.tAndV, L2.tOrV, L2.tNotV, L2.tIf, L2.tTest, L2.tChain, L2.rI, L2.rI0, L2.rU, L2.tDrop, L2.tNever, L2.tCall, L2.tMeth, L2.tMake, L2.rGcd, L2.tFld, L2.sFld, L2.sFldAug, Mx.sFldA, Mx.sFldAugA, L2.rAdd, L2.rSub, L2.rEq, L2.rNe, L2.tDGet, L2.tDIn, L2.tDNotIn, L2.sDPut,
  Mx.isi_int_bool, Mx.isi_int_int, Mx.isi_int_tuple, Mx.isi_int_list, Mx.isi_int_str, Mx.scal_int, Mx.scal_str, Mx.scal_bl, Mx.ofString_inj, Mx.ofString_beq, Mx.lk_cons, Mx.pf_nil, Mx.pf_cons, Mx.sz1, Mx.sz2, List.lookup_nil, String.reduceEq, decide_true, decide_false, decide_eq_true_eq, Int.natAbs_natCast, L2.upd_same, L2.upd_upd, L2.cxOf, Mx.fsM, Mx.fsV, Mx.fsD, *])

section
variable {P : Program} {w : World} {K : PySem.W.Frag} {mg : Str → Option Value} {base : Heap} {cs : Cs} {C : Addr}
/-! what is told of the voices -/
def IsSt (K : PySem.W.Frag) (H : Hp) (v : V) (n : Int) (x : VoiceS) : Prop := ∃ a pv lv, v = .ref a ∧ H a = some (.tup [.int n, .str x.word, pv, lv]) ∧ IsQ K H pv x.part ∧ IsQ K H lv x.loud.level
theorem IsSt.st {F : List Addr} {H H' : Hp} {v : V} {n : Int} {x : VoiceS} (h : IsSt K H v n x) (s : Stp F H H') : IsSt K H' v n x := by
  obtain ⟨a, pv, lv, e, h1, h2, h3⟩ := h
  exact ⟨a, pv, lv, e, s.tup _ _ h1, h2.st s, h3.st s⟩
def sp_Mixer_state_of (K : PySem.W.Frag) (cs : Cs) : Sp := fun vs H Q _ => ∃ (m d k : Addr) (s : MixS) (e : MV), vs = [.ref m, .int e.1] ∧ MixAt K cs H m d k s ∧ e ∈ s.vs ∧ ∀ v H', Stp [] H H' → IsSt K H' v e.1 e.2.2 → Q v H'
theorem sc_Mixer_state_of : FnScope ["self", "name", "voice"] ["self", "name"] (defScope s_Mixer_state_of) := ⟨rfl, rfl, rfl, by decide +kernel, rfl, by decide +kernel, by decide +kernel⟩
theorem ok_Mixer_state_of {f : Addr} {fd : FuncData} (F : Fun K "state_of" "Mixer.state_of" s_Mixer_state_of f fd) (T : TM K cs.M) (TVV : TV K cs.V) (TDD : TD K cs.D) : FnOk P w K mg base CX0 1 f fd ["self", "name"] (sp_Mixer_state_of K cs) := by
  refine F.ok sc_Mixer_state_of (fun vs H Q E h => ?_) (fun cdv A outer s H vs Q E hr h => ?_)
  · obtain ⟨m, d, k, s, e, rfl, _⟩ := h
    rfl
  · obtain ⟨m, d, k, s, e, rfl, hM, he, q⟩ := h
    have hu := hu_of hr
    refine ⟨_, pss_cons (ps_set (i := 2) sc_Mixer_state_of.nd rfl (.inl rfl) (pe_dget hu (pe_fld (pv 0) rfl) (pv 1) (fun _ _ => rfl)))
      (pss_one (ps_ret (pe_tup (pa_cons (pv 1) (pa_cons (pe_fld (pv 2) rfl) (pa_cons (pe_fld (pv 2) rfl) (pa_cons (pe_fld (pe_fld (pv 2) rfl) rfl) pa_nil))))))), ?_⟩
    obtain ⟨cl, a1, a2, a3, a4⟩ := T
    obtain ⟨vcl, b1, b2, b3, b4, b5, b6, b7⟩ := TVV
    obtain ⟨dcl, c1, c2, c3⟩ := TDD
    obtain ⟨dx, h1⟩ := id hM.ob
    have g1 := DGet.k (k := (Sum.inl e.1 : Key)) hM.dv
    rw [vdict_get hM.nm he] at g1
    have hv := hM.vo e he
    obtain ⟨dy, pv', hv', v1, v2, v3⟩ := hv.ob
    obtain ⟨dz, lv, st, d1, d2, d3⟩ := hv.loud
    walk_at "rds"
    refine ⟨_, g1, ?_⟩
    walk_at "rds"
    refine ⟨by decide, fun p hp => ?_⟩
    have s1 := Stp.new (o := .tup [.int e.1, .str e.2.2.word, pv', lv]) hp
    exact q _ _ s1 ⟨p, pv', lv, rfl, upd_same, v2.st s1, d2.st s1⟩
def sp_Mixer_states (K : PySem.W.Frag) (cs : Cs) : Sp := fun vs H Q _ => ∃ (m d k : Addr) (s : MixS), vs = [.ref m] ∧ MixAt K cs H m d k s ∧ s.vs.length < 64 ∧
  ∀ p H' ls ys, H p = none → Stp [] H H' → ys.Perm (s.vs.map (·.1)) → ys.Pairwise (· ≤ ·) → H' p = some (.lst ls) → Paired (fun v n => ∃ e ∈ s.vs, e.1 = n ∧ IsSt K H' v n e.2.2) ls ys → Q (.ref p) H'
theorem sc_Mixer_states : FnScope ["self", "name"] ["self"] (defScope s_Mixer_states) := ⟨rfl, rfl, rfl, by decide +kernel, rfl, by decide +kernel, by decide +kernel⟩
theorem ok_Mixer_states {f : Addr} {fd : FuncData} (F : Fun K "states" "Mixer.states" s_Mixer_states f fd) (T : TM K cs.M) (B : Blt mg) (G : OwnM P w K mg base cs.M "state_of" 1 ["self", "name"] (sp_Mixer_state_of K cs)) : FnOk P w K mg base CX0 2 f fd ["self"] (sp_Mixer_states K cs) := by
  refine F.ok sc_Mixer_states (fun vs H Q E h => ?_) (fun cdv A outer s H vs Q E hr h => ?_)
  · obtain ⟨m, d, k, s, rfl, _⟩ := h
    rfl
  · obtain ⟨m, d, k, s, rfl, hM, h64, q⟩ := h
    refine ⟨_, pss_one (ps_ret (pe_lc (own := [("name", 1)]) (te := tMeth cs.M "state_of" (sp_Mixer_state_of K cs) [] E0 (tVar 0) (tCons (tVar 1) tNil)) rfl sc_Mixer_states.nd (pi_list (pe_callB (call_sortedDI rfl) (by rfl) B.sorted PyProof.Rows.boot_sorted (pa_cons (pe_fld (pv 0) rfl) pa_nil))) (blkOk_by (N := ["self", "name"]) (sc := defScope s_Mixer_states) (by decide +kernel))
      (fun _ _ _ _ _ => pg_name (i := 1) sc_Mixer_states.nd rfl (.inl rfl)) (fun _ _ _ _ _ => pts_nil) (fun _ _ _ _ _ => p_meth G hr (pv 0) (pa_cons (pv 1) pa_nil)))), ?_⟩
    obtain ⟨cl, a1, a2, a3, a4⟩ := T
    obtain ⟨dx, h1⟩ := id hM.ob
    refine ⟨_, rfl, m, cs.M, dx, _, _, rfl, h1, cl, a3, rfl, d, _, s.vs.map (·.1), rfl, .inl hM.dv, ?_, ?_, fun ys p hpm hpw hp0 => ⟨p, rfl, ⟨_, .inl (.inl upd_same)⟩, fun D hD => ?_⟩⟩
    · unfold vdict
      rw [List.map_map, List.map_map]
      rfl
    · rw [List.length_map]
      exact h64
    have s0 := Stp.new (o := .lst (ys.map V.int)) hp0
    have hyl : ys.length = s.vs.length := by rw [hpm.length_eq, List.length_map]
    refine lc_list (K := K) (a := p) (xs := ys.map V.int) (fun j H' => Stp [] H H' ∧ H' p = some (.lst (ys.map V.int)) ∧ ∃ ls, H' D = some (.lst ls) ∧ Paired (fun v n => ∃ e ∈ s.vs, e.1 = n ∧ IsSt K H' v n e.2.2) ls (ys.take j)) ⟨s0.trans (Stp.new hD), (Stp.new hD).keep _ _ upd_same (by simp), [], upd_same, by rw [List.take_zero]; exact .nil⟩ (fun j H' _ h => .inl (.inl h.2.1)) (fun j x H' hj h => ?_) (fun H' h => ?_)
    · obtain ⟨sj, hpj, ls, hl, hpr⟩ := h
      rw [List.getElem?_map] at hj
      obtain ⟨n, hn, rfl⟩ := Option.map_eq_some_iff.mp hj
      have hnm : n ∈ ys := List.mem_of_getElem? hn
      obtain ⟨e, he, rfl⟩ := List.mem_map.mp (hpm.mem_iff.mp hnm)
      have hMj := hM.st0 sj
      obtain ⟨dxj, hmj⟩ := hMj.ob
      refine ⟨wipe1, ?_⟩
      simp only [tYes, reduceIte]
      refine ⟨_, rfl, m, dxj, _, rfl, hmj, by walk_at "rd", _, rfl, m, d, k, s, e, rfl, hMj, he, fun v H2 s2 hst => ?_⟩
      have hl2 := s2.keep _ _ hl (by simp)
      have hpl : ∀ {as : List V} {bs : List Int}, Paired (fun v n => ∃ e ∈ s.vs, e.1 = n ∧ IsSt K H' v n e.2.2) as bs → as.length = bs.length := by
        intro as bs hp
        induction hp with
        | nil => rfl
        | cons _ _ ih => rw [List.length_cons, List.length_cons, ih]
      have hll := hpl hpr
      rw [List.length_take] at hll
      have hD0 : H D = none := s0.free hD (by simp)
      have sD := Stp.put (o := .lst (ls ++ [v])) hl2 (fun xs z => nomatch z)
      have sA : Stp [] H (upd H2 D (.lst (ls ++ [v]))) := ((sj.trans s2).trans sD).subN fun b hb => .inr (by
        have : b = D := by simpa using hb
        rw [this]; exact hD0)
      have hpD : p ≠ D := by
        intro z
        rw [← z, upd_same] at hD
        cases hD
      refine ⟨ls, hl2, ?_, sA, sD.keep _ _ (s2.keep _ _ hpj (by simp)) (by simpa using hpD), ls ++ [v], upd_same, ?_⟩
      · exact Nat.lt_of_le_of_lt (show _ ≤ 100000 by omega) (by decide)
      · have et : ys.take (j + 1) = ys.take j ++ [e.1] := by rw [List.take_add_one, hn]; rfl
        rw [et]
        have mono : ∀ {as : List V} {bs : List Int}, Paired (fun v n => ∃ e ∈ s.vs, e.1 = n ∧ IsSt K H' v n e.2.2) as bs → Paired (fun u n => ∃ e ∈ s.vs, e.1 = n ∧ IsSt K (upd H2 D (.lst (ls ++ [v]))) u n e.2.2) as bs := by
          intro as bs hp
          induction hp with
          | nil => exact .nil
          | cons hh _ ih =>
            obtain ⟨e', he', q1, q2⟩ := hh
            exact .cons ⟨e', he', q1, (q2.st s2).st sD⟩ ih
        exact (mono hpr).snoc ⟨e, he, rfl, hst.st sD⟩
    · obtain ⟨sj, hpj, ls, hl, hpr⟩ := h
      rw [List.length_map, List.take_length] at hpr
      have hD0 : H D = none := s0.free hD (by simp)
      exact q D H' ls ys hD0 sj hpm hpw hl hpr
def sp_Mixer_heard (K : PySem.W.Frag) (cs : Cs) (b : Bool) : Sp := fun vs H Q _ => ∃ (m d k : Addr) (s : MixS) (e : MV), vs = [.ref m, .int e.1] ∧ MixAt K cs H m d k s ∧ e ∈ s.vs ∧ 0 ≤ e.1 ∧ e.1 ≤ 5 ∧
  ∀ H', MixAt K cs H' m d k { s with vs := setV s.vs e.1 { e.2.2 with heard := b } } → Stp e.2.1.foot H H' → Q .non H'
theorem sc_Mixer_hush : FnScope ["self", "name", "voice"] ["self", "name"] (defScope s_Mixer_hush) := ⟨rfl, rfl, rfl, by decide +kernel, rfl, by decide +kernel, by decide +kernel⟩
theorem VoiceAt.own {H H' : Hp} {A : VA} {v u : VoiceS} (h : VoiceAt K cs H A v) (s : Stp [A.a] H H') (ho : VObj K cs.V H' A.a A.l A.q u) (e1 : u.line = v.line) (e2 : u.loud = v.loud) : VoiceAt K cs H' A u := by
  obtain ⟨n1, n2, n3, n4, n5, n6⟩ := nd4 h.nd
  exact ⟨ho, by rw [e1]; exact h.line.st s (by simpa using n1.symm) (by simpa using n2.symm), by rw [e2]; exact h.loud.st s (by simpa using n3.symm), h.nd⟩
theorem ok_Mixer_hush {f : Addr} {fd : FuncData} (F : Fun K "hush" "Mixer.hush" s_Mixer_hush f fd) (TVV : TV K cs.V) (G : OwnM P w K mg base cs.M "voice_of" 3 ["self", "name"] (sp_Mixer_voice_of K cs)) : FnOk P w K mg base CX0 4 f fd ["self", "name"] (sp_Mixer_heard K cs false) := by
  refine F.ok sc_Mixer_hush (fun vs H Q E h => ?_) (fun cdv A outer s H vs Q E hr h => ?_)
  · obtain ⟨m, d, k, s, e, rfl, _⟩ := h
    rfl
  · obtain ⟨m, d, k, s, e, rfl, hM, he, h0, h5, q⟩ := h
    refine ⟨_, pss_cons (ps_set (i := 2) sc_Mixer_hush.nd rfl (.inl rfl) (p_meth G hr (pv 0) (pa_cons (pv 1) pa_nil))) (pss_one (ps_fldA (pv 2) pe_bl rfl)), ?_⟩
    obtain ⟨vcl, b1, b2, b3, b4, b5, b6, b7⟩ := TVV
    obtain ⟨dx, h1⟩ := id hM.ob
    have hv := hM.vo e he
    obtain ⟨dy, pv', hv', v1, v2, v3⟩ := hv.ob
    walk_at "rds"
    refine ⟨m, d, k, s, e, rfl, hM, he, h0, h5, ?_⟩
    walk_at "rds"
    intro H1 g1 s1
    exact q H1 (hM.turn he s1 (by simp [VA.foot]) (hv.own s1 ⟨dy, _, _, g1, v2.st s1, v3.st s1⟩ rfl rfl)) (s1.sub (by simp [VA.foot]))
theorem sc_Mixer_wake : FnScope ["self", "name", "voice"] ["self", "name"] (defScope s_Mixer_wake) := ⟨rfl, rfl, rfl, by decide +kernel, rfl, by decide +kernel, by decide +kernel⟩
theorem ok_Mixer_wake {f : Addr} {fd : FuncData} (F : Fun K "wake" "Mixer.wake" s_Mixer_wake f fd) (TVV : TV K cs.V) (G : OwnM P w K mg base cs.M "voice_of" 3 ["self", "name"] (sp_Mixer_voice_of K cs)) : FnOk P w K mg base CX0 4 f fd ["self", "name"] (sp_Mixer_heard K cs true) := by
  refine F.ok sc_Mixer_wake (fun vs H Q E h => ?_) (fun cdv A outer s H vs Q E hr h => ?_)
  · obtain ⟨m, d, k, s, e, rfl, _⟩ := h
    rfl
  · obtain ⟨m, d, k, s, e, rfl, hM, he, h0, h5, q⟩ := h
    refine ⟨_, pss_cons (ps_set (i := 2) sc_Mixer_wake.nd rfl (.inl rfl) (p_meth G hr (pv 0) (pa_cons (pv 1) pa_nil))) (pss_one (ps_fldA (pv 2) pe_bl rfl)), ?_⟩
    obtain ⟨vcl, b1, b2, b3, b4, b5, b6, b7⟩ := TVV
    obtain ⟨dx, h1⟩ := id hM.ob
    have hv := hM.vo e he
    obtain ⟨dy, pv', hv', v1, v2, v3⟩ := hv.ob
    walk_at "rds"
    refine ⟨m, d, k, s, e, rfl, hM, he, h0, h5, ?_⟩
    walk_at "rds"
    intro H1 g1 s1
    exact q H1 (hM.turn he s1 (by simp [VA.foot]) (hv.own s1 ⟨dy, _, _, g1, v2.st s1, v3.st s1⟩ rfl rfl)) (s1.sub (by simp [VA.foot]))
end
end Mx

namespace Mx
open PySem L2
set_option hygiene false in
local macro_rules | `(tactic| walk_at "rd") => `(tactic| try simp only [L2.start, List.map_cons, List.map_nil, List.length_cons, List.length_nil, Nat.reduceAdd, Nat.reduceSub, Nat.reduceLT, Nat.reduceLeDiff, List.replicate_succ, List.replicate_zero, List.append_nil, List.nil_append, List.cons_append, List.set_cons_zero, List.set_cons_succ, List.getElem?_cons_zero, List.getElem?_cons_succ,
  Option.some.injEq, List.cons.injEq, and_true, true_and, and_assoc, reduceCtorEq, L2.V.int.injEq, L2.V.ref.injEq, L2.V.bl.injEq, L2.V.str.injEq, L2.V.ty.injEq, L2.HO.ins.injEq, L2.HO.lst.injEq, L2.HO.tup.injEq, L2.HO.dK.injEq, exists_eq_left', exists_eq_left, exists_eq_right, exists_eq', exists_eq, exists_and_left, exists_and_right, reduceIte, Bool.false_eq_true, Bool.not_true, Bool.not_false,
  L2.tSeq, L2.tIfS, L2.tRet, L2.tRetN, L2.tNext, L2.tAsg, L2.gName, L2.tVar, L2.tC, L2.tCons, L2.tNil, L2.tCB, L2.tOp, L2.tUn, L2.tTup, L2.tLst, L2.tB, L2.tOr, L2.tAnd, L2.tNot, L2.tAndV, L2.tOrV, L2.tNotV, L2.tIf, L2.tTest, L2.tChain, L2.rI, L2.rI0, L2.rU, L2.tDrop, L2.tNever, L2.tCall, L2.tMeth, L2.tMake, L2.rGcd, L2.tFld, L2.sFld, L2.sFldAug, Mx.sFldA, Mx.sFldAugA, L2.rAdd, L2.rSub, L2.rEq, L2.rNe, L2.tDGet, L2.tDIn, L2.tDNotIn, L2.sDPut,
  Mx.isi_int_bool, Mx.isi_int_int, Mx.isi_int_tuple, Mx.isi_int_list, Mx.isi_int_str, Mx.scal_int, Mx.scal_str, Mx.scal_bl, Mx.ofString_inj, Mx.ofString_beq, Mx.lk_cons, Mx.pf_nil, Mx.pf_cons, Mx.sz1, Mx.sz2, List.lookup_nil, String.reduceEq, decide_true, decide_false, decide_eq_true_eq, Int.natAbs_natCast, L2.upd_same, L2.upd_upd, L2.cxOf, Mx.fsD, Mx.fsM, Mx.fsV])
set_option hygiene false in
local macro_rules | `(tactic| walk_at "rds") => `(tactic| try simp only [L2.start, List.map_cons, List.map_nil, List.length_cons, List.length_nil, Nat.reduceAdd, Nat.reduceSub, Nat.reduceLT, Nat.reduceLeDiff, List.replicate_succ, List.replicate_zero, List.append_nil, List.nil_append, List.cons_append, List.set_cons_zero, List.set_cons_succ, List.getElem?_cons_zero, List.getElem?_cons_succ,
  Option.some.injEq, List.cons.injEq, and_true, true_and, and_assoc, reduceCtorEq, L2.V.int.injEq, L2.V.ref.injEq, L2.V.bl.injEq, L2.V.str.injEq, L2.V.ty.injEq, L2.HO.ins.injEq, L2.HO.lst.injEq, L2.HO.tup.injEq, L2.HO.dK.injEq, exists_eq_left', exists_eq_left, exists_eq_right, exists_eq', exists_eq, exists_and_left, exists_and_right, reduceIte, Bool.false_eq_true, Bool.not_true, Bool.not_false,
  L2.tSeq, L2.tIfS, L2.tRet, L2.tRetN, L2.tNext, L2.tAsg, L2.gName, L2.tVar, L2.tC, L2.tCons, L2.tNil, L2.tCB, L2.tOp, L2.tUn, L2.tTup, L2.tLst, L2.tB, L2.tOr, L2.tAnd, L2.tNot, L2.tAndV, L2.tOrV, L2.tNotV, L2.tIf, L2.tTest, L2.tChain, L2.rI, L2.rI0, L2.rU, L2.tDrop, L2.tNever, L2.tCall, L2.tMeth, L2.tMake, L2.rGcd, L2.tFld, L2.sFld, L2.sFldAug, Mx.sFldA, Mx.sFldAugA, L2.rAdd, L2.rSub, L2.rEq, L2.rNe, L2.tDGet, L2.tDIn, L2.tDNotIn, L2.sDPut,
  Mx.isi_int_bool, Mx.isi_int_int, Mx.isi_int_tuple, Mx.isi_int_list, Mx.isi_int_str, Mx.scal_int, Mx.scal_str, Mx.scal_bl, Mx.ofString_inj, Mx.ofString_beq, Mx.lk_cons, Mx.pf_nil, Mx.pf_cons, Mx.sz1, Mx.sz2, List.lookup_nil, String.reduceEq, decide_true, decide_false, decide_eq_true_eq, Int.natAbs_natCast, L2.upd_same, L2.upd_upd, L2.cxOf, Mx.fsD, Mx.fsM, Mx.fsV, *])

theorem frac_one {b : Int} (h : 1 ≤ b) : frac (mkRat 1 b.toNat) = [.int 1, .int b] := by
  have hb : 0 < b.toNat := by omega
  unfold frac
  rw [mk_num 1 b.toNat hb, mk_den 1 b.toNat hb]
  have : Nat.gcd (1 : Int).natAbs b.toNat = 1 := Nat.gcd_one_left _
  rw [this]
  have e : ((b.toNat : Nat) : Int) = b := by omega
  simp [e]
theorem Rb.subq {n m : Nat} {q r : Rat} (h : Rb n q) (k : Rb m r) : Rb (n + m + 1) (q - r) := by
  have e : 2 ^ n * 2 ^ m = 2 ^ (n + m) := (Nat.pow_add 2 n m).symm
  have e2 : 2 ^ (n + m + 1) = 2 ^ (n + m) + 2 ^ (n + m) := by rw [Nat.pow_succ]; omega
  rw [← sub_mk]
  have p1 : q.den * r.den < 2 ^ (n + m) := by rw [← e]; exact Nat.mul_lt_mul'' h.den k.den
  have p2 : (q.num * r.den).natAbs < 2 ^ (n + m) := by rw [← e, Int.natAbs_mul, Int.natAbs_natCast]; exact Nat.mul_lt_mul'' h.num k.den
  have p3 : (r.num * q.den).natAbs < 2 ^ (n + m) := by rw [← e, Int.natAbs_mul, Int.natAbs_natCast, Nat.mul_comm]; exact Nat.mul_lt_mul'' h.den k.num
  refine Rb.of (Nat.mul_pos q.den_pos r.den_pos) ?_ (by omega)
  omega
/-- how loudness stands when it is led anew -/
theorem LoudIs.to {D : Nat} {a b : Int} {s : LoudS} (h : LoudIs D a b s) {l n : Int} (l0 : 0 ≤ l) (l1 : l ≤ 64) (n0 : 1 ≤ n) : LoudIs (D * n.toNat) (a * n) (l * D - a) (s.to l n) := by
  obtain ⟨d0, lv, st, a0, a1, b0, b1, e9, e0, e1⟩ := h
  obtain ⟨m, rfl⟩ : ∃ m : Nat, n = m := ⟨n.toNat, by omega⟩
  have hm : 0 < m := by omega
  rw [Int.toNat_natCast]
  have hD : ((D * m : Nat) : Int) = (D : Int) * m := Int.natCast_mul D m
  have hDm : 0 ≤ (D : Int) * m := Int.mul_nonneg (by omega) (by omega)
  have hDm2 : (D : Int) ≤ (D : Int) * m := by
    have := Int.mul_le_mul_of_nonneg_left (show (1 : Int) ≤ m by omega) (show (0 : Int) ≤ D by omega)
    omega
  have lD : l * D ≤ 64 * D := Int.mul_le_mul_of_nonneg_right l1 (by omega)
  have lD0 : 0 ≤ l * D := Int.mul_nonneg l0 (by omega)
  have am : 0 ≤ a * m := Int.mul_nonneg a0 (by omega)
  have am1 : a * m ≤ 64 * D * m := Int.mul_le_mul_of_nonneg_right a1 (by omega)
  have am2 : 64 * (D : Int) * m = 64 * ((D : Int) * m) := Int.mul_assoc _ _ _
  have eE : a * m + (l * D - a) * m = l * ((D : Int) * m) := by rw [Int.sub_mul, Int.mul_assoc]; omega
  refine ⟨Nat.mul_pos d0 hm, ?_, ?_, am, by rw [hD]; omega, by rw [hD]; omega, by rw [hD]; omega, by show (0 : Int) ≤ (m : Int); omega, ?_, ?_⟩
  · show s.level = _
    rw [lv, ← Nat.mul_assoc]
    exact (Rat.mkRat_mul_right (n := a) (d := 64 * D) (a := m) (by omega)).symm
  · show (mkRat l 64 - s.level) * mkRat 1 (m : Int).toNat = _
    rw [lv, Int.toNat_natCast]
    have e : mkRat l 64 - mkRat a (64 * D) = mkRat (l * D - a) (64 * D) := by
      have e1 : mkRat l 64 = mkRat (l * D) (64 * D) := (Rat.mkRat_mul_right (n := l) (d := 64) (a := D) (by omega)).symm
      rw [e1, Rat.sub_eq_add_neg, Rat.neg_mkRat, mk_add _ _ (by omega), Int.sub_eq_add_neg]
    rw [e, Rat.mkRat_mul_mkRat, Int.mul_one, Nat.mul_assoc]
  · show 0 ≤ a * m + (l * D - a) * m
    rw [eE]
    exact Int.mul_nonneg l0 hDm
  · show a * m + (l * D - a) * m ≤ _
    rw [eE, hD]
    exact Int.mul_le_mul_of_nonneg_right l1 hDm
theorem LoudOk.to {d : Nat} {s : LoudS} (h : LoudOk d s) {l n : Int} (l0 : 0 ≤ l) (l1 : l ≤ 64) (n0 : 1 ≤ n) (n1 : n ≤ 64) : LoudOk (d + 6) (s.to l n) := by
  obtain ⟨D, a, b, h, hd⟩ := h
  refine ⟨D * n.toNat, _, _, h.to l0 l1 n0, ?_⟩
  have h1 : 64 * (D * n.toNat) ≤ 64 * D * 64 := by
    rw [← Nat.mul_assoc]
    exact Nat.mul_le_mul_left _ (by omega)
  have h2 : 2 ^ (d + 6) = 2 ^ d * 64 := by rw [Nat.pow_add]
  omega
section
variable {P : Program} {w : World} {K : PySem.W.Frag} {mg : Str → Option Value} {base : Heap} {cs : Cs} {C : Addr}
theorem sc_minus : FnScope ["one", "other"] ["one", "other"] (defScope s_minus) := ⟨rfl, rfl, rfl, by decide +kernel, rfl, by decide +kernel, by decide +kernel⟩
theorem ok_minus {f : Addr} {fd : FuncData} (F : Fun K "minus" "minus" s_minus f fd) (G : OwnF P w K mg base "ratio" 1 ["top", "bottom"] sp_ratio) : FnOk P w K mg base CX0 2 f fd ["one", "other"] (sp_two (· - ·) K) := by
  refine F.ok sc_minus (fun vs H Q E h => ?_) (fun cdv A outer s H vs Q E hr h => ?_)
  · obtain ⟨a, b, q, r, n, m, rfl, _⟩ := h
    rfl
  · obtain ⟨a, b, q, r, n, m, rfl, ha, hb, hn, hm, hl, hn0, hm0, k⟩ := h
    refine ⟨_, pss_one (ps_ret (p_call G hr (pa_cons (pe_op op_sub (pe_op op_mulW (pe_ix ix_tup (pv 0) pe_int (fun _ _ => rfl)) (pe_ix ix_tup (pv 1) pe_int (fun _ _ => rfl))) (pe_op op_mulW (pe_ix ix_tup (pv 1) pe_int (fun _ _ => rfl)) (pe_ix ix_tup (pv 0) pe_int (fun _ _ => rfl))))
      (pa_cons (pe_op op_mulW (pe_ix ix_tup (pv 0) pe_int (fun _ _ => rfl)) (pe_ix ix_tup (pv 1) pe_int (fun _ _ => rfl))) pa_nil)))), ?_⟩
    walk_at "rd"
    have e1 : 2 ^ n * 2 ^ m = 2 ^ (n + m) := (Nat.pow_add 2 n m).symm
    refine ixT_0 ha (ixT_1 hb ⟨_, rfl, _, rfl, wide_mul hn.num (by simpa using hm.den) hn0 hm0 (by omega), ixT_0 hb (ixT_1 ha ⟨_, rfl, _, rfl, wide_mul hm.num (by simpa using hn.den) hm0 hn0 (by omega), ixT_1 ha (ixT_1 hb ⟨_, rfl, _, rfl, wide_mul (by simpa using hn.den) (by simpa using hm.den) hn0 hm0 (by omega), ?_⟩)⟩)⟩)
    have hd : (q.den : Int) * (r.den : Int) = ((q.den * r.den : Nat) : Int) := by simp
    refine ⟨_, _, rfl, ?_, ?_, fun p H' hp hs hl' => k p H' hp hs ?_⟩
    · rw [hd]
      have := Nat.mul_pos q.den_pos r.den_pos
      omega
    · rw [hd, Int.natAbs_natCast]
      exact Nat.lt_of_lt_of_le (Nat.mul_lt_mul'' hn.den hm.den) (by rw [e1]; exact Nat.pow_le_pow_right (by decide) (by omega))
    · rw [hd, Int.toNat_natCast, sub_mk] at hl'
      exact hl'
def sp_Loudness_lead_to (K : PySem.W.Frag) (C : Addr) : Sp := fun vs H Q _ => ∃ (q : Addr) (s : LoudS) (d : Nat) (l b : Int), vs = [.ref q, .int l, .int b] ∧ LoudAt K C H q s ∧ Rb d s.level ∧ 0 < d ∧ d + 20 < 9000 ∧ 0 ≤ l ∧ l ≤ 64 ∧ 1 ≤ b ∧ b ≤ 64 ∧ ∀ H', LoudAt K C H' q (s.to l b) → Stp [q] H H' → Q .non H'
theorem sc_Loudness_lead_to : FnScope ["self", "loudness", "beats", "gap"] ["self", "loudness", "beats"] (defScope s_Loudness_lead_to) := ⟨rfl, rfl, rfl, by decide +kernel, rfl, by decide +kernel, by decide +kernel⟩
theorem ok_Loudness_lead_to {f : Addr} {fd : FuncData} (F : Fun K "lead_to" "Loudness.lead_to" s_Loudness_lead_to f fd) (T : TD K C) (TT : TC K mg) (GR : OwnF P w K mg base "ratio" 1 ["top", "bottom"] sp_ratio) (GM : OwnF P w K mg base "minus" 2 ["one", "other"] (sp_two (· - ·) K)) (GT : OwnF P w K mg base "times" 2 ["one", "other"] (sp_two (· * ·) K)) :
    FnOk P w K mg base CX0 3 f fd ["self", "loudness", "beats"] (sp_Loudness_lead_to K C) := by
  refine F.ok sc_Loudness_lead_to (fun vs H Q E h => ?_) (fun cdv A outer s H vs Q E hr h => ?_)
  · obtain ⟨q, s, d, l, b, rfl, _⟩ := h
    rfl
  · obtain ⟨q, s, d, l, b, rfl, hq, hd, hd0, hd1, l0, l1, b0, b1, k⟩ := h
    obtain ⟨cl, a1, a2, a3⟩ := T
    obtain ⟨tF, hF⟩ := TT.full
    obtain ⟨dx, lv, st, h1, h2, h3⟩ := id hq
    have nd := sc_Loudness_lead_to.nd
    refine ⟨_, pss_cons (ps_set (i := 3) nd rfl (.inl rfl) (p_call GM hr (pa_cons (p_call GR (hr.mono (by decide)) (pa_cons (pv 1) (pa_cons (pe_glob (v := .int 64) (by rfl) hF ⟨_, rfl⟩) pa_nil))) (pa_cons (pe_fld (pv 0) rfl) pa_nil))))
      (pss_cons (ps_fldA (pv 0) (p_call GT hr (pa_cons (pv 3) (pa_cons (pe_tup (pa_cons pe_int (pa_cons (pv 2) pa_nil))) pa_nil))) rfl) (pss_one (ps_fldA (pv 0) (pv 2) rfl))), ?_⟩
    obtain ⟨a, rfl, h2'⟩ := h2
    walk_at "rds"
    refine ⟨l, 64, rfl, by decide, Nat.pow_lt_pow_right (by decide) (show 7 < 9000 by decide) |> Nat.lt_trans (by decide), fun p H1 hp s1 l1' => ?_⟩
    have g1 := s1.keep _ _ h1 (by simp)
    have rl : Rb 7 (mkRat l 64) := Rb.of (by decide) (by omega) (by decide)
    walk_at "rds"
    refine ⟨p, a, mkRat l 64, s.level, 7, d, rfl, .inl l1', h2'.st s1, rl, hd, by omega, by decide, hd0, fun p2 H2 hp2 s2 l2 => ?_⟩
    walk_at "rds"
    intro p3 hp3
    have s3 := Stp.new (o := .tup [.int 1, .int b]) hp3
    have l3 : TupAt K (upd H2 p3 (.tup [.int 1, .int b])) p3 (frac (mkRat 1 b.toNat)) := by
      rw [frac_one b0]
      exact .inl upd_same
    have l2' := s3.tup _ _ l2
    have g3 := s3.keep _ _ (s2.keep _ _ g1 (by simp)) (by simp)
    generalize upd H2 p3 (.tup [.int 1, .int b]) = H3 at *
    have rb : Rb 7 (mkRat 1 b.toNat) := Rb.of (by omega) (by decide) (by omega)
    refine ⟨p2, p3, mkRat l 64 - s.level, mkRat 1 b.toNat, 7 + d + 1, 7, rfl, .inl l2', l3, rl.subq hd, rb, by omega, by omega, by decide, fun p4 H4 hp4 s4 l4 => ?_⟩
    have g4 := s4.keep _ _ g3 (by simp)
    walk_at "rds"
    intro H5 g5 s5
    walk_at "rds"
    intro H6 g6 s6
    have s14 := s1.trans (s2.trans (s3.trans s4))
    have s56 := s5.trans s6
    exact k _ ⟨dx, _, _, g6, ⟨a, rfl, (h2'.st s14).st s56⟩, (isQ_of l4).st s56⟩ ((s14.trans s56).sub (by simp))
def sp_check_lead : Sp := fun vs H Q _ => ∃ l b : Int, vs = [.int l, .int b] ∧ 0 ≤ l ∧ l ≤ 64 ∧ 1 ≤ b ∧ b ≤ 64 ∧ Q .non H
theorem sc_check_lead : FnScope ["loudness", "beats"] ["loudness", "beats"] (defScope s_check_lead) := ⟨rfl, rfl, rfl, by decide +kernel, rfl, by decide +kernel, by decide +kernel⟩
theorem ok_check_lead {f : Addr} {fd : FuncData} (F : Fun K "check_lead" "check_lead" s_check_lead f fd) (GL : OwnF P w K mg base "check_loudness" 2 ["loudness"] (sp_in 0 64)) (G : OwnF P w K mg base "is_whole" 1 ["number", "low", "high"] sp_is_whole) : FnOk P w K mg base CX0 3 f fd ["loudness", "beats"] sp_check_lead := by
  refine F.ok sc_check_lead (fun vs H Q E h => ?_) (fun cdv A outer s H vs Q E hr h => ?_)
  · obtain ⟨l, b, rfl, _⟩ := h
    rfl
  · obtain ⟨l, b, rfl, l0, l1, b0, b1, k⟩ := h
    refine ⟨_, pss_cons (ps_expr (p_call GL hr (pa_cons (pv 0) pa_nil))) (pss_one (ps_if (pt_not (pt_val (p_call G (hr.mono (by decide)) (pa_cons (pv 1) (pa_cons pe_int (pa_cons pe_int pa_nil)))))) (pss_one ps_never) pss_nil)), ?_⟩
    refine ⟨_, rfl, l, rfl, l0, l1, ?_⟩
    refine ⟨_, rfl, b, 1, 64, rfl, _, rfl, ?_⟩
    rw [decide_eq_true (show 1 ≤ b ∧ b ≤ 64 from ⟨b0, b1⟩)]
    exact iteF k
def sp_Mixer_lead (K : PySem.W.Frag) (cs : Cs) : Sp := fun vs H Q _ => ∃ (m d k : Addr) (s : MixS) (e : MV) (l b : Int) (n : Nat), vs = [.ref m, .int e.1, .int l, .int b] ∧ MixAt K cs H m d k s ∧ e ∈ s.vs ∧ 0 ≤ e.1 ∧ e.1 ≤ 5 ∧ 0 ≤ l ∧ l ≤ 64 ∧ 1 ≤ b ∧ b ≤ 64 ∧ Rb n e.2.2.loud.level ∧ 0 < n ∧ n + 20 < 9000 ∧
  ∀ H', MixAt K cs H' m d k { s with vs := setV s.vs e.1 { e.2.2 with loud := e.2.2.loud.to l b } } → Stp e.2.1.foot H H' → Q .non H'
theorem sc_Mixer_lead : FnScope ["self", "name", "loudness", "beats", "voice"] ["self", "name", "loudness", "beats"] (defScope s_Mixer_lead) := ⟨rfl, rfl, rfl, by decide +kernel, rfl, by decide +kernel, by decide +kernel⟩
theorem ok_Mixer_lead {f : Addr} {fd : FuncData} (F : Fun K "lead" "Mixer.lead" s_Mixer_lead f fd) (TVV : TV K cs.V) (G : OwnM P w K mg base cs.M "voice_of" 3 ["self", "name"] (sp_Mixer_voice_of K cs)) (GC : OwnF P w K mg base "check_lead" 3 ["loudness", "beats"] sp_check_lead) (GT : OwnM P w K mg base cs.D "lead_to" 3 ["self", "loudness", "beats"] (sp_Loudness_lead_to K cs.D)) :
    FnOk P w K mg base CX0 4 f fd ["self", "name", "loudness", "beats"] (sp_Mixer_lead K cs) := by
  refine F.ok sc_Mixer_lead (fun vs H Q E h => ?_) (fun cdv A outer s H vs Q E hr h => ?_)
  · obtain ⟨m, d, k, s, e, l, b, n, rfl, _⟩ := h
    rfl
  · obtain ⟨m, d, k, s, e, l, b, n, rfl, hM, he, h0, h5, l0, l1, b0, b1, hn, hn0, hn1, q⟩ := h
    refine ⟨_, pss_cons (ps_set (i := 4) sc_Mixer_lead.nd rfl (.inl rfl) (p_meth G hr (pv 0) (pa_cons (pv 1) pa_nil)))
      (pss_cons (ps_expr (p_call GC hr (pa_cons (pv 2) (pa_cons (pv 3) pa_nil))))
      (pss_one (ps_expr (p_meth GT hr (pe_fld (pv 4) rfl) (pa_cons (pv 2) (pa_cons (pv 3) pa_nil)))))), ?_⟩
    obtain ⟨vcl, b1', b2, b3, b4, b5, b6, b7⟩ := TVV
    obtain ⟨dx, h1⟩ := id hM.ob
    have hv := hM.vo e he
    obtain ⟨dy, pv', hv', v1, v2, v3⟩ := hv.ob
    obtain ⟨dz, lv, st, g1, g2, g3⟩ := id hv.loud
    walk_at "rds"
    refine ⟨m, d, k, s, e, rfl, hM, he, h0, h5, ?_⟩
    walk_at "rds"
    refine ⟨l, b, rfl, l0, l1, b0, b1, ?_⟩
    walk_at "rds"
    refine ⟨e.2.1.q, e.2.2.loud, n, l, b, rfl, hv.loud, hn, hn0, hn1, l0, l1, b0, b1, fun H1 hl s1 => ?_⟩
    obtain ⟨n1, n2, n3, n4, n5, n6⟩ := nd4 hv.nd
    have hv1 : VoiceAt K cs H1 e.2.1 { e.2.2 with loud := e.2.2.loud.to l b } := ⟨hv.ob.st s1 (by simpa using n3), hv.line.st s1 (by simpa using n5) (by simpa using n6), hl, hv.nd⟩
    exact q H1 (hM.turn he s1 (by simp [VA.foot]) hv1) (s1.sub (by simp [VA.foot]))
def sp_Mixer_now (K : PySem.W.Frag) (cs : Cs) : Sp := fun vs H Q _ => ∃ (m d k : Addr) (s : MixS), vs = [.ref m] ∧ MixAt K cs H m d k s ∧ Q (.int s.coming) H
theorem sc_Mixer_now : FnScope ["self"] ["self"] (defScope s_Mixer_now) := ⟨rfl, rfl, rfl, by decide +kernel, rfl, by decide +kernel, by decide +kernel⟩
theorem ok_Mixer_now {f : Addr} {fd : FuncData} (F : Fun K "now" "Mixer.now" s_Mixer_now f fd) (T : TM K cs.M) : FnOk P w K mg base CX0 1 f fd ["self"] (sp_Mixer_now K cs) := by
  refine F.ok sc_Mixer_now (fun vs H Q E h => ?_) (fun cdv A outer s H vs Q E hr h => ?_)
  · obtain ⟨m, d, k, s, rfl, _⟩ := h
    rfl
  · obtain ⟨m, d, k, s, rfl, hM, q⟩ := h
    obtain ⟨cl, a1, a2, a3, a4⟩ := T
    obtain ⟨dx, h1⟩ := id hM.ob
    refine ⟨_, pss_one (ps_ret (pe_fld (pv 0) rfl)), ?_⟩
    walk_at "rds"
end
end Mx

namespace Mx
open PySem L2
/-! ### a beat of all voices -/
def MixS.step (s : MixS) (e : MV) : MV := (e.1, e.2.1, e.2.2.give s.coming s.soft)
def lackN (vs : List MV) (t : Int) (n : Int) : Bool := vs.any fun e => decide (e.1 = n) && e.2.2.line.lacks t
/-- behind the voices of these names -/
def MixS.some' (s : MixS) (ys : List Int) : MixS := { s with vs := s.vs.map fun e => if e.1 ∈ ys then s.step e else e, lacked := s.lacked ++ (ys.filter (lackN s.vs s.coming)).map fun n => (n, s.coming) }
def MixS.beat (s : MixS) (ys : List Int) : MixS := { s with coming := s.coming + 1, vs := s.vs.map s.step, lacked := s.lacked ++ (ys.filter (lackN s.vs s.coming)).map fun n => (n, s.coming) }
def partOf (s : MixS) (n : Int) : Rat := match s.vs.find? fun e => decide (e.1 = n) with
  | none => 0
  | some e => (e.2.2.give s.coming s.soft).part
def sumOf (s : MixS) : List Int → Rat
  | [] => 0
  | n :: r => partOf s n + sumOf s r
theorem sumOf_snoc (s : MixS) : ∀ (ys : List Int) (n : Int), sumOf s (ys ++ [n]) = sumOf s ys + partOf s n
  | [], n => by
    show partOf s n + 0 = 0 + partOf s n
    grind
  | m :: r, n => by
    show partOf s m + sumOf s (r ++ [n]) = partOf s m + sumOf s r + partOf s n
    rw [sumOf_snoc s r n]
    grind
theorem partOf_mem {s : MixS} (h : (s.vs.map (·.1)).Nodup) {e : MV} (he : e ∈ s.vs) : partOf s e.1 = (e.2.2.give s.coming s.soft).part := by
  unfold partOf
  have : (s.vs.find? fun f => decide (f.1 = e.1)) = some e := by
    cases q : s.vs.find? fun f => decide (f.1 = e.1) with
    | none =>
      have := List.find?_eq_none.mp q e he
      simp at this
    | some f =>
      have h1 := List.find?_some q
      have h2 := List.mem_of_find?_eq_some q
      rw [nodup_inj h h2 he (of_decide_eq_true h1)]
  rw [this]
theorem lackN_mem {vs : List MV} (h : (vs.map (·.1)).Nodup) {e : MV} (he : e ∈ vs) (t : Int) : lackN vs t e.1 = e.2.2.line.lacks t := by
  unfold lackN
  cases q : e.2.2.line.lacks t with
  | true => exact List.any_eq_true.mpr ⟨e, he, by simp [q]⟩
  | false =>
    rw [List.any_eq_false]
    intro f hf z
    simp only [Bool.and_eq_true, decide_eq_true_eq] at z
    rw [nodup_inj h hf he z.1, q] at z
    exact absurd z.2 (by decide)
theorem Rb.add {n m : Nat} {q r : Rat} (h : Rb n q) (k : Rb m r) : Rb (n + m + 1) (q + r) := by
  rw [← add_mk]
  have e : 2 ^ n * 2 ^ m = 2 ^ (n + m) := (Nat.pow_add 2 n m).symm
  have e2 : 2 ^ (n + m + 1) = 2 ^ (n + m) + 2 ^ (n + m) := by rw [Nat.pow_succ]; omega
  have p1 : q.den * r.den < 2 ^ (n + m) := by rw [← e]; exact Nat.mul_lt_mul'' h.den k.den
  have p2 : (q.num * r.den).natAbs < 2 ^ (n + m) := by rw [← e, Int.natAbs_mul, Int.natAbs_natCast]; exact Nat.mul_lt_mul'' h.num k.den
  have p3 : (r.num * q.den).natAbs < 2 ^ (n + m) := by rw [← e, Int.natAbs_mul, Int.natAbs_natCast, Nat.mul_comm]; exact Nat.mul_lt_mul'' h.den k.num
  refine Rb.of (Nat.mul_pos q.den_pos r.den_pos) ?_ (by omega)
  omega
theorem MixAt.lack {K : PySem.W.Frag} {cs : Cs} {H : Hp} {m d k : Addr} {s : MixS} (h : MixAt K cs H m d k s) {ls : List V} (hl : H k = Option.some (.lst ls)) {T : Addr} {n b : Int} (hT : H T = Option.some (.tup [.int n, .int b])) :
    MixAt K cs (upd H k (.lst (ls ++ [.ref T]))) m d k { s with lacked := s.lacked ++ [(n, b)] } := by
  have hne := h.ne
  obtain ⟨⟨dx, h1⟩, h2, ⟨ls', h3, h4⟩, h5, h6, h7, h8⟩ := h
  rw [hl] at h3
  cases h3
  have g := Stp.put (o := .lst (ls ++ [.ref T])) hl (fun xs z => nomatch z)
  refine ⟨⟨dx, g.keep _ _ h1 (by simpa using hne.2.1)⟩, g.keep _ _ h2 (by simpa using hne.2.2), ⟨_, upd_same, (pairs_st g h4).snoc ⟨T, rfl, g.tup _ _ hT⟩⟩, fun e he => (h5 e he).st g fun x hx z => ?_, h6, h7, h8⟩
  exact (h6 e he).2.2 (List.mem_singleton.mp z ▸ hx)
theorem MixAt.low {K : PySem.W.Frag} {cs : Cs} {H : Hp} {m d k : Addr} {s : MixS} (h : MixAt K cs H m d k s) {ls : List V} (hl : H k = Option.some (.lst ls)) : ls.length = s.lacked.length := by
  obtain ⟨ls', h3, h4⟩ := h.lk
  rw [hl] at h3
  cases h3
  have : ∀ {as : List V} {bs : List (Int × Int)}, Paired (IsPair H) as bs → as.length = bs.length := by
    intro as bs hp
    induction hp with
    | nil => rfl
    | cons _ _ ih => rw [List.length_cons, List.length_cons, ih]
  exact this h4
theorem some_nil (s : MixS) : s.some' [] = s := by
  unfold MixS.some'
  have : (s.vs.map fun e => if e.1 ∈ ([] : List Int) then s.step e else e) = s.vs := by
    rw [List.map_congr_left (g := id) fun e _ => by simp, List.map_id]
  rw [this]
  simp
theorem some_step {s : MixS} (h : (s.vs.map (·.1)).Nodup) {e : MV} (he : e ∈ s.vs) {zs ys : List Int} (hni : e.1 ∉ zs) (ht : ys = zs ++ [e.1]) {more : List (Int × Int)} (hl : e.2.2.line.lacks s.coming = true ∧ more = [(e.1, s.coming)] ∨ e.2.2.line.lacks s.coming = false ∧ more = []) :
    { s.some' zs with lacked := (s.some' zs).lacked ++ more, vs := setV (s.some' zs).vs e.1 (e.2.2.give s.coming s.soft) } = s.some' ys := by
  subst ht
  unfold MixS.some'
  have hv : setV (s.vs.map fun f => if f.1 ∈ zs then s.step f else f) e.1 (e.2.2.give s.coming s.soft) = s.vs.map fun f => if f.1 ∈ zs ++ [e.1] then s.step f else f := by
    unfold setV
    rw [List.map_map]
    refine List.map_congr_left fun f hf => ?_
    show (if (if f.1 ∈ zs then s.step f else f).1 = e.1 then ((if f.1 ∈ zs then s.step f else f).1, (if f.1 ∈ zs then s.step f else f).2.1, e.2.2.give s.coming s.soft) else (if f.1 ∈ zs then s.step f else f)) = _
    by_cases q : f.1 = e.1
    · have := nodup_inj h hf he q
      subst this
      rw [if_neg hni, if_pos rfl, if_pos (by simp)]
      rfl
    · by_cases z : f.1 ∈ zs
      · rw [if_pos z, if_neg (show ¬ (s.step f).1 = e.1 from q), if_pos (by simp [z])]
      · rw [if_neg z, if_neg q, if_neg (by simp [z, q])]
  have hl2 : (s.lacked ++ (zs.filter (lackN s.vs s.coming)).map fun n => (n, s.coming)) ++ more = s.lacked ++ ((zs ++ [e.1]).filter (lackN s.vs s.coming)).map fun n => (n, s.coming) := by
    rw [List.filter_append, List.map_append, List.append_assoc]
    congr 2
    rw [List.filter_cons, lackN_mem h he]
    rcases hl with ⟨a, b⟩ | ⟨a, b⟩
    · rw [a, b]
      rfl
    · rw [a, b]
      rfl
  rw [hl2]
  dsimp only
  rw [hv]
structure MixOk (d : Nat) (s : MixS) : Prop where
  s1 : 1 ≤ s.soft
  s2 : s.soft ≤ 16
  d0 : 0 < d
  vo : ∀ e ∈ s.vs, VoiceOk d s.soft e.2.2
  nm : ∀ e ∈ s.vs, 0 ≤ e.1 ∧ e.1 ≤ 5
  six : s.vs.length ≤ 6
  bits : (s.vs.length + 1) * (d + 25) < 4400
  lk : s.lacked.length + s.vs.length ≤ 100000
theorem sum_rb {b : Nat} {s : MixS} (hO : MixOk b s) (hn : (s.vs.map (·.1)).Nodup) : ∀ (zs : List Int), (∀ n ∈ zs, ∃ e ∈ s.vs, e.1 = n) → Rb (1 + zs.length * (b + 25)) (sumOf s zs)
  | [], _ => ⟨by show (0 : Int).natAbs < _; exact Nat.two_pow_pos _, by show 1 < _; exact Nat.one_lt_two_pow (by omega)⟩
  | n :: r, h => by
    obtain ⟨e, he, rfl⟩ := h n List.mem_cons_self
    have h1 := sum_rb hO hn r fun m hm => h m (List.mem_cons_of_mem _ hm)
    have h2 := ((hO.vo e he).give hO.s1 hO.s2 s.coming).part
    have h3 := h2.add h1
    show Rb _ (partOf s e.1 + sumOf s r)
    rw [partOf_mem hn he]
    refine h3.mono ?_
    rw [List.length_cons, Nat.add_mul, Nat.one_mul]
    omega
set_option hygiene false in
local macro_rules | `(tactic| walk_at "rd") => `(tactic| try simp only [L2.start, List.map_cons, List.map_nil, List.length_cons, List.length_nil, Nat.reduceAdd, Nat.reduceSub, Nat.reduceLT, Nat.reduceLeDiff, List.replicate_succ, List.replicate_zero, List.append_nil, List.nil_append, List.cons_append, List.set_cons_zero, List.set_cons_succ, List.getElem?_cons_zero, List.getElem?_cons_succ,
  Option.some.injEq, List.cons.injEq, and_true, true_and, and_assoc, reduceCtorEq, L2.V.int.injEq, L2.V.ref.injEq, L2.V.bl.injEq, L2.V.str.injEq, L2.V.ty.injEq, L2.HO.ins.injEq, L2.HO.lst.injEq, L2.HO.tup.injEq, L2.HO.dK.injEq, exists_eq_left', exists_eq_left, exists_eq_right, exists_eq', exists_eq, exists_and_left, exists_and_right, reduceIte, Bool.false_eq_true, Bool.not_true, Bool.not_false,
  L2.tSeq, L2.tIfS, L2.tRet, L2.tRetN, L2.tNext, L2.tAsg, L2.gName, L2.tVar, L2.tC, L2.tCons, L2.tNil, L2.tCB, L2.tOp, L2.tUn, L2.tTup, L2.tLst, L2.tB, L2.tOr, L2.tAnd, L2.tNot, L2.tAndV, L2.tOrV, L2.tNotV, L2.tIf, L2.tTest, L2.tChain, L2.rI, L2.rI0, L2.rU, L2.tDrop, L2.tNever, L2.tCall, L2.tMeth, L2.tMake, L2.rGcd, L2.tFld, L2.sFld, L2.sFldAug, Mx.sFldA, Mx.sFldAugA, L2.rAdd, L2.rSub, L2.rEq, L2.rNe, L2.tDGet, L2.tDIn, L2.tDNotIn, L2.sDPut,
  Mx.isi_int_bool, Mx.isi_int_int, Mx.isi_int_tuple, Mx.isi_int_list, Mx.isi_int_str, Mx.scal_int, Mx.scal_str, Mx.scal_bl, Mx.ofString_inj, Mx.ofString_beq, Mx.lk_cons, Mx.pf_nil, Mx.pf_cons, Mx.sz1, Mx.sz2, List.lookup_nil, String.reduceEq, decide_true, decide_false, decide_eq_true_eq, Int.natAbs_natCast, L2.upd_same, L2.upd_upd, L2.cxOf, Mx.fsM, Mx.fsV, Mx.fsL, Mx.optV])
set_option hygiene false in
local macro_rules | `(tactic| walk_at "rds") => `(tactic| try simp only [L2.start, List.map_cons, List.map_nil, List.length_cons, List.length_nil, Nat.reduceAdd, Nat.reduceSub, Nat.reduceLT, Nat.reduceLeDiff, List.replicate_succ, List.replicate_zero, List.append_nil, List.nil_append, List.cons_append, List.set_cons_zero, List.set_cons_succ, List.getElem?_cons_zero, List.getElem?_cons_succ,
  Option.some.injEq, List.cons.injEq, and_true, true_and, and_assoc, reduceCtorEq, L2.V.int.injEq, L2.V.ref.injEq, L2.V.bl.injEq, L2.V.str.injEq, L2.V.ty.injEq, L2.HO.ins.injEq, L2.HO.lst.injEq, L2.HO.tup.injEq, L2.HO.dK.injEq, exists_eq_left', exists_eq_left, exists_eq_right, exists_eq', exists_eq, exists_and_left, exists_and_right, reduceIte, Bool.false_eq_true, Bool.not_true, Bool.not_false,
  L2.tSeq, L2.tIfS, L2.tRet, L2.tRetN, L2.tNext, L2.tAsg, L2.gName, L2.tVar, L2.tC, L2.tCons, L2.tNil, L2.tCB, L2.tOp, L2.tUn, L2.tTup, L2.tLst, L2.tB, L2.tOr, L2.tAnd, L2.tNot, L2.tAndV, L2.tOrV, L2.tNotV, L2.tIf, L2.tTest, L2.tChain, L2.rI, L2.rI0, L2.rU, L2.tDrop, L2.tNever, L2.tCall, L2.tMeth, L2.tMake, L2.rGcd, L2.tFld, L2.sFld, L2.sFldAug, Mx.sFldA, Mx.sFldAugA, L2.rAdd, L2.rSub, L2.rEq, L2.rNe, L2.tDGet, L2.tDIn, L2.tDNotIn, L2.sDPut,
  Mx.isi_int_bool, Mx.isi_int_int, Mx.isi_int_tuple, Mx.isi_int_list, Mx.isi_int_str, Mx.scal_int, Mx.scal_str, Mx.scal_bl, Mx.ofString_inj, Mx.ofString_beq, Mx.lk_cons, Mx.pf_nil, Mx.pf_cons, Mx.sz1, Mx.sz2, List.lookup_nil, String.reduceEq, decide_true, decide_false, decide_eq_true_eq, Int.natAbs_natCast, L2.upd_same, L2.upd_upd, L2.cxOf, Mx.fsM, Mx.fsV, Mx.fsL, Mx.optV, *])

section
variable {P : Program} {w : World} {K : PySem.W.Frag} {mg : Str → Option Value} {base : Heap} {cs : Cs} {C : Addr}
def sp_Mixer_beat (K : PySem.W.Frag) (cs : Cs) : Sp := fun vs H Q _ => ∃ (m d k : Addr) (s : MixS) (b : Nat), vs = [.ref m] ∧ MixAt K cs H m d k s ∧ MixOk b s ∧
  ∀ (r : V) (ys : List Int) (H' : Hp), ys.Perm (s.vs.map (·.1)) → ys.Pairwise (· ≤ ·) → IsQ K H' r (sumOf s ys) → MixAt K cs H' m d k (s.beat ys) → Stp (s.foot m d k) H H' → Q r H'
theorem sc_Mixer_beat : FnScope ["self", "total", "name", "voice"] ["self"] (defScope s_Mixer_beat) := ⟨rfl, rfl, rfl, by decide +kernel, rfl, by decide +kernel, by decide +kernel⟩
theorem ok_Mixer_beat {f : Addr} {fd : FuncData} (F : Fun K "beat" "Mixer.beat" s_Mixer_beat f fd) (T : TM K cs.M) (TVV : TV K cs.V) (TT : TC K mg) (B : Blt mg) (G1 : OwnM P w K mg base cs.L "lacks" 5 ["self", "beat"] (sp_Line_bool cs.L LineS.lacks))
    (G2 : OwnM P w K mg base cs.V "give" 7 ["self", "beat", "soft"] (sp_Voice_give K cs)) (G3 : OwnF P w K mg base "plus" 2 ["one", "other"] (sp_two (· + ·) K)) : FnOk P w K mg base CX0 8 f fd ["self"] (sp_Mixer_beat K cs) := by
  refine F.ok sc_Mixer_beat (fun vs H Q E h => ?_) (fun cdv A outer s H vs Q E hr h => ?_)
  · obtain ⟨m, d, k, s, b, rfl, _⟩ := h
    rfl
  · obtain ⟨m, d, k, s, b, rfl, hM, hO, q⟩ := h
    obtain ⟨aN, hN, hN2⟩ := TT.nothing
    have hu := hu_of hr
    refine ⟨_, pss_cons (ps_set (i := 1) sc_Mixer_beat.nd rfl (.inl rfl) (pe_glob (v := .ref aN) (by rfl) hN rfl))
      (pss_cons (ps_for PassesOwn.never rfl (pi_list (pe_callB (call_sortedDI rfl) (by rfl) B.sorted PyProof.Rows.boot_sorted (pa_cons (pe_fld (pv 0) rfl) pa_nil))) (pg_name (i := 2) sc_Mixer_beat.nd rfl (.inl rfl))
        (pss_cons (ps_set (i := 3) sc_Mixer_beat.nd rfl (.inl rfl) (pe_dget hu (pe_fld (pv 0) rfl) (pv 2) (fun _ _ => rfl)))
        (pss_cons (ps_if (pt_val (p_meth G1 (hr.mono (by decide)) (pe_fld (pv 3) rfl) (pa_cons (pe_fld (pv 0) rfl) pa_nil)))
          (pss_one (ps_expr (pe_bm PySem.F.plainAttrs_list PySem.F.slot_list_append PySem.F.type_list_append mt_append (pe_fld (pv 0) rfl) (pa_cons (pe_tup (pa_cons (pv 2) (pa_cons (pe_fld (pv 0) rfl) pa_nil))) pa_nil)))) pss_nil)
        (pss_one (ps_set (i := 1) sc_Mixer_beat.nd rfl (.inl rfl) (p_call G3 (hr.mono (by decide)) (pa_cons (pv 1) (pa_cons (p_meth G2 hr (pv 3) (pa_cons (pe_fld (pv 0) rfl) (pa_cons (pe_fld (pv 0) rfl) pa_nil))) pa_nil))))))))
      (pss_cons (ps_fldaugA (pv 0) pe_int in_add) (pss_one (ps_ret (pv 1))))), ?_⟩
    obtain ⟨cl, a1, a2, a3, a4⟩ := T
    obtain ⟨vcl, b1, _⟩ := TVV
    obtain ⟨dx, h1⟩ := id hM.ob
    have hdv := hM.dv
    walk_at "rds"
    have hlen6 : (s.vs.length + 1) * (b + 25) < 4400 := hO.bits
    have hvl : s.vs.length < 64 := Nat.lt_of_le_of_lt hO.six (by decide)
    refine ⟨_, rfl, m, cs.M, dx, _, _, rfl, h1, cl, a3, rfl, d, rfl, _, .inl hdv, s.vs.map (·.1), ?_, ?_, fun ys p hpm hpw hp0 => ⟨p, rfl, ⟨_, .inl (.inl upd_same)⟩, ?_⟩⟩
    · unfold vdict
      rw [List.map_map, List.map_map]
      rfl
    · rw [List.length_map]
      exact hvl
    have hpf : p ∉ s.foot m d k := fun z => hM.some p z hp0
    have s0 := Stp.new (o := .lst (ys.map V.int)) hp0
    have hndy : ys.Nodup := hpm.nodup_iff.mpr hM.nm
    have hsub : ∀ n ∈ ys, ∃ e ∈ s.vs, e.1 = n := fun n hn => by
      obtain ⟨e, he, q⟩ := List.mem_map.mp (hpm.mem_iff.mp hn)
      exact ⟨e, he, q⟩
    have hyl : ys.length = s.vs.length := by rw [hpm.length_eq, List.length_map]
    refine for_list (K := K) (a := p) (xs := ys.map V.int) (fun i σ H2 => ∃ tv v2 v3, σ = [some (.ref m), some tv, v2, v3] ∧ IsQ K H2 tv (sumOf s (ys.take i)) ∧ MixAt K cs H2 m d k (s.some' (ys.take i)) ∧ Stp (s.foot m d k) H H2 ∧ H2 p = some (.lst (ys.map V.int)))
      ⟨_, _, _, rfl, isQ0 hN2, by rw [List.take_zero, some_nil]; exact hM.st0 s0, s0.sub (by simp), upd_same⟩ (fun i σ H2 _ h => ?_) (fun i x σ H2 hi h => ?_) (fun σ H2 h => ?_)
    · obtain ⟨_, _, _, _, _, _, _, hp2⟩ := h
      exact .inl (.inl hp2)
    · obtain ⟨tv, v2, v3, rfl, htv, hM2, st2, hp2⟩ := h
      rw [List.getElem?_map] at hi
      obtain ⟨n, hn, rfl⟩ := Option.map_eq_some_iff.mp hi
      have hil : i < ys.length := (List.getElem?_eq_some_iff.mp hn).1
      have hnm : n ∈ ys := List.mem_of_getElem? hn
      obtain ⟨e, he, rfl⟩ := hsub n hnm
      have htk : ys.take (i + 1) = ys.take i ++ [e.1] := by rw [List.take_add_one, hn]; rfl
      have hni : e.1 ∉ ys.take i := by
        intro z
        have h2 := hndy.sublist (List.take_sublist (i + 1) ys)
        rw [htk, List.nodup_append] at h2
        exact h2.2.2 _ z _ (by simp) rfl
      have he2 : e ∈ (s.some' (ys.take i)).vs := by
        refine List.mem_map.mpr ⟨e, he, ?_⟩
        rw [if_neg hni]
      have hib : (i + 1) * (b + 25) ≤ s.vs.length * (b + 25) := Nat.mul_le_mul_right _ (by omega)
      have hsb : (s.vs.length + 1) * (b + 25) = s.vs.length * (b + 25) + (b + 25) := by rw [Nat.add_mul, Nat.one_mul]
      have hib1 : (i + 1) * (b + 25) = i * (b + 25) + (b + 25) := by rw [Nat.add_mul, Nat.one_mul]
      obtain ⟨dx2, h12⟩ := hM2.ob
      have hd2 := hM2.dv
      have gd := DGet.k (k := (Sum.inl e.1 : Key)) hd2
      rw [vdict_get hM2.nm he2] at gd
      have hv2 := hM2.vo e he2
      obtain ⟨dy2, pv2', hv2', gv2, _, _⟩ := hv2.ob
      obtain ⟨dl2, tp2, gl2, _⟩ := hv2.line.ob
      walk_at "rds"
      refine ⟨_, gd, ?_⟩
      walk_at "rds"
      refine ⟨e.2.1.l, e.2.1.c, e.2.2.line, s.coming, rfl, hv2.line, (hO.vo e he).line, fun H3 s3 => ?_⟩
      have hM3 := hM2.st0 s3
      have hrb : Rb (1 + i * (b + 25)) (sumOf s (ys.take i)) := by
        have := sum_rb hO hM.nm (ys.take i) fun n hn => hsub n (List.mem_of_mem_take hn)
        rw [List.length_take, Nat.min_eq_left (by omega)] at this
        exact this
      walk_at "rd"
      cases hlk : e.2.2.line.lacks s.coming with
      | false =>
        have hlk2 : e.2.2.line.lacks s.coming = true ∧ ([] : List (Int × Int)) = [(e.1, s.coming)] ∨ e.2.2.line.lacks s.coming = false ∧ ([] : List (Int × Int)) = [] := .inr ⟨hlk, rfl⟩
        rw [if_neg (by decide)]
        have hM4 : MixAt K cs H3 m d k { s.some' (ys.take i) with lacked := (s.some' (ys.take i)).lacked ++ [] } := by
          rw [List.append_nil]
          exact hM3
        have st4 := st2.trans s3
        have ht4 := htv.st s3
        have hp4 := s3.keep _ _ hp2 (by simp)
        have hv4 := hM4.vo e he2
        obtain ⟨dx4, g4⟩ := hM4.ob
        obtain ⟨dy4, pv4, hv4', gv4, _, _⟩ := hv4.ob
        walk_at "rds"
        refine ⟨e.2.1, e.2.2, s.coming, s.soft, b, rfl, hv4, hO.vo e he, hO.s1, hO.s2, hO.d0, by omega, fun r H5 hr5 hv5 s5 => ?_⟩
        obtain ⟨ar, rfl, tr⟩ := hr5
        obtain ⟨atv, rfl, ttv⟩ := ht4
        have hM5 := hM4.turn he2 s5 (fun x hx => hx) hv5
        refine ⟨atv, ar, sumOf s (ys.take i), (e.2.2.give s.coming s.soft).part, 1 + i * (b + 25), b + 24, rfl, ttv.st s5, tr, hrb, ((hO.vo e he).give hO.s1 hO.s2 s.coming).part, by omega, by omega, by omega, fun r6 H6 hp6 s6 l6 => ?_⟩
        have hfe : ∀ x ∈ e.2.1.foot, x ∈ s.foot m d k := fun x hx => by
          unfold MixS.foot
          exact List.mem_cons_of_mem _ (List.mem_cons_of_mem _ (List.mem_cons_of_mem _ (List.mem_flatMap.mpr ⟨e, he, hx⟩)))
        refine ⟨?_, ?_, ((st4.trans s5).trans s6).sub ?_, ?_⟩
        · rw [sumOf_snoc, partOf_mem hM.nm he]
          exact isQ_of l6
        · have := hM5.st0 s6
          rw [some_step hM.nm he hni rfl hlk2] at this
          exact this
        · intro x hx
          simp only [List.append_nil, List.mem_append] at hx
          exact hx.elim id (hfe x)
        · exact s6.keep _ _ (s5.keep _ _ hp4 fun z => hpf (hfe _ z)) (by simp)
      | true =>
        have hlk2 : e.2.2.line.lacks s.coming = true ∧ [(e.1, s.coming)] = [(e.1, s.coming)] ∨ e.2.2.line.lacks s.coming = false ∧ [(e.1, s.coming)] = [] := .inl ⟨hlk, rfl⟩
        rw [if_pos rfl]
        obtain ⟨ls, hl3, hpr3⟩ := hM3.lk
        obtain ⟨dx3, g3⟩ := hM3.ob
        refine ⟨_, rfl, m, cs.M, dx3, _, _, rfl, g3, cl, a4, rfl, .inl ⟨rfl, _, .inl (.inl hl3)⟩, ?_⟩
        refine ⟨_, rfl, _, rfl, m, cs.M, dx3, _, _, rfl, g3, cl, a2, rfl, by show 2 ≤ sizeLine; decide, fun T hT => ?_⟩
        have sT := Stp.new (o := .tup [.int e.1, .int (s.some' (ys.take i)).coming]) hT
        have hl4 := sT.keep _ _ hl3 (by simp)
        have hM4 : MixAt K cs (upd (upd H3 T (.tup [.int e.1, .int (s.some' (ys.take i)).coming])) k (.lst (ls ++ [.ref T]))) m d k { s.some' (ys.take i) with lacked := (s.some' (ys.take i)).lacked ++ [(e.1, s.coming)] } := (hM3.st0 sT).lack hl4 (T := T) (n := e.1) (b := (s.some' (ys.take i)).coming) upd_same
        have sL := Stp.put (o := .lst (ls ++ [.ref T])) hl4 (fun xs z => nomatch z)
        have hll := hM3.low hl3
        refine ⟨k, ls, .ref T, rfl, rfl, hl4, ?_, ?_⟩
        · rw [hll]
          have h1 : (s.some' (ys.take i)).lacked.length ≤ s.lacked.length + i := by
            show (s.lacked ++ ((ys.take i).filter (lackN s.vs s.coming)).map fun n => (n, s.coming)).length ≤ _
            rw [List.length_append, List.length_map]
            have := List.length_filter_le (lackN s.vs s.coming) (ys.take i)
            rw [List.length_take] at this
            omega
          have := hO.lk
          exact Nat.lt_of_le_of_lt (show _ ≤ 100000 by omega) (by decide)
        have st4 := ((st2.trans s3).trans sT).trans sL
        have ht4 := ((htv.st s3).st sT).st sL
        have hkp : p ≠ k := fun z => hpf (by rw [z]; simp [MixS.foot])
        have hp4 := sL.keep _ _ (sT.keep _ _ (s3.keep _ _ hp2 (by simp)) (by simp)) (by simpa using hkp)
        have hkf : k ∈ s.foot m d k := by simp [MixS.foot]
        have st4' := st4.sub (G := s.foot m d k) (by
          intro x hx
          simp only [List.append_nil, List.mem_append, List.mem_singleton] at hx
          exact hx.elim id fun z => z ▸ hkf)
        have st4 := st4'
        generalize upd (upd H3 T (.tup [.int e.1, .int (s.some' (ys.take i)).coming])) k (.lst (ls ++ [.ref T])) = H4 at *
        have hv4 := hM4.vo e he2
        obtain ⟨dx4, g4⟩ := hM4.ob
        obtain ⟨dy4, pv4, hv4', gv4, _, _⟩ := hv4.ob
        walk_at "rds"
        refine ⟨e.2.1, e.2.2, s.coming, s.soft, b, rfl, hv4, hO.vo e he, hO.s1, hO.s2, hO.d0, by omega, fun r H5 hr5 hv5 s5 => ?_⟩
        obtain ⟨ar, rfl, tr⟩ := hr5
        obtain ⟨atv, rfl, ttv⟩ := ht4
        have hM5 := hM4.turn he2 s5 (fun x hx => hx) hv5
        refine ⟨atv, ar, sumOf s (ys.take i), (e.2.2.give s.coming s.soft).part, 1 + i * (b + 25), b + 24, rfl, ttv.st s5, tr, hrb, ((hO.vo e he).give hO.s1 hO.s2 s.coming).part, by omega, by omega, by omega, fun r6 H6 hp6 s6 l6 => ?_⟩
        have hfe : ∀ x ∈ e.2.1.foot, x ∈ s.foot m d k := fun x hx => by
          unfold MixS.foot
          exact List.mem_cons_of_mem _ (List.mem_cons_of_mem _ (List.mem_cons_of_mem _ (List.mem_flatMap.mpr ⟨e, he, hx⟩)))
        refine ⟨?_, ?_, ((st4.trans s5).trans s6).sub ?_, ?_⟩
        · rw [sumOf_snoc, partOf_mem hM.nm he]
          exact isQ_of l6
        · have := hM5.st0 s6
          rw [some_step hM.nm he hni rfl hlk2] at this
          exact this
        · intro x hx
          simp only [List.append_nil, List.mem_append] at hx
          exact hx.elim id (hfe x)
        · exact s6.keep _ _ (s5.keep _ _ hp4 fun z => hpf (hfe _ z)) (by simp)
    · obtain ⟨tv, v2, v3, rfl, htv, hM2, st2, hp2⟩ := h
      rw [List.length_map, List.take_length] at htv hM2
      obtain ⟨dx2, h12⟩ := hM2.ob
      have hne := hM2.ne
      walk_at "rds"
      intro H3 g3 s3
      walk_at "rd"
      refine q tv ys H3 hpm hpw (htv.st s3) ?_ ((st2.trans s3).sub ?_)
      · obtain ⟨_, u2, ⟨ls, u3, u4⟩, u5, u6, u7, u8⟩ := hM2
        have ev : (s.some' ys).vs = (s.beat ys).vs := List.map_congr_left fun e he => by
          rw [if_pos (hpm.mem_iff.mpr (List.mem_map.mpr ⟨e, he, rfl⟩))]
        rw [ev] at u2 u5 u6 u7 u8
        exact ⟨⟨dx2, g3⟩, s3.keep _ _ u2 (by simpa using hne.1.symm), ⟨ls, s3.keep _ _ u3 (by simpa using hne.2.1.symm), pairs_st s3 u4⟩, fun e he => (u5 e he).st s3 fun x hx z => (u6 e he).1 (List.mem_singleton.mp z ▸ hx), u6, u7, u8⟩
      · intro x hx
        simp only [List.mem_append, List.mem_singleton] at hx
        exact hx.elim id fun z => by rw [z]; simp [MixS.foot]
end
end Mx

namespace Mx
open PySem L2
/-! ### the draws -/
/-- the row of draws at r: the script, where one is, what is mixed -/
def RowAt (K : PySem.W.Frag) (H : Hp) (r sc : Addr) (ns : List Int) : Prop := ∃ pos mix : Int, 0 ≤ pos ∧ 0 ≤ mix ∧ mix < 2147483647 ∧ H r = some (.lst [.ref sc, .int pos, .int mix]) ∧ SqL K H sc (ns.map V.int) ∧ (sc ≠ r ∨ ∀ H' : Hp, SqL K H' sc (ns.map V.int))
theorem seq_or {K : PySem.W.Frag} {H H' : Hp} {a r : Addr} {xs : List V} (h : SqL K H a xs) (s : Stp [r] H H') (n : a ≠ r ∨ ∀ H' : Hp, SqL K H' a xs) : SqL K H' a xs := n.elim (fun q => seq_st h s (by simpa using q)) fun q => q H'
theorem RowAt.st {K : PySem.W.Frag} {F : List Addr} {H H' : Hp} {r sc : Addr} {ns : List Int} (h : RowAt K H r sc ns) (s : Stp F H H') (h1 : r ∉ F) (h2 : sc ∉ F) : RowAt K H' r sc ns := by
  obtain ⟨pos, mix, p0, m0, m1, hr, hs, hn⟩ := h
  exact ⟨pos, mix, p0, m0, m1, s.keep _ _ hr h1, seq_st hs s h2, hn⟩
theorem RowAt.st0 {K : PySem.W.Frag} {H H' : Hp} {r sc : Addr} {ns : List Int} (h : RowAt K H r sc ns) (s : Stp [] H H') : RowAt K H' r sc ns := h.st s (by simp) (by simp)
def sp_taken (K : PySem.W.Frag) : Sp := fun vs H Q _ => ∃ (r sc : Addr) (ns : List Int) (many : Int), vs = [.ref r, .int many] ∧ RowAt K H r sc ns ∧ 1 ≤ many ∧ ∀ v H', 0 ≤ v → v < many → RowAt K H' r sc ns → Stp [r] H H' → Q (.int v) H'
theorem at3_0 {x y z : V} : atI [x, y, z] 0 = some x := rfl
theorem at3_1 {x y z : V} : atI [x, y, z] 1 = some y := rfl
theorem at3_2 {x y z : V} : atI [x, y, z] 2 = some z := rfl
theorem ixL {K : PySem.W.Frag} {H : Hp} {p : Addr} {xs : List V} {i : Int} {x : V} {Q : VK} (h : SqL K H p xs) (ha : atI xs i = some x) (q : Q x H) : rIxL K (.ref p) (.int i) H Q := ⟨p, xs, i, x, rfl, rfl, h, ha, q⟩
theorem setL {H : Hp} {p : Addr} {xs : List V} {i : Int} {j : Nat} {v : V} {Q : Hp → Prop} (h : H p = some (.lst xs)) (hi : ixN xs.length i = some j) (q : ∀ H', H' p = some (.lst (xs.set j v)) → Stp [p] H H' → Q H') : rSetL (.ref p) (.int i) v H Q :=
  ⟨p, xs, i, j, rfl, rfl, h, hi, q _ upd_same (Stp.put h fun xs z => nomatch z)⟩
theorem at_nat {ns : List Int} {i : Int} (h0 : 0 ≤ i) (h1 : i < ns.length) : ∃ n, n ∈ ns ∧ atI (ns.map V.int) i = some (.int n) := by
  have hl : i.toNat < ns.length := by omega
  refine ⟨ns[i.toNat], List.getElem_mem hl, ?_⟩
  unfold atI ixN
  rw [if_pos h0, List.length_map, if_pos h1]
  show (ns.map V.int)[i.toNat]? = _
  rw [List.getElem?_map, List.getElem?_eq_getElem hl]
  rfl
set_option hygiene false in
local macro_rules | `(tactic| walk_at "rd") => `(tactic| try simp only [L2.start, List.map_cons, List.map_nil, List.length_cons, List.length_nil, Nat.reduceAdd, Nat.reduceSub, Nat.reduceLT, Nat.reduceLeDiff, List.replicate_succ, List.replicate_zero, List.append_nil, List.nil_append, List.cons_append, List.set_cons_zero, List.set_cons_succ, List.getElem?_cons_zero, List.getElem?_cons_succ,
  Option.some.injEq, List.cons.injEq, and_true, true_and, and_assoc, reduceCtorEq, L2.V.int.injEq, L2.V.ref.injEq, L2.V.bl.injEq, L2.V.str.injEq, L2.V.ty.injEq, L2.HO.ins.injEq, L2.HO.lst.injEq, L2.HO.tup.injEq, L2.HO.dK.injEq, exists_eq_left', exists_eq_left, exists_eq_right, exists_eq', exists_eq, exists_and_left, exists_and_right, reduceIte, Bool.false_eq_true, Bool.not_true, Bool.not_false,
  L2.tSeq, L2.tIfS, L2.tRet, L2.tRetN, L2.tNext, L2.tAsg, L2.gName, L2.tVar, L2.tC, L2.tCons, L2.tNil, L2.tCB, L2.tOp, L2.tUn, L2.tTup, L2.tLst, L2.tB, L2.tOr, L2.tAnd, L2.tNot, L2.tAndV, L2.tOrV, L2.tNotV, L2.tIf, L2.tTest, L2.tChain, L2.rI, L2.rI0, L2.rU, L2.tDrop, L2.tNever, L2.tCall, L2.tMeth, L2.tMake, L2.rGcd, L2.tFld, L2.sFld, L2.sFldAug, Mx.sFldA, Mx.sFldAugA, L2.rAdd, L2.rSub, L2.rEq, L2.rNe, L2.tDGet, L2.tDIn, L2.tDNotIn, L2.sDPut,
  Mx.isi_int_bool, Mx.isi_int_int, Mx.isi_int_tuple, Mx.isi_int_list, Mx.isi_int_str, Mx.scal_int, Mx.scal_str, Mx.scal_bl, Mx.ofString_inj, Mx.ofString_beq, Mx.lk_cons, Mx.pf_nil, Mx.pf_cons, Mx.sz1, Mx.sz2, List.lookup_nil, String.reduceEq, decide_true, decide_false, decide_eq_true_eq, Int.natAbs_natCast, L2.upd_same, L2.upd_upd, L2.cxOf, L2.gSub])
set_option hygiene false in
local macro_rules | `(tactic| walk_at "rds") => `(tactic| try simp only [L2.start, List.map_cons, List.map_nil, List.length_cons, List.length_nil, Nat.reduceAdd, Nat.reduceSub, Nat.reduceLT, Nat.reduceLeDiff, List.replicate_succ, List.replicate_zero, List.append_nil, List.nil_append, List.cons_append, List.set_cons_zero, List.set_cons_succ, List.getElem?_cons_zero, List.getElem?_cons_succ,
  Option.some.injEq, List.cons.injEq, and_true, true_and, and_assoc, reduceCtorEq, L2.V.int.injEq, L2.V.ref.injEq, L2.V.bl.injEq, L2.V.str.injEq, L2.V.ty.injEq, L2.HO.ins.injEq, L2.HO.lst.injEq, L2.HO.tup.injEq, L2.HO.dK.injEq, exists_eq_left', exists_eq_left, exists_eq_right, exists_eq', exists_eq, exists_and_left, exists_and_right, reduceIte, Bool.false_eq_true, Bool.not_true, Bool.not_false,
  L2.tSeq, L2.tIfS, L2.tRet, L2.tRetN, L2.tNext, L2.tAsg, L2.gName, L2.tVar, L2.tC, L2.tCons, L2.tNil, L2.tCB, L2.tOp, L2.tUn, L2.tTup, L2.tLst, L2.tB, L2.tOr, L2.tAnd, L2.tNot, L2.tAndV, L2.tOrV, L2.tNotV, L2.tIf, L2.tTest, L2.tChain, L2.rI, L2.rI0, L2.rU, L2.tDrop, L2.tNever, L2.tCall, L2.tMeth, L2.tMake, L2.rGcd, L2.tFld, L2.sFld, L2.sFldAug, Mx.sFldA, Mx.sFldAugA, L2.rAdd, L2.rSub, L2.rEq, L2.rNe, L2.tDGet, L2.tDIn, L2.tDNotIn, L2.sDPut,
  Mx.isi_int_bool, Mx.isi_int_int, Mx.isi_int_tuple, Mx.isi_int_list, Mx.isi_int_str, Mx.scal_int, Mx.scal_str, Mx.scal_bl, Mx.ofString_inj, Mx.ofString_beq, Mx.lk_cons, Mx.pf_nil, Mx.pf_cons, Mx.sz1, Mx.sz2, List.lookup_nil, String.reduceEq, decide_true, decide_false, decide_eq_true_eq, Int.natAbs_natCast, L2.upd_same, L2.upd_upd, L2.cxOf, L2.gSub, *])

section
variable {P : Program} {w : World} {K : PySem.W.Frag} {mg : Str → Option Value} {base : Heap}
theorem sc_law_taken : FnScope ["_law_row", "_law_many", "_law_cell"] ["_law_row", "_law_many"] (defScope s_law_taken) := ⟨rfl, rfl, rfl, by decide +kernel, rfl, by decide +kernel, by decide +kernel⟩
theorem ok_law_taken {f : Addr} {fd : FuncData} (F : Fun K "_law_taken" "_law_taken" s_law_taken f fd) (B : Blt mg) : FnOk P w K mg base CX0 1 f fd ["_law_row", "_law_many"] (sp_taken K) := by
  refine F.ok sc_law_taken (fun vs H Q E h => ?_) (fun cdv A outer s H vs Q E hr h => ?_)
  · obtain ⟨r, sc, ns, many, rfl, _⟩ := h
    rfl
  · obtain ⟨r, sc, ns, many, rfl, ⟨pos, mix, p0, m0, m1, hR, hS, hn⟩, h1, k⟩ := h
    refine ⟨_, pss_cons (ps_asg (pe_op op_add (pe_ix ix_list (pv 0) pe_int (fun _ _ => rfl)) pe_int) (pg_sub (pv 0) pe_int set_list))
      (pss_cons (ps_if (pt_cmpR op_gt (pe_ix ix_list (pv 0) pe_int (fun _ _ => rfl)) (pe_callB call_len_seq (by rfl) B.len PySem.boot_len (pa_cons (pe_ix ix_list (pv 0) pe_int (fun _ _ => rfl)) pa_nil)) (nomark _))
        (pss_cons (ps_asg (pe_op op_mod (pe_op op_add (pe_op op_mul (pe_ix ix_list (pv 0) pe_int (fun _ _ => rfl)) pe_int) pe_int) pe_int) (pg_sub (pv 0) pe_int set_list))
          (pss_one (ps_ret (pe_op op_mod (pe_op op_fdiv (pe_ix ix_list (pv 0) pe_int (fun _ _ => rfl)) pe_int) (pv 1))))) pss_nil)
      (pss_cons (ps_set (i := 2) sc_law_taken.nd rfl (.inl rfl) (pe_ix ix_list (pe_ix ix_list (pv 0) pe_int (fun _ _ => rfl)) (pe_op op_sub (pe_ix ix_list (pv 0) pe_int (fun _ _ => rfl)) pe_int) (fun _ _ => rfl)))
      (pss_cons (ps_asg (pe_op op_mod (pe_op op_add (pe_op op_add (pe_op op_mul (pe_ix ix_list (pv 0) pe_int (fun _ _ => rfl)) pe_int) (pv 2)) pe_int) pe_int) (pg_sub (pv 0) pe_int set_list))
      (pss_one (ps_ret (pe_op op_mod (pv 2) (pv 1)))))))
      , ?_⟩
    walk_at "rd"
    refine ixL (.inl (.inl hR)) at3_1 ?_
    walk_at "rd"
    refine setL hR (j := 1) rfl fun H1 g1 s1 => ?_
    have hS1 := seq_or hS s1 hn
    refine ixL (.inl (.inl g1)) at3_1 (ixL (.inl (.inl g1)) at3_0 ?_)
    walk_at "rd"
    refine ⟨_, .inl hS1, ?_⟩
    by_cases hp : pos + 1 > (((ns.map V.int).length : Nat) : Int)
    · walk_at "rd"
      rw [if_pos hp]
      refine ixL (.inl (.inl g1)) at3_2 ?_
      walk_at "rd"
      refine ⟨.inl ⟨by omega, by omega⟩, by decide, ?_⟩
      refine setL g1 (j := 2) rfl fun H2 g2 s2 => ?_
      refine ixL (.inl (.inl g2)) at3_2 ?_
      walk_at "rd"
      have e0 := Int.emod_nonneg (mix * 48271 + 11) (show (2147483647 : Int) ≠ 0 by decide)
      have e1 := Int.emod_lt_of_pos (mix * 48271 + 11) (show (0 : Int) < 2147483647 by decide)
      refine ⟨⟨by decide, by decide⟩, by omega, ?_⟩
      exact k _ H2 (Int.emod_nonneg _ (by omega)) (Int.emod_lt_of_pos _ (by omega)) ⟨pos + 1, _, by omega, e0, e1, g2, seq_or hS1 s2 hn, hn⟩ ((s1.trans s2).sub (by simp))
    · walk_at "rd"
      rw [if_neg hp]
      rw [List.length_map] at hp
      obtain ⟨n, _, hat⟩ := at_nat (ns := ns) (i := pos) p0 (by omega)
      refine ixL (.inl (.inl g1)) at3_0 (ixL (.inl (.inl g1)) at3_1 ?_)
      walk_at "rd"
      refine ixL hS1 (i := pos + 1 - 1) (by rw [show pos + 1 - 1 = pos by omega]; exact hat) ?_
      refine ixL (.inl (.inl g1)) at3_2 ?_
      walk_at "rd"
      refine ⟨.inl ⟨by omega, by omega⟩, by decide, ?_⟩
      refine setL g1 (j := 2) rfl fun H2 g2 s2 => ?_
      walk_at "rd"
      have e0 := Int.emod_nonneg (mix * 48271 + n + 11) (show (2147483647 : Int) ≠ 0 by decide)
      have e1 := Int.emod_lt_of_pos (mix * 48271 + n + 11) (show (0 : Int) < 2147483647 by decide)
      refine ⟨by omega, ?_⟩
      exact k _ H2 (Int.emod_nonneg _ (by omega)) (Int.emod_lt_of_pos _ (by omega)) ⟨pos + 1, _, by omega, e0, e1, g2, seq_or hS1 s2 hn, hn⟩ ((s1.trans s2).sub (by simp))
end
end Mx

namespace Mx
open PySem L2
set_option hygiene false in
local macro_rules | `(tactic| walk_at "rd") => `(tactic| try simp only [L2.start, List.map_cons, List.map_nil, List.length_cons, List.length_nil, Nat.reduceAdd, Nat.reduceSub, Nat.reduceLT, Nat.reduceLeDiff, List.replicate_succ, List.replicate_zero, List.append_nil, List.nil_append, List.cons_append, List.set_cons_zero, List.set_cons_succ, List.getElem?_cons_zero, List.getElem?_cons_succ,
  Option.some.injEq, List.cons.injEq, and_true, true_and, and_assoc, reduceCtorEq, L2.V.int.injEq, L2.V.ref.injEq, L2.V.bl.injEq, L2.V.str.injEq, L2.V.ty.injEq, L2.HO.ins.injEq, L2.HO.lst.injEq, L2.HO.tup.injEq, L2.HO.dK.injEq, exists_eq_left', exists_eq_left, exists_eq_right, exists_eq', exists_eq, exists_and_left, exists_and_right, reduceIte, Bool.false_eq_true, Bool.not_true, Bool.not_false,
  L2.tSeq, L2.tIfS, L2.tRet, L2.tRetN, L2.tNext, L2.tAsg, L2.gName, L2.tVar, L2.tC, L2.tCons, L2.tNil, L2.tCB, L2.tOp, L2.tUn, L2.tTup, L2.tLst, L2.tB, L2.tOr, L2.tAnd, L2.tNot, L2.tAndV, L2.tOrV, L2.tNotV, L2.tIf, L2.tTest, L2.tChain, L2.rI, L2.rI0, L2.rU, L2.tDrop, L2.tNever, L2.tCall, L2.tMeth, L2.tMake, L2.rGcd, L2.tFld, L2.sFld, L2.sFldAug, Mx.sFldA, Mx.sFldAugA, L2.rAdd, L2.rSub, L2.rEq, L2.rNe, L2.tDGet, L2.tDIn, L2.tDNotIn, L2.sDPut,
  Mx.isi_int_bool, Mx.isi_int_int, Mx.isi_int_tuple, Mx.isi_int_list, Mx.isi_int_str, Mx.scal_int, Mx.scal_str, Mx.scal_bl, Mx.ofString_inj, Mx.ofString_beq, Mx.lk_cons, Mx.pf_nil, Mx.pf_cons, Mx.sz1, Mx.sz2, List.lookup_nil, String.reduceEq, decide_true, decide_false, decide_eq_true_eq, Int.natAbs_natCast, L2.upd_same, L2.upd_upd, L2.cxOf, L2.gSub])
set_option hygiene false in
local macro_rules | `(tactic| walk_at "rds") => `(tactic| try simp only [L2.start, List.map_cons, List.map_nil, List.length_cons, List.length_nil, Nat.reduceAdd, Nat.reduceSub, Nat.reduceLT, Nat.reduceLeDiff, List.replicate_succ, List.replicate_zero, List.append_nil, List.nil_append, List.cons_append, List.set_cons_zero, List.set_cons_succ, List.getElem?_cons_zero, List.getElem?_cons_succ,
  Option.some.injEq, List.cons.injEq, and_true, true_and, and_assoc, reduceCtorEq, L2.V.int.injEq, L2.V.ref.injEq, L2.V.bl.injEq, L2.V.str.injEq, L2.V.ty.injEq, L2.HO.ins.injEq, L2.HO.lst.injEq, L2.HO.tup.injEq, L2.HO.dK.injEq, exists_eq_left', exists_eq_left, exists_eq_right, exists_eq', exists_eq, exists_and_left, exists_and_right, reduceIte, Bool.false_eq_true, Bool.not_true, Bool.not_false,
  L2.tSeq, L2.tIfS, L2.tRet, L2.tRetN, L2.tNext, L2.tAsg, L2.gName, L2.tVar, L2.tC, L2.tCons, L2.tNil, L2.tCB, L2.tOp, L2.tUn, L2.tTup, L2.tLst, L2.tB, L2.tOr, L2.tAnd, L2.tNot, L2.tAndV, L2.tOrV, L2.tNotV, L2.tIf, L2.tTest, L2.tChain, L2.rI, L2.rI0, L2.rU, L2.tDrop, L2.tNever, L2.tCall, L2.tMeth, L2.tMake, L2.rGcd, L2.tFld, L2.sFld, L2.sFldAug, Mx.sFldA, Mx.sFldAugA, L2.rAdd, L2.rSub, L2.rEq, L2.rNe, L2.tDGet, L2.tDIn, L2.tDNotIn, L2.sDPut,
  Mx.isi_int_bool, Mx.isi_int_int, Mx.isi_int_tuple, Mx.isi_int_list, Mx.isi_int_str, Mx.scal_int, Mx.scal_str, Mx.scal_bl, Mx.ofString_inj, Mx.ofString_beq, Mx.lk_cons, Mx.pf_nil, Mx.pf_cons, Mx.sz1, Mx.sz2, List.lookup_nil, String.reduceEq, decide_true, decide_false, decide_eq_true_eq, Int.natAbs_natCast, L2.upd_same, L2.upd_upd, L2.cxOf, L2.gSub, *])

section
variable {P : Program} {w : World} {K : PySem.W.Frag} {mg : Str → Option Value} {base : Heap}
/-! ### a fraction in lowest terms, by taking rests -/
theorem sc_law_share : FnScope ["_law_top", "_law_bottom", "_law_one", "_law_other"] ["_law_top", "_law_bottom"] (defScope s_law_share) := ⟨rfl, rfl, rfl, by decide +kernel, rfl, by decide +kernel, by decide +kernel⟩
def slot3 (σ : List (Option V)) : Nat := match σ[3]? with
  | some (some (V.int b)) => b.toNat
  | _ => 0
theorem ok_law_share {f : Addr} {fd : FuncData} (F : Fun K "_law_share" "_law_share" s_law_share f fd) (B : Blt mg) : FnOk P w K mg base CX0 1 f fd ["_law_top", "_law_bottom"] sp_ratio := by
  refine F.ok sc_law_share (fun vs H Q E h => ?_) (fun cdv A outer s H vs Q E hr h => ?_)
  · obtain ⟨t, b, rfl, _⟩ := h
    rfl
  · obtain ⟨t, b', rfl, h0', hb, k⟩ := h
    obtain ⟨b, rfl⟩ : ∃ b : Nat, b' = b := ⟨b'.toNat, by omega⟩
    have h0 : 0 < b := by omega
    rw [Int.natAbs_natCast] at hb
    rw [Int.toNat_natCast] at k
    have nd := sc_law_share.nd
    refine ⟨_, pss_cons (ps_par (i := 2) (j := 3) (by rfl) nd rfl rfl (by decide) rfl rfl (pa_cons (pe_callB call_abs (by rfl) B.abs PyProof.Rows.boot_abs (pa_cons (pv 0) pa_nil)) (pa_cons (pv 1) pa_nil)) (by rfl))
      (pss_cons (ps_while PassesOwn.never (pt_cmpR op_gt (pv 3) pe_int (nomark _)) (pss_one (ps_par (i := 2) (j := 3) (by rfl) nd rfl rfl (by decide) rfl rfl (pa_cons (pv 3) (pa_cons (pe_op op_mod (pv 2) (pv 3)) pa_nil)) (by rfl))))
      (pss_one (ps_ret (pe_tup (pa_cons (pe_op op_fdivW (pv 0) (pv 2)) (pa_cons (pe_op op_fdivW (pv 1) (pv 2)) pa_nil)))))), ?_⟩
    refine ⟨_, rfl, t, rfl, _, rfl, _, _, rfl, ?_⟩
    refine while_by (fun σ H' => H' = H ∧ ∃ x y : Nat, σ = [some (.int t), some (.int (b : Int)), some (.int (x : Int)), some (.int (y : Int))] ∧ Nat.gcd x y = Nat.gcd t.natAbs b ∧ (0 < x ∨ 0 < y)) (fun σ _ => slot3 σ) ⟨rfl, t.natAbs, b, ?_, rfl, .inr h0⟩ (fun σ H' h => ?_) (fun σ H' Q1 Q2 imp h => ?_)
    · have e : (if t < 0 then -t else t) = (t.natAbs : Int) := by
        split <;> omega
      rw [e]
      rfl
    · obtain ⟨rfl, x, y, rfl, hg, hp⟩ := h
      refine ⟨_, rfl, _, _, rfl, rfl, _, rfl, ?_⟩
      by_cases hy : (0 : Int) < (y : Int)
      · rw [decide_eq_true hy]
        simp only [reduceIte]
        refine ⟨_, rfl, _, rfl, _, rfl, _, _, rfl, rfl, hy, _, _, rfl, ⟨rfl, y, x % y, ?_, ?_, ?_⟩, ?_⟩
        · rfl
        · rw [Nat.gcd_comm, ← Nat.gcd_rec, Nat.gcd_comm]
          exact hg
        · exact .inl (by omega)
        · show (((x : Int) % (y : Int)).toNat) < ((y : Int)).toNat
          have : (x : Int) % (y : Int) < (y : Int) := Int.emod_lt_of_pos _ hy
          have : 0 ≤ (x : Int) % (y : Int) := Int.emod_nonneg _ (by omega)
          omega
      · rw [decide_eq_false hy]
        simp only [Bool.false_eq_true, reduceIte]
        have hy0 : y = 0 := by omega
        subst hy0
        rw [Nat.gcd_zero_right] at hg
        subst hg
        have hgp : 0 < Nat.gcd t.natAbs b := Nat.gcd_pos_of_pos_right _ h0
        have hgd : CDivW t ((Nat.gcd t.natAbs b : Nat) : Int) := wide_div (b := 9000) (by omega) (by rw [Int.natAbs_natCast]; exact Nat.lt_of_le_of_lt (Nat.gcd_le_right _ h0) hb) (by decide) (by decide)
        walk_at "rd"
        refine ⟨hgd, ⟨hgd.1, hgd.2⟩, fun p hp => k p _ hp (Stp.new hp) ?_⟩
        unfold frac
        rw [mk_num t b h0, mk_den t b h0]
        exact upd_same
    · obtain ⟨v, hv, i, j, e1, e2, c, ec, q⟩ := h
      exact ⟨v, hv, i, j, e1, e2, c, ec, imp _ _ q⟩
/-! ### numbers, paces, loudness -/
def sp_drawn (K : PySem.W.Frag) (lo hi : Int) : Sp := fun vs H Q _ => ∃ (r sc : Addr) (ns : List Int), vs = [.ref r] ∧ RowAt K H r sc ns ∧ ∀ v H', lo ≤ v → v ≤ hi → RowAt K H' r sc ns → Stp [r] H H' → Q (.int v) H'
theorem row_new {H : Hp} {r sc p : Addr} {ns : List Int} {o : HO} (h : RowAt K H r sc ns) (hp : H p = none) : RowAt K (upd H p o) r sc ns := h.st0 (Stp.new hp)
theorem sc_law_number : FnScope ["_law_row"] ["_law_row"] (defScope s_law_number) := ⟨rfl, rfl, rfl, by decide +kernel, rfl, by decide +kernel, by decide +kernel⟩
theorem ok_law_number {f : Addr} {fd : FuncData} (F : Fun K "_law_number" "_law_number" s_law_number f fd) (G : OwnF P w K mg base "_law_taken" 1 ["_law_row", "_law_many"] (sp_taken K)) : FnOk P w K mg base CX0 2 f fd ["_law_row"] (sp_drawn K (-999) 999) := by
  refine F.ok sc_law_number (fun vs H Q E h => ?_) (fun cdv A outer s H vs Q E hr h => ?_)
  · obtain ⟨r, sc, ns, rfl, _⟩ := h
    rfl
  · obtain ⟨r, sc, ns, rfl, hR, k⟩ := h
    refine ⟨_, pss_one (ps_ret (pe_ix ix_list (pe_lst (pa_cons (pe_op op_sub (p_call G hr (pa_cons (pv 0) (pa_cons pe_int pa_nil))) pe_int) (pa_cons (pe_op op_sub (p_call G hr (pa_cons (pv 0) (pa_cons pe_int pa_nil))) pe_int) pa_nil))) (p_call G hr (pa_cons (pv 0) (pa_cons pe_int pa_nil))) (fun _ _ => rfl))), ?_⟩
    walk_at "rd"
    refine ⟨r, sc, ns, 19, rfl, hR, by decide, fun a H1 a0 a1 hR1 s1 => ?_⟩
    walk_at "rd"
    refine ⟨r, sc, ns, 1999, rfl, hR1, by decide, fun b H2 b0 b1 hR2 s2 => ?_⟩
    walk_at "rd"
    intro p hp
    have s3 := Stp.new (o := .lst [.int (a - 9), .int (b - 999)]) hp
    refine ⟨r, sc, ns, 2, rfl, row_new hR2 hp, by decide, fun c H4 c0 c1 hR4 s4 => ?_⟩
    have hpr : p ≠ r := by
      obtain ⟨_, _, _, _, _, hr2, _⟩ := hR2
      exact (ne_of_none hr2 hp).symm
    have hl := s4.keep _ _ (upd_same (H := H2) (a := p) (o := .lst [.int (a - 9), .int (b - 999)])) (by simpa using hpr)
    have t4 := ((s1.trans s2).trans (s3.trans s4)).sub (G := [r]) (by simp)
    have hc : c = 0 ∨ c = 1 := by omega
    rcases hc with rfl | rfl
    · exact ixL (.inl (.inl hl)) (x := .int (a - 9)) rfl (k _ H4 (by omega) (by omega) hR4 t4)
    · exact ixL (.inl (.inl hl)) (x := .int (b - 999)) rfl (k _ H4 (by omega) (by omega) hR4 t4)
end
end Mx

namespace Mx
open PySem L2
set_option hygiene false in
local macro_rules | `(tactic| walk_at "rd") => `(tactic| try simp only [L2.start, List.map_cons, List.map_nil, List.length_cons, List.length_nil, Nat.reduceAdd, Nat.reduceSub, Nat.reduceLT, Nat.reduceLeDiff, List.replicate_succ, List.replicate_zero, List.append_nil, List.nil_append, List.cons_append, List.set_cons_zero, List.set_cons_succ, List.getElem?_cons_zero, List.getElem?_cons_succ,
  Option.some.injEq, List.cons.injEq, and_true, true_and, and_assoc, reduceCtorEq, L2.V.int.injEq, L2.V.ref.injEq, L2.V.bl.injEq, L2.V.str.injEq, L2.V.ty.injEq, L2.HO.ins.injEq, L2.HO.lst.injEq, L2.HO.tup.injEq, L2.HO.dK.injEq, exists_eq_left', exists_eq_left, exists_eq_right, exists_eq', exists_eq, exists_and_left, exists_and_right, reduceIte, Bool.false_eq_true, Bool.not_true, Bool.not_false,
  L2.tSeq, L2.tIfS, L2.tRet, L2.tRetN, L2.tNext, L2.tAsg, L2.gName, L2.tVar, L2.tC, L2.tCons, L2.tNil, L2.tCB, L2.tOp, L2.tUn, L2.tTup, L2.tLst, L2.tB, L2.tOr, L2.tAnd, L2.tNot, L2.tAndV, L2.tOrV, L2.tNotV, L2.tIf, L2.tTest, L2.tChain, L2.rI, L2.rI0, L2.rU, L2.tDrop, L2.tNever, L2.tCall, L2.tMeth, L2.tMake, L2.rGcd, L2.tFld, L2.sFld, L2.sFldAug, Mx.sFldA, Mx.sFldAugA, L2.rAdd, L2.rSub, L2.rEq, L2.rNe, L2.tDGet, L2.tDIn, L2.tDNotIn, L2.sDPut,
  Mx.isi_int_bool, Mx.isi_int_int, Mx.isi_int_tuple, Mx.isi_int_list, Mx.isi_int_str, Mx.scal_int, Mx.scal_str, Mx.scal_bl, Mx.ofString_inj, Mx.ofString_beq, Mx.lk_cons, Mx.pf_nil, Mx.pf_cons, Mx.sz1, Mx.sz2, List.lookup_nil, String.reduceEq, decide_true, decide_false, decide_eq_true_eq, Int.natAbs_natCast, L2.upd_same, L2.upd_upd, L2.cxOf, L2.gSub])
set_option hygiene false in
local macro_rules | `(tactic| walk_at "rds") => `(tactic| try simp only [L2.start, List.map_cons, List.map_nil, List.length_cons, List.length_nil, Nat.reduceAdd, Nat.reduceSub, Nat.reduceLT, Nat.reduceLeDiff, List.replicate_succ, List.replicate_zero, List.append_nil, List.nil_append, List.cons_append, List.set_cons_zero, List.set_cons_succ, List.getElem?_cons_zero, List.getElem?_cons_succ,
  Option.some.injEq, List.cons.injEq, and_true, true_and, and_assoc, reduceCtorEq, L2.V.int.injEq, L2.V.ref.injEq, L2.V.bl.injEq, L2.V.str.injEq, L2.V.ty.injEq, L2.HO.ins.injEq, L2.HO.lst.injEq, L2.HO.tup.injEq, L2.HO.dK.injEq, exists_eq_left', exists_eq_left, exists_eq_right, exists_eq', exists_eq, exists_and_left, exists_and_right, reduceIte, Bool.false_eq_true, Bool.not_true, Bool.not_false,
  L2.tSeq, L2.tIfS, L2.tRet, L2.tRetN, L2.tNext, L2.tAsg, L2.gName, L2.tVar, L2.tC, L2.tCons, L2.tNil, L2.tCB, L2.tOp, L2.tUn, L2.tTup, L2.tLst, L2.tB, L2.tOr, L2.tAnd, L2.tNot, L2.tAndV, L2.tOrV, L2.tNotV, L2.tIf, L2.tTest, L2.tChain, L2.rI, L2.rI0, L2.rU, L2.tDrop, L2.tNever, L2.tCall, L2.tMeth, L2.tMake, L2.rGcd, L2.tFld, L2.sFld, L2.sFldAug, Mx.sFldA, Mx.sFldAugA, L2.rAdd, L2.rSub, L2.rEq, L2.rNe, L2.tDGet, L2.tDIn, L2.tDNotIn, L2.sDPut,
  Mx.isi_int_bool, Mx.isi_int_int, Mx.isi_int_tuple, Mx.isi_int_list, Mx.isi_int_str, Mx.scal_int, Mx.scal_str, Mx.scal_bl, Mx.ofString_inj, Mx.ofString_beq, Mx.lk_cons, Mx.pf_nil, Mx.pf_cons, Mx.sz1, Mx.sz2, List.lookup_nil, String.reduceEq, decide_true, decide_false, decide_eq_true_eq, Int.natAbs_natCast, L2.upd_same, L2.upd_upd, L2.cxOf, L2.gSub, *])

section
variable {P : Program} {w : World} {K : PySem.W.Frag} {mg : Str → Option Value} {base : Heap}
theorem row_ne {H : Hp} {r sc p : Addr} {ns : List Int} (h : RowAt K H r sc ns) (hp : H p = none) : p ≠ r := by
  obtain ⟨_, _, _, _, _, hr2, _⟩ := h
  exact (ne_of_none hr2 hp).symm
def sp_law_pace (K : PySem.W.Frag) : Sp := fun vs H Q _ => ∃ (r sc : Addr) (ns : List Int), vs = [.ref r] ∧ RowAt K H r sc ns ∧ ∀ p H' pn pb, H p = none → 1 ≤ pn → pn ≤ 8 → 1 ≤ pb → pb ≤ 8 → RowAt K H' r sc ns → Stp [r] H H' → H' p = some (.tup [.int pn, .int pb]) → Q (.ref p) H'
theorem sc_law_pace : FnScope ["_law_row"] ["_law_row"] (defScope s_law_pace) := ⟨rfl, rfl, rfl, by decide +kernel, rfl, by decide +kernel, by decide +kernel⟩
theorem ok_law_pace {f : Addr} {fd : FuncData} (F : Fun K "_law_pace" "_law_pace" s_law_pace f fd) (G : OwnF P w K mg base "_law_taken" 1 ["_law_row", "_law_many"] (sp_taken K)) : FnOk P w K mg base CX0 2 f fd ["_law_row"] (sp_law_pace K) := by
  refine F.ok sc_law_pace (fun vs H Q E h => ?_) (fun cdv A outer s H vs Q E hr h => ?_)
  · obtain ⟨r, sc, ns, rfl, _⟩ := h
    rfl
  · obtain ⟨r, sc, ns, rfl, hR, k⟩ := h
    refine ⟨_, pss_one (ps_ret (pe_tup (pa_cons (pe_op op_add pe_int (p_call G hr (pa_cons (pv 0) (pa_cons (pe_ix ix_list (pe_lst (pa_cons pe_int (pa_cons pe_int pa_nil))) (p_call G hr (pa_cons (pv 0) (pa_cons pe_int pa_nil))) (fun _ _ => rfl)) pa_nil))))
      (pa_cons (pe_op op_add pe_int (p_call G hr (pa_cons (pv 0) (pa_cons (pe_ix ix_list (pe_lst (pa_cons pe_int (pa_cons pe_int pa_nil))) (p_call G hr (pa_cons (pv 0) (pa_cons pe_int pa_nil))) (fun _ _ => rfl)) pa_nil)))) pa_nil)))), ?_⟩
    walk_at "rd"
    intro p1 hp1
    have s1 := Stp.new (o := .lst [.int 2, .int 8]) hp1
    have hn1 := row_ne hR hp1
    refine ⟨r, sc, ns, 2, rfl, row_new hR hp1, by decide, fun c H2 c0 c1 hR2 s2 => ?_⟩
    have hl1 := s2.keep _ _ (upd_same (H := H) (a := p1) (o := .lst [.int 2, .int 8])) (by simpa using hn1)
    have hx : ∃ x : Int, 2 ≤ x ∧ x ≤ 8 ∧ atI [V.int 2, V.int 8] c = some (.int x) := by
      have hc : c = 0 ∨ c = 1 := by omega
      rcases hc with rfl | rfl
      · exact ⟨2, by decide, by decide, rfl⟩
      · exact ⟨8, by decide, by decide, rfl⟩
    obtain ⟨x, x0, x1, hx⟩ := hx
    refine ixL (.inl (.inl hl1)) hx ?_
    refine ⟨r, sc, ns, x, rfl, hR2, by omega, fun a H3 a0 a1 hR3 s3 => ?_⟩
    have t3 := ((s1.trans s2).trans s3).sub (G := [r]) (by simp)
    walk_at "rd"
    intro p4 hp4
    have s4 := Stp.new (o := .lst [.int 3, .int 8]) hp4
    have hn4 := row_ne hR3 hp4
    refine ⟨r, sc, ns, 2, rfl, row_new hR3 hp4, by decide, fun c2 H5 c20 c21 hR5 s5 => ?_⟩
    have hl4 := s5.keep _ _ (upd_same (H := H3) (a := p4) (o := .lst [.int 3, .int 8])) (by simpa using hn4)
    have hy : ∃ x : Int, 3 ≤ x ∧ x ≤ 8 ∧ atI [V.int 3, V.int 8] c2 = some (.int x) := by
      have hc : c2 = 0 ∨ c2 = 1 := by omega
      rcases hc with rfl | rfl
      · exact ⟨3, by decide, by decide, rfl⟩
      · exact ⟨8, by decide, by decide, rfl⟩
    obtain ⟨y, y0, y1, hy⟩ := hy
    refine ixL (.inl (.inl hl4)) hy ?_
    refine ⟨r, sc, ns, y, rfl, hR5, by omega, fun b H6 b0 b1 hR6 s6 => ?_⟩
    have t6 := ((t3.trans s4).trans (s5.trans s6)).sub (G := [r]) (by simp)
    walk_at "rd"
    intro p hp
    have hpn := row_ne hR6 hp
    exact k p _ (1 + a) (1 + b) (t6.free hp (by simpa using hpn)) (by omega) (by omega) (by omega) (by omega) (row_new hR6 hp) ((t6.trans (Stp.new hp)).sub (by simp)) upd_same
theorem sc_law_loud : FnScope ["_law_row"] ["_law_row"] (defScope s_law_loud) := ⟨rfl, rfl, rfl, by decide +kernel, rfl, by decide +kernel, by decide +kernel⟩
theorem ok_law_loud {f : Addr} {fd : FuncData} (F : Fun K "_law_loud" "_law_loud" s_law_loud f fd) (G : OwnF P w K mg base "_law_taken" 1 ["_law_row", "_law_many"] (sp_taken K)) : FnOk P w K mg base CX0 2 f fd ["_law_row"] (sp_drawn K 0 64) := by
  refine F.ok sc_law_loud (fun vs H Q E h => ?_) (fun cdv A outer s H vs Q E hr h => ?_)
  · obtain ⟨r, sc, ns, rfl, _⟩ := h
    rfl
  · obtain ⟨r, sc, ns, rfl, hR, k⟩ := h
    refine ⟨_, pss_one (ps_ret (pe_ix ix_list (pe_lst (pa_cons pe_int (pa_cons pe_int (pa_cons (p_call G hr (pa_cons (pv 0) (pa_cons pe_int pa_nil))) (pa_cons pe_int pa_nil))))) (p_call G hr (pa_cons (pv 0) (pa_cons pe_int pa_nil))) (fun _ _ => rfl))), ?_⟩
    walk_at "rd"
    refine ⟨r, sc, ns, 65, rfl, hR, by decide, fun a H1 a0 a1 hR1 s1 => ?_⟩
    walk_at "rd"
    refine ⟨by decide, fun p hp => ?_⟩
    have s2 := Stp.new (o := .lst [.int 64, .int 64, .int a, .int 32]) hp
    have hn := row_ne hR1 hp
    refine ⟨r, sc, ns, 4, rfl, row_new hR1 hp, by decide, fun c H3 c0 c1 hR3 s3 => ?_⟩
    have hl := s3.keep _ _ (upd_same (H := H1) (a := p) (o := .lst [.int 64, .int 64, .int a, .int 32])) (by simpa using hn)
    have t3 := (s1.trans (s2.trans s3)).sub (G := [r]) (by simp)
    have hx : ∃ x : Int, 0 ≤ x ∧ x ≤ 64 ∧ atI [V.int 64, V.int 64, V.int a, V.int 32] c = some (.int x) := by
      have hc : c = 0 ∨ c = 1 ∨ c = 2 ∨ c = 3 := by omega
      rcases hc with rfl | rfl | rfl | rfl
      · exact ⟨64, by decide, by decide, rfl⟩
      · exact ⟨64, by decide, by decide, rfl⟩
      · exact ⟨a, by omega, by omega, rfl⟩
      · exact ⟨32, by decide, by decide, rfl⟩
    obtain ⟨x, x0, x1, hx⟩ := hx
    exact ixL (.inl (.inl hl)) hx (k _ H3 x0 x1 hR3 t3)
/-! ### the same, and of the same kinds -/
def sp_alike_int : Sp := fun vs H Q _ => ∃ (a b : Int), vs = [.int a, .int b] ∧ Q (.bl (decide (a = b))) H
theorem sc_law_alike : FnScope ["_law_found", "_law_due", "_law_k"] ["_law_found", "_law_due"] (defScope s_law_alike) := ⟨rfl, rfl, rfl, by decide +kernel, rfl, by decide +kernel, by decide +kernel⟩
theorem ok_alike_int {f : Addr} {fd : FuncData} (F : Fun K "_law_alike" "_law_alike" s_law_alike f fd) (B : Blt mg) : FnOk P w K mg base CX0 1 f fd ["_law_found", "_law_due"] sp_alike_int := by
  refine F.ok sc_law_alike (fun vs H Q E h => ?_) (fun cdv A outer s H vs Q E hr h => ?_)
  · obtain ⟨a, b, rfl, _⟩ := h
    rfl
  · obtain ⟨a, b, rfl, k⟩ := h
    refine ⟨_, pss_cons (ps_if (PW.pt (pw_or (pt_val (b_isi B (pv 1) B.tuple PyProof.Rows.boot_tuple)) (pw_or1 (pt_val (b_isi B (pv 1) B.list PyProof.Rows.boot_list))))) pss_never pss_nil)
      (pss_cons (ps_if (PW.pt (pw_or (pt_cmpR op_isN (pv 1) pe_non (nomark _)) (pw_or1 (pt_cmpR op_isN (pv 0) pe_non (nomark _))))) pss_never pss_nil)
      (pss_cons (ps_if (PW.pt (pw_or (pt_val (b_isi B (pv 1) B.bool PyProof.Rows.boot_bool)) (pw_or1 (pt_val (b_isi B (pv 0) B.bool PyProof.Rows.boot_bool))))) pss_never pss_nil)
      (pss_cons (ps_if (pt_val (b_isi B (pv 1) B.str PyProof.Rows.boot_str)) pss_never pss_nil)
      (pss_one (ps_ret (pe_and (b_isi B (pv 0) B.int PyProof.Rows.boot_int) (pe_one (pe_cmpR op_eq (pv 0) (pv 1) (nomark _))))))))), ?_⟩
    walk_at "rd"
    exact k
def sp_alike_tup (K : PySem.W.Frag) : Sp := fun vs H Q _ => ∃ (a b : Addr) (xs ys : List Int), vs = [.ref a, .ref b] ∧ TupAt K H a (xs.map V.int) ∧ TupAt K H b (ys.map V.int) ∧ xs.length = ys.length ∧ ys.length ≤ 60 ∧ ∀ H', Stp [] H H' → Q (.bl (decide (xs = ys))) H'
theorem tyx_tup {H : Hp} {a : Addr} {xs : List V} (h : TupAt K H a xs) : TyX K H (.ref a) (.type "tuple") := by
  rcases h with h | h
  · exact .base (.tup h)
  · rcases h (fun _ => none) with (q | ⟨o, q⟩) | ⟨o, its, n, h1, h2, _⟩
    · cases q
    · cases q
    · exact .kTuple h1 h2
theorem isi_tupA {H : Hp} {Q : VK} {a : Addr} {xs : List V} {T : String} {b : Bool} (h : TupAt K H a xs) (hb : kitB "tuple" T = some b) (q : Q (.bl b) H) : rIsi K [.ref a, .ty T] H Q := ⟨_, _, _, _, _, rfl, .ty _, tyx_tup h, kit_ty hb, q⟩
theorem dp_ints {H : Hp} : ∀ (ns : List Int), DpAll K H (ns.map V.int) (ns.map PyData.int)
  | [] => .nil
  | n :: r => .cons (.int n) (dp_ints r)
theorem eqv_nil (ns : List Int) : PyData.eqv (.list (ns.map PyData.int)) (.list []) = ns.isEmpty := by
  cases ns with
  | nil => rfl
  | cons n r => rfl
def diffs (xs ys : List Int) (i : Nat) : List Int := ((List.range i).filter fun j => decide (xs[j]? ≠ ys[j]?)).map fun j => ((j : Nat) : Int)
theorem diffs_succ (xs ys : List Int) (i : Nat) : diffs xs ys (i + 1) = diffs xs ys i ++ (if xs[i]? ≠ ys[i]? then [(i : Int)] else []) := by
  unfold diffs
  rw [List.range_succ, List.filter_append, List.map_append]
  congr 1
  by_cases h : xs[i]? ≠ ys[i]?
  · rw [if_pos h, List.filter_cons_of_pos (by simpa using h)]
    rfl
  · rw [if_neg h, List.filter_cons_of_neg (by simpa using h)]
    rfl
theorem diffs_len (xs ys : List Int) (i : Nat) : (diffs xs ys i).length ≤ i := by
  unfold diffs
  rw [List.length_map]
  refine Nat.le_trans (List.length_filter_le _ _) ?_
  rw [List.length_range]
  exact Nat.le_refl _
theorem diffs_nil {xs ys : List Int} (h : xs.length = ys.length) : (diffs xs ys ys.length).isEmpty = decide (xs = ys) := by
  by_cases e : xs = ys
  · subst e
    simp [diffs]
  · rw [decide_eq_false e]
    unfold diffs
    cases q : ((List.range ys.length).filter fun j => decide (xs[j]? ≠ ys[j]?)) with
    | cons a r => rfl
    | nil =>
      exfalso
      apply e
      apply List.ext_getElem? 
      intro j
      by_cases hj : j < ys.length
      · have := List.filter_eq_nil_iff.mp q j (List.mem_range.mpr hj)
        simpa using this
      · rw [List.getElem?_eq_none (by omega), List.getElem?_eq_none (by omega)]
theorem ok_alike_tup {f : Addr} {fd : FuncData} (F : Fun K "_law_alike" "_law_alike" s_law_alike f fd) (B : Blt mg) (G : OwnF P w K mg base "_law_alike" 1 ["_law_found", "_law_due"] sp_alike_int) : FnOk P w K mg base CX0 2 f fd ["_law_found", "_law_due"] (sp_alike_tup K) := by
  refine F.ok sc_law_alike (fun vs H Q E h => ?_) (fun cdv A outer s H vs Q E hr h => ?_)
  · obtain ⟨a, b, xs, ys, rfl, _⟩ := h
    rfl
  · obtain ⟨a, b, xs, ys, rfl, ha, hb, hl, hlen, k⟩ := h
    have hu := hu_of hr
    have hu64 : (A.deeper (PyProof.Rows.envOfC "_law_alike" (defScope s_law_alike) s.heap.objs.size f cdv)).units + 64 < cLine := by
      have := hr.un
      omega
    refine ⟨_, pss_cons (ps_if (PW.pt (pw_or (pt_val (b_isi B (pv 1) B.tuple PyProof.Rows.boot_tuple)) (pw_or1 (pt_val (b_isi B (pv 1) B.list PyProof.Rows.boot_list)))))
        (pss_cons (ps_if (PW.pt (pw_or (pt_cmpR op_ne (b_isi B (pv 0) B.tuple PyProof.Rows.boot_tuple) (b_isi B (pv 1) B.tuple PyProof.Rows.boot_tuple) (nomark _)) (pw_or1 (pt_not (pt_val (pe_callB call_isiT (by rfl) B.isi PyProof.Rows.boot_isinstance (pa_cons (pv 0) (pa_cons (pe_tup (pa_cons (pe_bltn (v := .ty "tuple") (by rfl) B.tuple PyProof.Rows.boot_tuple rfl) (pa_cons (pe_bltn (v := .ty "list") (by rfl) B.list PyProof.Rows.boot_list rfl) pa_nil))) pa_nil)))))))) pss_never pss_nil)
        (pss_cons (ps_if (pt_cmpR op_ne (pe_callB call_len_seq (by rfl) B.len PySem.boot_len (pa_cons (pv 0) pa_nil)) (pe_callB call_len_seq (by rfl) B.len PySem.boot_len (pa_cons (pv 1) pa_nil)) (nomark _)) pss_never pss_nil)
        (pss_one (ps_ret (pe_cmpR (op_eqD hu64) (pe_lc (own := [("_law_k", 2)]) (te := tVar 2) (tt := tNot (tB (tCall sp_alike_int [] E0 (tCons (tOp (rIxT K) (tVar 0) (tVar 2)) (tCons (tOp (rIxT K) (tVar 1) (tVar 2)) tNil)))))
            rfl sc_law_alike.nd (pi_range1 (by rfl) B.range (pa_cons (pe_callB call_len_seq (by rfl) B.len PySem.boot_len (pa_cons (pv 1) pa_nil)) pa_nil)) (blkOk_by (N := ["_law_found", "_law_due", "_law_k"]) (sc := defScope s_law_alike) (by decide +kernel))
            (fun _ _ _ _ _ => pg_name (i := 2) sc_law_alike.nd rfl (.inl rfl)) (fun _ _ _ _ _ => pts_one (pt_not (pt_val (p_call G hr (pa_cons (pe_ix ix_tup (pv 0) (pv 2) (fun _ _ => rfl)) (pa_cons (pe_ix ix_tup (pv 1) (pv 2) (fun _ _ => rfl)) pa_nil)))))) (fun _ _ _ _ _ => pv 2)) (pe_lst pa_nil) (nomark _)))))) pss_nil)
      pss_never, ?_⟩
    walk_at "rd"
    refine isi_tupA hb (b := true) (by decide +kernel) ?_
    walk_at "rd"
    refine isi_tupA ha (b := true) (by decide +kernel) (isi_tupA hb (b := true) (by decide +kernel) ?_)
    walk_at "rd"
    intro T hT
    have s1 := Stp.new (o := .tup [.ty "tuple", .ty "list"]) hT
    refine ⟨.ref a, T, _, _, _, true, rfl, upd_same, .cons (.ty _) (.cons (.ty _) .nil), tyx_tup (ha.st s1), kitAny_cons (b := true) (kit_ty (by decide +kernel)) (fun z => nomatch z) (fun _ => rfl), ?_⟩
    have ha1 := ha.st s1
    have hb1 := hb.st s1
    generalize upd H T (.tup [.ty "tuple", .ty "list"]) = H1 at *
    walk_at "rd"
    refine ⟨_, .inr ha1.sq, _, .inr hb1.sq, ?_⟩
    walk_at "rd"
    rw [decide_eq_true (show (((xs.map V.int).length : Nat) : Int) = (((ys.map V.int).length : Nat) : Int) by rw [List.length_map, List.length_map, hl])]
    refine iteF ?_
    have hn : (((ys.map V.int).length : Nat) : Int).toNat = ys.length := by rw [List.length_map]; omega
    have hn2 : (((ys.map V.int).length : Nat) : Int) ≤ 60 := by rw [List.length_map]; omega
    refine ⟨_, rfl, b, rfl, _, .inr hb1.sq, _, rfl, by omega, by omega, ?_⟩
    rw [hn]
    intro D hD
    refine lc_range (lo := 0) (n := ys.length) (fun i H' => Stp [] H1 H' ∧ H' D = some (.lst ((diffs xs ys i).map V.int))) ⟨Stp.new hD, upd_same⟩ (fun i H' hi h => ?_) (fun H' h => ?_)
    · obtain ⟨s2, hl2⟩ := h
      have ha2 := ha1.st s2
      have hb2 := hb1.st s2
      have hx : xs[i]? = some (xs[i]'(by omega)) := List.getElem?_eq_getElem _
      have hy : ys[i]? = some (ys[i]'hi) := List.getElem?_eq_getElem _
      have atx : ∀ (zs : List Int) (hz : i < zs.length), atI (zs.map V.int) (0 + (i : Int)) = some (.int (zs[i]'hz)) := by
        intro zs hz
        unfold atI ixN
        rw [if_pos (by omega), List.length_map, if_pos (by omega)]
        show (zs.map V.int)[(0 + (i : Int)).toNat]? = _
        rw [show (0 + (i : Int)).toNat = i by omega, List.getElem?_map, List.getElem?_eq_getElem hz]
        rfl
      refine ⟨wipe1, ⟨_, rfl, _, rfl, a, _, _, _, rfl, rfl, ha2.sq, atx xs (by omega), _, rfl, _, rfl, b, _, _, _, rfl, rfl, hb2.sq, atx ys hi, _, _, rfl, _, rfl, ?_⟩⟩
      have hds := diffs_succ xs ys i
      rw [hx, hy] at hds
      by_cases e : xs[i]'(by omega) = ys[i]'hi
      · rw [decide_eq_true e]
        rw [if_neg (by rw [e]; simp), List.append_nil] at hds
        refine iteF ?_
        rw [hds]
        exact ⟨s2, hl2⟩
      · rw [decide_eq_false e]
        rw [if_pos (by simpa using e)] at hds
        refine iteT ⟨_, rfl, _, hl2, ?_, ?_, ?_⟩
        · rw [List.length_map]
          have := diffs_len xs ys i
          exact Nat.lt_of_le_of_lt (show _ ≤ 100 by omega) (by decide)
        · exact stp_acc s2 hD (by rw [hl2]; intro ys z; cases z)
        · rw [upd_same, hds, List.map_append]
          congr 3
          show V.int (0 + (i : Int)) :: [] = _
          rw [Int.zero_add]
          rfl
    · obtain ⟨s2, hl2⟩ := h
      refine ⟨Nat.zero_le _, fun p hp => ?_⟩
      have s3 := Stp.new (o := .lst []) hp
      refine ⟨_, _, .lst (.inl (.inl (s3.keep _ _ hl2 (by simp)))) (dp_ints _), .lst (.inl (.inl upd_same)) .nil, ?_, rfl, ?_⟩
      · exact PySem.W.ke_shaped_ints _
      · rw [eqv_nil, diffs_nil hl]
        exact k _ (s1.trans (s2.trans s3))
end
end Mx

namespace Mx
open PySem L2
set_option hygiene false in
local macro_rules | `(tactic| walk_at "rd") => `(tactic| try simp only [L2.start, List.map_cons, List.map_nil, List.length_cons, List.length_nil, Nat.reduceAdd, Nat.reduceSub, Nat.reduceLT, Nat.reduceLeDiff, List.replicate_succ, List.replicate_zero, List.append_nil, List.nil_append, List.cons_append, List.set_cons_zero, List.set_cons_succ, List.getElem?_cons_zero, List.getElem?_cons_succ,
  Option.some.injEq, List.cons.injEq, and_true, true_and, and_assoc, reduceCtorEq, L2.V.int.injEq, L2.V.ref.injEq, L2.V.bl.injEq, L2.V.str.injEq, L2.V.ty.injEq, L2.HO.ins.injEq, L2.HO.lst.injEq, L2.HO.tup.injEq, L2.HO.dK.injEq, exists_eq_left', exists_eq_left, exists_eq_right, exists_eq', exists_eq, exists_and_left, exists_and_right, reduceIte, Bool.false_eq_true, Bool.not_true, Bool.not_false,
  L2.tSeq, L2.tIfS, L2.tRet, L2.tRetN, L2.tNext, L2.tAsg, L2.gName, L2.tVar, L2.tC, L2.tCons, L2.tNil, L2.tCB, L2.tOp, L2.tUn, L2.tTup, L2.tLst, L2.tB, L2.tOr, L2.tAnd, L2.tNot, L2.tAndV, L2.tOrV, L2.tNotV, L2.tIf, L2.tTest, L2.tChain, L2.rI, L2.rI0, L2.rU, L2.tDrop, L2.tNever, L2.tCall, L2.tMeth, L2.tMake, L2.rGcd, L2.tFld, L2.sFld, L2.sFldAug, Mx.sFldA, Mx.sFldAugA, L2.rAdd, L2.rSub, L2.rEq, L2.rNe, L2.tDGet, L2.tDIn, L2.tDNotIn, L2.sDPut,
  Mx.isi_int_bool, Mx.isi_int_int, Mx.isi_int_tuple, Mx.isi_int_list, Mx.isi_int_str, Mx.scal_int, Mx.scal_str, Mx.scal_bl, Mx.ofString_inj, Mx.ofString_beq, Mx.lk_cons, Mx.pf_nil, Mx.pf_cons, Mx.sz1, Mx.sz2, List.lookup_nil, String.reduceEq, decide_true, decide_false, decide_eq_true_eq, Int.natAbs_natCast, L2.upd_same, L2.upd_upd, L2.cxOf, L2.gSub])
set_option hygiene false in
local macro_rules | `(tactic| walk_at "rds") => `(tactic| try simp only [L2.start, List.map_cons, List.map_nil, List.length_cons, List.length_nil, Nat.reduceAdd, Nat.reduceSub, Nat.reduceLT, Nat.reduceLeDiff, List.replicate_succ, List.replicate_zero, List.append_nil, List.nil_append, List.cons_append, List.set_cons_zero, List.set_cons_succ, List.getElem?_cons_zero, List.getElem?_cons_succ,
  Option.some.injEq, List.cons.injEq, and_true, true_and, and_assoc, reduceCtorEq, L2.V.int.injEq, L2.V.ref.injEq, L2.V.bl.injEq, L2.V.str.injEq, L2.V.ty.injEq, L2.HO.ins.injEq, L2.HO.lst.injEq, L2.HO.tup.injEq, L2.HO.dK.injEq, exists_eq_left', exists_eq_left, exists_eq_right, exists_eq', exists_eq, exists_and_left, exists_and_right, reduceIte, Bool.false_eq_true, Bool.not_true, Bool.not_false,
  L2.tSeq, L2.tIfS, L2.tRet, L2.tRetN, L2.tNext, L2.tAsg, L2.gName, L2.tVar, L2.tC, L2.tCons, L2.tNil, L2.tCB, L2.tOp, L2.tUn, L2.tTup, L2.tLst, L2.tB, L2.tOr, L2.tAnd, L2.tNot, L2.tAndV, L2.tOrV, L2.tNotV, L2.tIf, L2.tTest, L2.tChain, L2.rI, L2.rI0, L2.rU, L2.tDrop, L2.tNever, L2.tCall, L2.tMeth, L2.tMake, L2.rGcd, L2.tFld, L2.sFld, L2.sFldAug, Mx.sFldA, Mx.sFldAugA, L2.rAdd, L2.rSub, L2.rEq, L2.rNe, L2.tDGet, L2.tDIn, L2.tDNotIn, L2.sDPut,
  Mx.isi_int_bool, Mx.isi_int_int, Mx.isi_int_tuple, Mx.isi_int_list, Mx.isi_int_str, Mx.scal_int, Mx.scal_str, Mx.scal_bl, Mx.ofString_inj, Mx.ofString_beq, Mx.lk_cons, Mx.pf_nil, Mx.pf_cons, Mx.sz1, Mx.sz2, List.lookup_nil, String.reduceEq, decide_true, decide_false, decide_eq_true_eq, Int.natAbs_natCast, L2.upd_same, L2.upd_upd, L2.cxOf, L2.gSub, *])

section
variable {P : Program} {w : World} {K : PySem.W.Frag} {mg : Str → Option Value} {base : Heap}
/-! ### the same at every place, however deep -/
def EqB (v w : V) : Prop := (∃ i, v = .int i ∧ w = .int i) ∨ (∃ x, PyData.strOk x = true ∧ v = .str x ∧ w = .str x) ∨ (v = .non ∧ w = .non)
def EqT (K : PySem.W.Frag) (H : Hp) : Nat → V → V → Prop
  | 0, v, w => EqB v w
  | n + 1, v, w => EqB v w ∨ ∃ (a b : Addr) (xs ys : List V), v = .ref a ∧ w = .ref b ∧ (TupAt K H a xs ∧ TupAt K H b ys ∨ H a = some (.lst xs) ∧ H b = some (.lst ys)) ∧ xs.length ≤ 100000 ∧ Paired (EqT K H n) xs ys
abbrev EqS (K : PySem.W.Frag) (H : Hp) (n : Nat) := Paired (EqT K H n)
theorem pr_map {α β : Type} {R S : α → β → Prop} (f : ∀ a b, R a b → S a b) : ∀ {xs : List α} {ys : List β}, Paired R xs ys → Paired S xs ys
  | _, _, .nil => .nil
  | _, _, .cons h r => .cons (f _ _ h) (pr_map f r)
theorem EqT.stF {F : List Addr} {H H' : Hp} (s : Stp F H H') (hF : ∀ b ∈ F, ∀ xs, H b ≠ some (.lst xs)) : ∀ {n : Nat} {v w : V}, EqT K H n v w → EqT K H' n v w
  | 0, _, _, h => h
  | n + 1, v, w, h => by
    rcases h with h | ⟨a, b, xs, ys, e1, e2, h, hl, hp⟩
    · exact .inl h
    · refine .inr ⟨a, b, xs, ys, e1, e2, ?_, hl, pr_map (fun _ _ q => EqT.stF s hF q) hp⟩
      rcases h with ⟨h1, h2⟩ | ⟨h1, h2⟩
      · exact .inl ⟨h1.st s, h2.st s⟩
      · exact .inr ⟨s.keep _ _ h1 fun z => hF _ z _ h1, s.keep _ _ h2 fun z => hF _ z _ h2⟩
theorem EqT.st {H H' : Hp} {n : Nat} {v w : V} (h : EqT K H n v w) (s : Stp [] H H') : EqT K H' n v w := h.stF s (fun _ z => nomatch z)
theorem EqS.st {H H' : Hp} {n : Nat} {xs ys : List V} (h : Paired (EqT K H n) xs ys) (s : Stp [] H H') : Paired (EqT K H' n) xs ys := pr_map (fun _ _ q => q.st s) h
theorem EqT.up {H : Hp} : ∀ {n : Nat} {v w : V}, EqT K H n v w → EqT K H (n + 1) v w
  | 0, _, _, h => .inl h
  | n + 1, v, w, h => by
    rcases h with h | ⟨a, b, xs, ys, e1, e2, h, hl, hp⟩
    · exact .inl h
    · exact .inr ⟨a, b, xs, ys, e1, e2, h, hl, pr_map (fun _ _ q => q.up) hp⟩
theorem pr_get {α β : Type} {R : α → β → Prop} : ∀ {xs : List α} {ys : List β}, Paired R xs ys → ∀ i, i < xs.length → i < ys.length → ∃ x y, xs[i]? = some x ∧ ys[i]? = some y ∧ R x y
  | _, _, .nil, _, h, _ => absurd h (Nat.not_lt_zero _)
  | _, _, .cons h _, 0, _, _ => ⟨_, _, rfl, rfl, h⟩
  | _, _, .cons _ r, i + 1, h1, h2 => by
    obtain ⟨x, y, e1, e2, q⟩ := pr_get r i (Nat.lt_of_succ_lt_succ h1) (Nat.lt_of_succ_lt_succ h2)
    exact ⟨x, y, e1, e2, q⟩
theorem at_pos {xs : List V} {i : Nat} {x : V} (h : xs[i]? = some x) : atI xs (0 + (i : Int)) = some x := by
  obtain ⟨hl, _⟩ := List.getElem?_eq_some_iff.mp h
  unfold atI ixN
  rw [if_pos (by omega), if_pos (by omega)]
  show xs[(0 + (i : Int)).toNat]? = _
  rw [show (0 + (i : Int)).toNat = i by omega]
  exact h
theorem isi_lstA {H : Hp} {Q : VK} {a : Addr} {xs : List V} {T : String} {b : Bool} (h : H a = some (.lst xs)) (hb : kitB "list" T = some b) (q : Q (.bl b) H) : rIsi K [.ref a, .ty T] H Q := ⟨_, _, _, _, _, rfl, .ty _, .base (.lst h), kit_ty hb, q⟩
theorem isi_strA {H : Hp} {Q : VK} {x : Str} {T : String} {b : Bool} (hb : kitB "str" T = some b) (q : Q (.bl b) H) : rIsi K [.str x, .ty T] H Q := ⟨_, _, _, _, _, rfl, .ty _, .base (.str x), kit_ty hb, q⟩
theorem isi_nonA {H : Hp} {Q : VK} {T : String} {b : Bool} (hb : kitB "NoneType" T = some b) (q : Q (.bl b) H) : rIsi K [.non, .ty T] H Q := ⟨_, _, _, _, _, rfl, .ty _, .base .non, kit_ty hb, q⟩
def sp_eq (K : PySem.W.Frag) (n : Nat) : Sp := fun vs H Q _ => ∃ v w, vs = [v, w] ∧ EqT K H n v w ∧ ∀ H', Stp [] H H' → Q (.bl true) H'
theorem ok_alike_deep {f : Addr} {fd : FuncData} (F : Fun K "_law_alike" "_law_alike" s_law_alike f fd) (B : Blt mg) (hm : mg "_law_alike" = some (.ref f)) (hk : PySem.W.keepIn K (.ref f) = true) (hb : Binds K fd ["_law_found", "_law_due"] []) :
    ∀ n, FnOk P w K mg base CX0 (n + 1) f fd ["_law_found", "_law_due"] (sp_eq K n)
  | 0 => by
    refine F.ok sc_law_alike (fun vs H Q E h => ?_) (fun cdv A outer s H vs Q E hr h => ?_)
    · obtain ⟨v, w', rfl, _⟩ := h
      rfl
    obtain ⟨v, w', rfl, h, k⟩ := h
    rcases h with ⟨i, rfl, rfl⟩ | ⟨x, hx, rfl, rfl⟩ | ⟨rfl, rfl⟩
    · refine ⟨_, pss_cons (ps_if (PW.pt (pw_or (pt_val (b_isi B (pv 1) B.tuple PyProof.Rows.boot_tuple)) (pw_or1 (pt_val (b_isi B (pv 1) B.list PyProof.Rows.boot_list))))) pss_never pss_nil)
      (pss_cons (ps_if (PW.pt (pw_or (pt_cmpR op_isN (pv 1) pe_non (nomark _)) (pw_or1 (pt_cmpR op_isN (pv 0) pe_non (nomark _))))) (pss_one (ps_ret (pe_and (pe_cmpR op_isN (pv 1) pe_non (nomark _)) (pe_one (pe_cmpR op_isN (pv 0) pe_non (nomark _)))))) pss_nil)
      (pss_cons (ps_if (PW.pt (pw_or (pt_val (b_isi B (pv 1) B.bool PyProof.Rows.boot_bool)) (pw_or1 (pt_val (b_isi B (pv 0) B.bool PyProof.Rows.boot_bool))))) pss_never pss_nil)
      (pss_cons (ps_if (pt_val (b_isi B (pv 1) B.str PyProof.Rows.boot_str)) (pss_one (ps_ret (pe_and (b_isi B (pv 0) B.str PyProof.Rows.boot_str) (pe_one (pe_cmpR op_eq (pv 0) (pv 1) (nomark _)))))) pss_nil)
      (pss_one (ps_ret (pe_and (b_isi B (pv 0) B.int PyProof.Rows.boot_int) (pe_one (pe_cmpR op_eq (pv 0) (pv 1) (nomark _))))))))), ?_⟩
      walk_at "rd"
      exact k _ Stp.refl
    · refine ⟨_, pss_cons (ps_if (PW.pt (pw_or (pt_val (b_isi B (pv 1) B.tuple PyProof.Rows.boot_tuple)) (pw_or1 (pt_val (b_isi B (pv 1) B.list PyProof.Rows.boot_list))))) pss_never pss_nil)
      (pss_cons (ps_if (PW.pt (pw_or (pt_cmpR op_isN (pv 1) pe_non (nomark _)) (pw_or1 (pt_cmpR op_isN (pv 0) pe_non (nomark _))))) (pss_one (ps_ret (pe_and (pe_cmpR op_isN (pv 1) pe_non (nomark _)) (pe_one (pe_cmpR op_isN (pv 0) pe_non (nomark _)))))) pss_nil)
      (pss_cons (ps_if (PW.pt (pw_or (pt_val (b_isi B (pv 1) B.bool PyProof.Rows.boot_bool)) (pw_or1 (pt_val (b_isi B (pv 0) B.bool PyProof.Rows.boot_bool))))) pss_never pss_nil)
      (pss_cons (ps_if (pt_val (b_isi B (pv 1) B.str PyProof.Rows.boot_str)) (pss_one (ps_ret (pe_and (b_isi B (pv 0) B.str PyProof.Rows.boot_str) (pe_one (pe_cmpR op_eq (pv 0) (pv 1) (nomark _)))))) pss_nil)
      (pss_one (ps_ret (pe_and (b_isi B (pv 0) B.int PyProof.Rows.boot_int) (pe_one (pe_cmpR op_eq (pv 0) (pv 1) (nomark _))))))))), ?_⟩
      walk_at "rd"
      refine isi_strA (b := false) (by decide +kernel) ?_
      walk_at "rd"
      refine isi_strA (b := false) (by decide +kernel) ?_
      walk_at "rd"
      refine isi_strA (b := false) (by decide +kernel) ?_
      walk_at "rd"
      refine isi_strA (b := false) (by decide +kernel) ?_
      walk_at "rd"
      refine isi_strA (b := true) (by decide +kernel) ?_
      walk_at "rd"
      refine isi_strA (b := true) (by decide +kernel) ?_
      walk_at "rd"
      exact k _ Stp.refl
    · refine ⟨_, pss_cons (ps_if (PW.pt (pw_or (pt_val (b_isi B (pv 1) B.tuple PyProof.Rows.boot_tuple)) (pw_or1 (pt_val (b_isi B (pv 1) B.list PyProof.Rows.boot_list))))) pss_never pss_nil)
      (pss_cons (ps_if (PW.pt (pw_or (pt_cmpR op_isN (pv 1) pe_non (nomark _)) (pw_or1 (pt_cmpR op_isN (pv 0) pe_non (nomark _))))) (pss_one (ps_ret (pe_and (pe_cmpR op_isN (pv 1) pe_non (nomark _)) (pe_one (pe_cmpR op_isN (pv 0) pe_non (nomark _)))))) pss_nil)
      (pss_cons (ps_if (PW.pt (pw_or (pt_val (b_isi B (pv 1) B.bool PyProof.Rows.boot_bool)) (pw_or1 (pt_val (b_isi B (pv 0) B.bool PyProof.Rows.boot_bool))))) pss_never pss_nil)
      (pss_cons (ps_if (pt_val (b_isi B (pv 1) B.str PyProof.Rows.boot_str)) (pss_one (ps_ret (pe_and (b_isi B (pv 0) B.str PyProof.Rows.boot_str) (pe_one (pe_cmpR op_eq (pv 0) (pv 1) (nomark _)))))) pss_nil)
      (pss_one (ps_ret (pe_and (b_isi B (pv 0) B.int PyProof.Rows.boot_int) (pe_one (pe_cmpR op_eq (pv 0) (pv 1) (nomark _))))))))), ?_⟩
      walk_at "rd"
      refine isi_nonA (b := false) (by decide +kernel) ?_
      walk_at "rd"
      refine isi_nonA (b := false) (by decide +kernel) ?_
      walk_at "rd"
      exact k _ Stp.refl
  | n + 1 => by
    have G : OwnF P w K mg base "_law_alike" (n + 1) ["_law_found", "_law_due"] (sp_eq K n) := ⟨f, fd, ok_alike_deep F B hm hk hb n, hm, hk, hb⟩
    refine F.ok sc_law_alike (fun vs H Q E h => ?_) (fun cdv A outer s H vs Q E hr h => ?_)
    · obtain ⟨v, w', rfl, _⟩ := h
      rfl
    have hu64 : (A.deeper (PyProof.Rows.envOfC "_law_alike" (defScope s_law_alike) s.heap.objs.size f cdv)).units + 64 < cLine := by
      have := hr.un
      omega
    obtain ⟨v, w', rfl, h, k⟩ := h
    rcases h with h | ⟨a, b, xs, ys, rfl, rfl, ⟨ha, hb⟩ | ⟨ha, hb⟩, hlen, hp⟩
    rotate_left
    · refine ⟨_, pss_cons (ps_if (PW.pt (pw_or (pt_val (b_isi B (pv 1) B.tuple PyProof.Rows.boot_tuple)) (pw_or1 (pt_val (b_isi B (pv 1) B.list PyProof.Rows.boot_list))))) (pss_cons (ps_if (PW.pt (pw_or (pt_cmpR op_ne (b_isi B (pv 0) B.tuple PyProof.Rows.boot_tuple) (b_isi B (pv 1) B.tuple PyProof.Rows.boot_tuple) (nomark _)) (pw_or1 (pt_not (pt_val (pe_callB call_isiT (by rfl) B.isi PyProof.Rows.boot_isinstance (pa_cons (pv 0) (pa_cons (pe_tup (pa_cons (pe_bltn (v := .ty "tuple") (by rfl) B.tuple PyProof.Rows.boot_tuple rfl) (pa_cons (pe_bltn (v := .ty "list") (by rfl) B.list PyProof.Rows.boot_list rfl) pa_nil))) pa_nil)))))))) pss_never pss_nil)
          (pss_cons (ps_if (pt_cmpR op_ne (pe_callB call_len_seq (by rfl) B.len PySem.boot_len (pa_cons (pv 0) pa_nil)) (pe_callB call_len_seq (by rfl) B.len PySem.boot_len (pa_cons (pv 1) pa_nil)) (nomark _)) pss_never pss_nil)
          (pss_one (ps_ret (pe_cmpR (op_eqD hu64) (pe_lc (own := [("_law_k", 2)]) (te := tVar 2) (tt := tNot (tB (tCall (sp_eq K n) [] E0 (tCons (tOp (rIxT K) (tVar 0) (tVar 2)) (tCons (tOp (rIxT K) (tVar 1) (tVar 2)) tNil)))))
              rfl sc_law_alike.nd (pi_range1 (by rfl) B.range (pa_cons (pe_callB call_len_seq (by rfl) B.len PySem.boot_len (pa_cons (pv 1) pa_nil)) pa_nil)) (blkOk_by (N := ["_law_found", "_law_due", "_law_k"]) (sc := defScope s_law_alike) (by decide +kernel))
              (fun _ _ _ _ _ => pg_name (i := 2) sc_law_alike.nd rfl (.inl rfl)) (fun _ _ _ _ _ => pts_one (pt_not (pt_val (p_call G hr (pa_cons (pe_ix ix_tup (pv 0) (pv 2) (fun _ _ => rfl)) (pa_cons (pe_ix ix_tup (pv 1) (pv 2) (fun _ _ => rfl)) pa_nil)))))) (fun _ _ _ _ _ => pv 2)) (pe_lst pa_nil) (nomark _)))))) pss_nil)
        pss_never, ?_⟩
      walk_at "rd"
      refine isi_tupA hb (b := true) (by decide +kernel) ?_
      walk_at "rd"
      refine isi_tupA ha (b := true) (by decide +kernel) (isi_tupA hb (b := true) (by decide +kernel) ?_)
      walk_at "rd"
      intro T hT
      have s1 := Stp.new (o := .tup [.ty "tuple", .ty "list"]) hT
      refine ⟨.ref a, T, _, _, _, true, rfl, upd_same, .cons (.ty _) (.cons (.ty _) .nil), tyx_tup (ha.st s1), kitAny_cons (b := true) (kit_ty (by decide +kernel)) (fun z => nomatch z) (fun _ => rfl), ?_⟩
      have ha1 := ha.st s1
      have hb1 := hb.st s1
      have hp1 := EqS.st hp s1
      generalize upd H T (.tup [.ty "tuple", .ty "list"]) = H1 at *
      walk_at "rd"
      refine ⟨_, .inr ha1.sq, _, .inr hb1.sq, ?_⟩
      walk_at "rd"
      have hl := hp.length
      rw [decide_eq_true (show ((xs.length : Nat) : Int) = ((ys.length : Nat) : Int) by rw [hl])]
      refine iteF ?_
      refine ⟨_, rfl, b, rfl, _, .inr hb1.sq, _, rfl, by omega, by omega, ?_⟩
      intro D hD
      refine lc_range (lo := 0) (n := ((ys.length : Nat) : Int).toNat) (fun i H' => Stp [] H1 H' ∧ H' D = some (.lst [])) ⟨Stp.new hD, upd_same⟩ (fun i H' hi h => ?_) (fun H' h => ?_)
      · obtain ⟨s2, hl2⟩ := h
        have hi' : i < ys.length := by omega
        have ha2 := ha1.st s2
        have hb2 := hb1.st s2
        obtain ⟨x, y, hx, hy, hxy⟩ := pr_get (EqS.st hp1 s2) i (by omega) hi'
        refine ⟨wipe1, ⟨_, rfl, _, rfl, a, _, _, _, rfl, rfl, ha2.sq, at_pos hx, _, rfl, _, rfl, b, _, _, _, rfl, rfl, hb2.sq, at_pos hy, ?_⟩⟩
        refine ⟨x, y, rfl, hxy, fun H3 s3 => ⟨_, rfl, iteF ?_⟩⟩
        exact ⟨s2.trans s3, s3.keep _ _ hl2 (by simp)⟩
      · obtain ⟨s2, hl2⟩ := h
        refine ⟨Nat.zero_le _, fun p hp => ?_⟩
        have s3 := Stp.new (o := .lst []) hp
        refine ⟨_, _, .lst (.inl (.inl (s3.keep _ _ hl2 (by simp)))) .nil, .lst (.inl (.inl upd_same)) .nil, rfl, rfl, ?_⟩
        exact k _ (s1.trans (s2.trans s3))
    · refine ⟨_, pss_cons (ps_if (PW.pt (pw_or (pt_val (b_isi B (pv 1) B.tuple PyProof.Rows.boot_tuple)) (pw_or1 (pt_val (b_isi B (pv 1) B.list PyProof.Rows.boot_list))))) (pss_cons (ps_if (PW.pt (pw_or (pt_cmpR op_ne (b_isi B (pv 0) B.tuple PyProof.Rows.boot_tuple) (b_isi B (pv 1) B.tuple PyProof.Rows.boot_tuple) (nomark _)) (pw_or1 (pt_not (pt_val (pe_callB call_isiT (by rfl) B.isi PyProof.Rows.boot_isinstance (pa_cons (pv 0) (pa_cons (pe_tup (pa_cons (pe_bltn (v := .ty "tuple") (by rfl) B.tuple PyProof.Rows.boot_tuple rfl) (pa_cons (pe_bltn (v := .ty "list") (by rfl) B.list PyProof.Rows.boot_list rfl) pa_nil))) pa_nil)))))))) pss_never pss_nil)
          (pss_cons (ps_if (pt_cmpR op_ne (pe_callB call_len_seq (by rfl) B.len PySem.boot_len (pa_cons (pv 0) pa_nil)) (pe_callB call_len_seq (by rfl) B.len PySem.boot_len (pa_cons (pv 1) pa_nil)) (nomark _)) pss_never pss_nil)
          (pss_one (ps_ret (pe_cmpR (op_eqD hu64) (pe_lc (own := [("_law_k", 2)]) (te := tVar 2) (tt := tNot (tB (tCall (sp_eq K n) [] E0 (tCons (tOp (rIxL K) (tVar 0) (tVar 2)) (tCons (tOp (rIxL K) (tVar 1) (tVar 2)) tNil)))))
              rfl sc_law_alike.nd (pi_range1 (by rfl) B.range (pa_cons (pe_callB call_len_seq (by rfl) B.len PySem.boot_len (pa_cons (pv 1) pa_nil)) pa_nil)) (blkOk_by (N := ["_law_found", "_law_due", "_law_k"]) (sc := defScope s_law_alike) (by decide +kernel))
              (fun _ _ _ _ _ => pg_name (i := 2) sc_law_alike.nd rfl (.inl rfl)) (fun _ _ _ _ _ => pts_one (pt_not (pt_val (p_call G hr (pa_cons (pe_ix ix_list (pv 0) (pv 2) (fun _ _ => rfl)) (pa_cons (pe_ix ix_list (pv 1) (pv 2) (fun _ _ => rfl)) pa_nil)))))) (fun _ _ _ _ _ => pv 2)) (pe_lst pa_nil) (nomark _)))))) pss_nil)
        pss_never, ?_⟩
      walk_at "rd"
      refine isi_lstA hb (b := false) (by decide +kernel) ?_
      walk_at "rd"
      refine isi_lstA hb (b := true) (by decide +kernel) ?_
      walk_at "rd"
      refine isi_lstA ha (b := false) (by decide +kernel) (isi_lstA hb (b := false) (by decide +kernel) ?_)
      walk_at "rd"
      intro T hT
      have s1 := Stp.new (o := .tup [.ty "tuple", .ty "list"]) hT
      have ha1 := s1.keep _ _ ha (by simp)
      have hb1 := s1.keep _ _ hb (by simp)
      have hp1 := EqS.st hp s1
      refine ⟨.ref a, T, _, _, _, true, rfl, upd_same, .cons (.ty _) (.cons (.ty _) .nil), .base (.lst ha1), kitAny_cons (b := false) (kit_ty (by decide +kernel)) (fun _ => kitAny_cons (b := true) (kit_ty (by decide +kernel)) (fun z => nomatch z) (fun _ => rfl)) (fun z => nomatch z), ?_⟩
      generalize upd H T (.tup [.ty "tuple", .ty "list"]) = H1 at *
      walk_at "rd"
      refine ⟨_, .inl (.inl (.inl ha1)), _, .inl (.inl (.inl hb1)), ?_⟩
      walk_at "rd"
      have hl := hp.length
      rw [decide_eq_true (show ((xs.length : Nat) : Int) = ((ys.length : Nat) : Int) by rw [hl])]
      refine iteF ?_
      refine ⟨_, rfl, b, rfl, _, .inl (.inl (.inl hb1)), _, rfl, by omega, by omega, ?_⟩
      intro D hD
      refine lc_range (lo := 0) (n := ((ys.length : Nat) : Int).toNat) (fun i H' => Stp [] H1 H' ∧ H' D = some (.lst [])) ⟨Stp.new hD, upd_same⟩ (fun i H' hi h => ?_) (fun H' h => ?_)
      · obtain ⟨s2, hl2⟩ := h
        have hi' : i < ys.length := by omega
        have ha2 := s2.keep _ _ ha1 (by simp)
        have hb2 := s2.keep _ _ hb1 (by simp)
        obtain ⟨x, y, hx, hy, hxy⟩ := pr_get (EqS.st hp1 s2) i (by omega) hi'
        refine ⟨wipe1, ⟨_, rfl, _, rfl, a, _, _, _, rfl, rfl, (.inl (.inl ha2)), at_pos hx, _, rfl, _, rfl, b, _, _, _, rfl, rfl, (.inl (.inl hb2)), at_pos hy, ?_⟩⟩
        refine ⟨x, y, rfl, hxy, fun H3 s3 => ⟨_, rfl, iteF ?_⟩⟩
        exact ⟨s2.trans s3, s3.keep _ _ hl2 (by simp)⟩
      · obtain ⟨s2, hl2⟩ := h
        refine ⟨Nat.zero_le _, fun p hp => ?_⟩
        have s3 := Stp.new (o := .lst []) hp
        refine ⟨_, _, .lst (.inl (.inl (s3.keep _ _ hl2 (by simp)))) .nil, .lst (.inl (.inl upd_same)) .nil, rfl, rfl, ?_⟩
        exact k _ (s1.trans (s2.trans s3))
    rcases h with ⟨i, rfl, rfl⟩ | ⟨x, hx, rfl, rfl⟩ | ⟨rfl, rfl⟩
    · refine ⟨_, pss_cons (ps_if (PW.pt (pw_or (pt_val (b_isi B (pv 1) B.tuple PyProof.Rows.boot_tuple)) (pw_or1 (pt_val (b_isi B (pv 1) B.list PyProof.Rows.boot_list))))) pss_never pss_nil)
      (pss_cons (ps_if (PW.pt (pw_or (pt_cmpR op_isN (pv 1) pe_non (nomark _)) (pw_or1 (pt_cmpR op_isN (pv 0) pe_non (nomark _))))) (pss_one (ps_ret (pe_and (pe_cmpR op_isN (pv 1) pe_non (nomark _)) (pe_one (pe_cmpR op_isN (pv 0) pe_non (nomark _)))))) pss_nil)
      (pss_cons (ps_if (PW.pt (pw_or (pt_val (b_isi B (pv 1) B.bool PyProof.Rows.boot_bool)) (pw_or1 (pt_val (b_isi B (pv 0) B.bool PyProof.Rows.boot_bool))))) pss_never pss_nil)
      (pss_cons (ps_if (pt_val (b_isi B (pv 1) B.str PyProof.Rows.boot_str)) (pss_one (ps_ret (pe_and (b_isi B (pv 0) B.str PyProof.Rows.boot_str) (pe_one (pe_cmpR op_eq (pv 0) (pv 1) (nomark _)))))) pss_nil)
      (pss_one (ps_ret (pe_and (b_isi B (pv 0) B.int PyProof.Rows.boot_int) (pe_one (pe_cmpR op_eq (pv 0) (pv 1) (nomark _))))))))), ?_⟩
      walk_at "rd"
      exact k _ Stp.refl
    · refine ⟨_, pss_cons (ps_if (PW.pt (pw_or (pt_val (b_isi B (pv 1) B.tuple PyProof.Rows.boot_tuple)) (pw_or1 (pt_val (b_isi B (pv 1) B.list PyProof.Rows.boot_list))))) pss_never pss_nil)
      (pss_cons (ps_if (PW.pt (pw_or (pt_cmpR op_isN (pv 1) pe_non (nomark _)) (pw_or1 (pt_cmpR op_isN (pv 0) pe_non (nomark _))))) (pss_one (ps_ret (pe_and (pe_cmpR op_isN (pv 1) pe_non (nomark _)) (pe_one (pe_cmpR op_isN (pv 0) pe_non (nomark _)))))) pss_nil)
      (pss_cons (ps_if (PW.pt (pw_or (pt_val (b_isi B (pv 1) B.bool PyProof.Rows.boot_bool)) (pw_or1 (pt_val (b_isi B (pv 0) B.bool PyProof.Rows.boot_bool))))) pss_never pss_nil)
      (pss_cons (ps_if (pt_val (b_isi B (pv 1) B.str PyProof.Rows.boot_str)) (pss_one (ps_ret (pe_and (b_isi B (pv 0) B.str PyProof.Rows.boot_str) (pe_one (pe_cmpR op_eq (pv 0) (pv 1) (nomark _)))))) pss_nil)
      (pss_one (ps_ret (pe_and (b_isi B (pv 0) B.int PyProof.Rows.boot_int) (pe_one (pe_cmpR op_eq (pv 0) (pv 1) (nomark _))))))))), ?_⟩
      walk_at "rd"
      refine isi_strA (b := false) (by decide +kernel) ?_
      walk_at "rd"
      refine isi_strA (b := false) (by decide +kernel) ?_
      walk_at "rd"
      refine isi_strA (b := false) (by decide +kernel) ?_
      walk_at "rd"
      refine isi_strA (b := false) (by decide +kernel) ?_
      walk_at "rd"
      refine isi_strA (b := true) (by decide +kernel) ?_
      walk_at "rd"
      refine isi_strA (b := true) (by decide +kernel) ?_
      walk_at "rd"
      exact k _ Stp.refl
    · refine ⟨_, pss_cons (ps_if (PW.pt (pw_or (pt_val (b_isi B (pv 1) B.tuple PyProof.Rows.boot_tuple)) (pw_or1 (pt_val (b_isi B (pv 1) B.list PyProof.Rows.boot_list))))) pss_never pss_nil)
      (pss_cons (ps_if (PW.pt (pw_or (pt_cmpR op_isN (pv 1) pe_non (nomark _)) (pw_or1 (pt_cmpR op_isN (pv 0) pe_non (nomark _))))) (pss_one (ps_ret (pe_and (pe_cmpR op_isN (pv 1) pe_non (nomark _)) (pe_one (pe_cmpR op_isN (pv 0) pe_non (nomark _)))))) pss_nil)
      (pss_cons (ps_if (PW.pt (pw_or (pt_val (b_isi B (pv 1) B.bool PyProof.Rows.boot_bool)) (pw_or1 (pt_val (b_isi B (pv 0) B.bool PyProof.Rows.boot_bool))))) pss_never pss_nil)
      (pss_cons (ps_if (pt_val (b_isi B (pv 1) B.str PyProof.Rows.boot_str)) (pss_one (ps_ret (pe_and (b_isi B (pv 0) B.str PyProof.Rows.boot_str) (pe_one (pe_cmpR op_eq (pv 0) (pv 1) (nomark _)))))) pss_nil)
      (pss_one (ps_ret (pe_and (b_isi B (pv 0) B.int PyProof.Rows.boot_int) (pe_one (pe_cmpR op_eq (pv 0) (pv 1) (nomark _))))))))), ?_⟩
      walk_at "rd"
      refine isi_nonA (b := false) (by decide +kernel) ?_
      walk_at "rd"
      refine isi_nonA (b := false) (by decide +kernel) ?_
      walk_at "rd"
      exact k _ Stp.refl
/-! ### what == and != tell of such -/
theorem EqB.dp {H : Hp} {v w' : V} (h : EqB v w') : ∃ d, Dp K H v d ∧ Dp K H w' d ∧ d.canLay0 = true ∧ d.depth ≤ 1 ∧ PyData.eqv d d = true := by
  rcases h with ⟨i, rfl, rfl⟩ | ⟨x, hx, rfl, rfl⟩ | ⟨rfl, rfl⟩
  · exact ⟨_, .int i, .int i, by simp [PyData.canLay0], by simp [PyData.depth], by simp [PyData.eqv]⟩
  · exact ⟨_, .str x, .str x, by simpa [PyData.canLay0] using hx, by simp [PyData.depth], by simp [PyData.eqv]⟩
  · exact ⟨_, .non, .non, by simp [PyData.canLay0], by simp [PyData.depth], by simp [PyData.eqv]⟩
theorem all_dp {H : Hp} {n : Nat} (ih : ∀ v w', EqT K H n v w' → ∃ d, Dp K H v d ∧ Dp K H w' d ∧ d.canLay0 = true ∧ d.depth ≤ n + 1 ∧ PyData.eqv d d = true) : ∀ {xs ys : List V}, Paired (EqT K H n) xs ys →
    ∃ ds, DpAll K H xs ds ∧ DpAll K H ys ds ∧ PyData.canLayAll0 ds = true ∧ PyData.depthAll ds ≤ n + 1 ∧ PyData.eqvAll ds ds = true
  | _, _, .nil => ⟨[], .nil, .nil, by simp [PyData.canLayAll0], by simp [PyData.depthAll], by simp [PyData.eqvAll]⟩
  | _, _, .cons h r => by
    obtain ⟨d, a1, a2, a3, a4, a5⟩ := ih _ _ h
    obtain ⟨ds, b1, b2, b3, b4, b5⟩ := all_dp ih r
    exact ⟨d :: ds, .cons a1 b1, .cons a2 b2, by simp [PyData.canLayAll0, a3, b3], by simp only [PyData.depthAll]; omega, by simp [PyData.eqvAll, a5, b5]⟩
theorem EqT.dp {H : Hp} : ∀ (n : Nat) (v w' : V), EqT K H n v w' → ∃ d, Dp K H v d ∧ Dp K H w' d ∧ d.canLay0 = true ∧ d.depth ≤ n + 1 ∧ PyData.eqv d d = true
  | 0, v, w', h => EqB.dp h
  | n + 1, v, w', h => by
    rcases h with h | ⟨a, b, xs, ys, rfl, rfl, h, _, hp⟩
    · obtain ⟨d, a1, a2, a3, a4, a5⟩ := EqB.dp (K := K) (H := H) h
      exact ⟨d, a1, a2, a3, by omega, a5⟩
    · obtain ⟨ds, b1, b2, b3, b4, b5⟩ := all_dp (EqT.dp n) hp
      rcases h with ⟨h1, h2⟩ | ⟨h1, h2⟩
      · exact ⟨.tuple ds, .tup h1.sq b1, .tup h2.sq b2, by simp [PyData.canLay0, b3], by simp only [PyData.depth]; omega, by simp [PyData.eqv, b5]⟩
      · exact ⟨.list ds, .lst (.inl (.inl h1)) b1, .lst (.inl (.inl h2)) b2, by simp [PyData.canLay0, b3], by simp only [PyData.depth]; omega, by simp [PyData.eqv, b5]⟩
theorem eq_T {H : Hp} {n : Nat} {v w' : V} {Q : VK} (h : EqT K H n v w') (hn : n ≤ 60) (k : Q (.bl true) H) : rEqD K v w' H Q := by
  obtain ⟨d, a1, a2, a3, a4, a5⟩ := EqT.dp n _ _ h
  have hs : SeqAt.shaped d = true := by simp [SeqAt.shaped, a3]; omega
  exact ⟨d, d, a1, a2, hs, hs, by rw [a5]; exact k⟩
theorem ne_T {H : Hp} {n : Nat} {v w' : V} {Q : VK} (h : EqT K H n v w') (hn : n ≤ 60) (k : Q (.bl false) H) : rNeD K v w' H Q := by
  obtain ⟨d, a1, a2, a3, a4, a5⟩ := EqT.dp n _ _ h
  have hs : SeqAt.shaped d = true := by simp [SeqAt.shaped, a3]; omega
  exact ⟨d, d, a1, a2, hs, hs, by rw [a5]; exact k⟩
/-- fractions, pairs -/
theorem EqT.q {H : Hp} {v w' : V} {q : Rat} (h : IsQ K H v q) (g : IsQ K H w' q) : EqT K H 1 v w' := by
  obtain ⟨a, rfl, ha⟩ := h
  obtain ⟨b, rfl, hb⟩ := g
  exact .inr ⟨a, b, _, _, rfl, rfl, .inl ⟨ha, hb⟩, by show 2 ≤ 100000; decide, .cons (.inl ⟨_, rfl, rfl⟩) (.cons (.inl ⟨_, rfl, rfl⟩) .nil)⟩
end
end Mx

namespace Mx
open PySem L2
theorem row_mv {K : PySem.W.Frag} {H0 H H' : Hp} {F : List Addr} {r sc : Addr} {ns : List Int} (h0 : RowAt K H0 r sc ns) (h : RowAt K H r sc ns) (s : Stp F H H') (hr : r ∉ F) (s0 : Stp [r] H0 H') : RowAt K H' r sc ns := by
  obtain ⟨_, _, _, _, _, _, hs, hn⟩ := h0
  obtain ⟨pos, mix, p0, m0, m1, hrr, _, _⟩ := h
  exact ⟨pos, mix, p0, m0, m1, s.keep _ _ hrr hr, seq_or hs s0 hn, hn⟩
theorem dpAll_len {K : PySem.W.Frag} {H : Hp} : ∀ {vs : List V} {ds : List PyData}, DpAll K H vs ds → vs.length = ds.length
  | _, _, .nil => rfl
  | _, _, .cons _ r => by rw [List.length_cons, List.length_cons, dpAll_len r]
theorem ne_nilL {K : PySem.W.Frag} {H : Hp} {a b : Addr} {vs : List V} {n : Nat} {Q : VK} (ha : H a = some (.lst vs)) (hb : H b = some (.lst [])) (h : Paired (EqT K H n) vs vs) (hn : n ≤ 60) (k : Q (.bl (!vs.isEmpty)) H) : rNeD K (.ref a) (.ref b) H Q := by
  obtain ⟨ds, b1, _, b3, b4, _⟩ := all_dp (EqT.dp n) h
  have hs : SeqAt.shaped (.list ds) = true := by
    have : (PyData.list ds).depth ≤ 64 := by simp only [PyData.depth]; omega
    simp [SeqAt.shaped, PyData.canLay0, b3, this]
  refine ⟨.list ds, .list [], .lst (.inl (.inl ha)) b1, .lst (.inl (.inl hb)) .nil, hs, rfl, ?_⟩
  have e : PyData.eqv (.list ds) (.list []) = vs.isEmpty := by
    have := dpAll_len b1
    cases ds with
    | nil => 
      have : vs = [] := List.length_eq_zero_iff.mp this
      rw [this]
      rfl
    | cons d r =>
      cases vs with
      | nil => simp at this
      | cons v t => rfl
  rw [e]
  exact k
theorem ints_refl {K : PySem.W.Frag} {H : Hp} {n : Nat} : ∀ (ns : List Int), Paired (EqT K H n) (ns.map V.int) (ns.map V.int)
  | [] => .nil
  | i :: r => .cons (by cases n with | zero => exact .inl ⟨i, rfl, rfl⟩ | succ n => exact .inl (.inl ⟨i, rfl, rfl⟩)) (ints_refl r)
end Mx

namespace Mx
open PySem L2
/-! ### numbers that came in parcels of thirty-two -/
def Cov (c : List (Int × Int)) (xs : List Int) (n : Nat) : Prop := ∀ i : Int, look c i = if 0 ≤ i ∧ i < (n : Int) then xs[i.toNat]? else none
theorem look_put1 {c : List (Int × Int)} {i x : Int} (h : look c i = none) (j : Int) : look (put1 c i x) j = if j = i then some x else look c j := by
  unfold put1
  rw [h]
  show look (c ++ [(i, x)]) j = _
  unfold look at h ⊢
  rw [List.find?_append]
  by_cases e : j = i
  · subst e
    rw [if_pos rfl]
    cases q : c.find? fun p => decide (p.1 = j) with
    | none => simp
    | some p => rw [q] at h; cases h
  · rw [if_neg e]
    cases q : c.find? fun p => decide (p.1 = j) with
    | none => simp [Ne.symm e]
    | some p => rfl
theorem cov_one {c : List (Int × Int)} {xs : List Int} {n : Nat} {x : Int} (h : Cov c xs n) (hx : xs[n]? = some x) : Cov (put1 c n x) xs (n + 1) := by
  have hn : look c (n : Int) = none := by rw [h, if_neg (by omega)]
  intro j
  rw [look_put1 hn]
  by_cases e : j = (n : Int)
  · subst e
    rw [if_pos rfl, if_pos (by omega)]
    rw [show ((n : Int)).toNat = n by omega, hx]
  · rw [if_neg e, h j]
    by_cases z : 0 ≤ j ∧ j < (n : Int)
    · rw [if_pos z, if_pos (by omega)]
    · rw [if_neg z, if_neg (by omega)]
theorem cov_all {xs : List Int} : ∀ (m : Nat) (c : List (Int × Int)) (n : Nat), n + m ≤ xs.length → Cov c xs n → Cov (putAll c (n : Int) ((xs.drop n).take m)) xs (n + m)
  | 0, c, n, _, h => by
    rw [List.take_zero]
    exact h
  | m + 1, c, n, hl, h => by
    have hx : xs[n]? = some (xs[n]'(by omega)) := List.getElem?_eq_getElem _
    have e : (xs.drop n).take (m + 1) = (xs[n]'(by omega)) :: (xs.drop (n + 1)).take m := by
      rw [List.drop_eq_getElem_cons (by omega), List.take_succ_cons]
    rw [e]
    show Cov (putAll (put1 c n _) ((n : Int) + 1) _) xs _
    have h2 := cov_all m (put1 c n (xs[n]'(by omega))) (n + 1) (by omega) (cov_one h hx)
    rw [show (((n + 1 : Nat)) : Int) = (n : Int) + 1 by omega] at h2
    rw [show n + (m + 1) = n + 1 + m by omega]
    exact h2
theorem put1_in {c : List (Int × Int)} {i x : Int} (h : ∀ p ∈ c, -999 ≤ p.2 ∧ p.2 ≤ 999) (hx : -999 ≤ x ∧ x ≤ 999) : ∀ p ∈ put1 c i x, -999 ≤ p.2 ∧ p.2 ≤ 999 := by
  unfold put1
  split
  · exact h
  · intro p hp
    rcases List.mem_append.mp hp with q | q
    · exact h p q
    · rw [List.mem_singleton.mp q]
      exact hx
theorem putAll_in : ∀ (ns : List Int) (c : List (Int × Int)) (i : Int), (∀ p ∈ c, -999 ≤ p.2 ∧ p.2 ≤ 999) → (∀ n ∈ ns, -999 ≤ n ∧ n ≤ 999) → ∀ p ∈ putAll c i ns, -999 ≤ p.2 ∧ p.2 ≤ 999
  | [], _, _, h, _ => h
  | n :: r, c, i, h, hn => putAll_in r (put1 c i n) (i + 1) (put1_in h (hn n List.mem_cons_self)) fun m hm => hn m (List.mem_cons_of_mem _ hm)

/-! ### a voice that has all its numbers -/
/-- where a beat is, and whether it is within the numbers -/
structure Full (s : LineS) (xs : List Int) : Prop where
  ok : LineOk s
  cov : Cov s.came xs xs.length
  many : s.many = some (xs.length : Int)
  pos : 0 < xs.length
def LineS.far (s : LineS) (t : Int) : Int := (t - s.beg) * s.pn
theorem far_parts (s : LineS) (t : Int) : s.low t * s.pb + s.rest t = s.far t := by
  unfold LineS.low LineS.rest LineS.far
  have := Int.mul_ediv_add_emod ((t - s.beg) * s.pn) s.pb
  rw [Int.mul_comm] at this
  exact this
theorem Full.begun {s : LineS} {xs : List Int} (h : Full s xs) (t : Int) : s.begun t = decide (0 ≤ s.far t) := by
  unfold LineS.begun LineS.far
  have := h.ok.pn0
  by_cases e : s.beg ≤ t
  · rw [decide_eq_true e, decide_eq_true (Int.mul_nonneg (by omega) (by omega))]
  · rw [decide_eq_false e, decide_eq_false]
    intro z
    have : (t - s.beg) * s.pn < 0 := Int.mul_neg_of_neg_of_pos (by omega) (by omega)
    omega
theorem Full.last {s : LineS} {xs : List Int} (h : Full s xs) (t : Int) : (s.last t < (xs.length : Int)) ↔ s.far t ≤ ((xs.length : Int) - 1) * s.pb := by
  obtain ⟨o1, o2, o3, o4, _, _⟩ := h.ok
  have hf := far_parts s t
  have r0 : 0 ≤ s.rest t := Int.emod_nonneg _ (by omega)
  have r1 : s.rest t < s.pb := Int.emod_lt_of_pos _ (by omega)
  unfold LineS.last
  by_cases e : s.rest t = 0
  · rw [if_pos e, ← hf, e, Int.add_zero]
    constructor
    · intro z
      exact Int.mul_le_mul_of_nonneg_right (by omega) (by omega)
    · intro z
      have : s.low t ≤ (xs.length : Int) - 1 := Int.le_of_mul_le_mul_right z (by omega)
      omega
  · rw [if_neg e, ← hf]
    constructor
    · intro z
      have h1 : (s.low t + 1) * s.pb ≤ ((xs.length : Int) - 1) * s.pb := Int.mul_le_mul_of_nonneg_right (by omega) (by omega)
      rw [Int.add_mul, Int.one_mul] at h1
      omega
    · intro z
      have h1 : s.low t * s.pb < ((xs.length : Int) - 1) * s.pb := by omega
      have : s.low t < (xs.length : Int) - 1 := Int.lt_of_mul_lt_mul_right h1 (by omega)
      omega
theorem Full.low0 {s : LineS} {xs : List Int} (h : Full s xs) {t : Int} (hf : 0 ≤ s.far t) : 0 ≤ s.low t := Int.ediv_nonneg hf (by have := h.ok.pb0; omega)
theorem Full.over {s : LineS} {xs : List Int} (h : Full s xs) (t : Int) : s.over t = !decide (s.far t ≤ ((xs.length : Int) - 1) * s.pb) := by
  unfold LineS.over
  rw [h.many]
  show decide ((xs.length : Int) ≤ s.last t) = _
  have := h.last t
  by_cases e : s.last t < (xs.length : Int)
  · rw [decide_eq_false (by omega), decide_eq_true (this.mp e)]
    rfl
  · rw [decide_eq_true (by omega), decide_eq_false (fun z => e (this.mpr z))]
    rfl
theorem Full.has {s : LineS} {xs : List Int} (h : Full s xs) {i : Int} (h0 : 0 ≤ i) (h1 : i < (xs.length : Int)) : s.has i = true ∧ s.at i = xs[i.toNat]'(by omega) := by
  have := h.cov i
  rw [if_pos ⟨h0, h1⟩, List.getElem?_eq_getElem (by omega)] at this
  unfold LineS.has LineS.at
  rw [this]
  exact ⟨rfl, rfl⟩
theorem Full.lacks {s : LineS} {xs : List Int} (h : Full s xs) (t : Int) : s.lacks t = false := by
  unfold LineS.lacks
  rw [h.begun, h.over]
  by_cases e0 : 0 ≤ s.far t
  · by_cases e1 : s.far t ≤ ((xs.length : Int) - 1) * s.pb
    · rw [decide_eq_true e0, decide_eq_true e1]
      simp only [Bool.true_and, Bool.not_true, Bool.not_false]
      rw [List.any_eq_false]
      intro i hi
      have hl := (h.last t).mpr e1
      have hlow := h.low0 e0
      have : 0 ≤ i ∧ i < (xs.length : Int) := by
        unfold LineS.want at hi
        unfold LineS.last at hl
        by_cases e : s.rest t = 0
        · rw [if_pos e] at hi hl
          rw [List.mem_singleton.mp hi]
          exact ⟨hlow, hl⟩
        · rw [if_neg e] at hi hl
          rcases List.mem_cons.mp hi with q | q
          · rw [q]; exact ⟨hlow, by omega⟩
          · rw [List.mem_singleton.mp q]; exact ⟨by omega, hl⟩
      rw [(h.has this.1 this.2).1]
      decide
    · rw [decide_eq_false e1]
      simp
  · rw [decide_eq_false e0]
    simp
theorem Full.ready {s : LineS} {xs : List Int} (h : Full s xs) (t : Int) : s.ready t = decide (0 ≤ s.far t ∧ s.far t ≤ ((xs.length : Int) - 1) * s.pb) := by
  unfold LineS.ready
  rw [h.lacks, h.begun, h.over]
  by_cases e0 : 0 ≤ s.far t <;> by_cases e1 : s.far t ≤ ((xs.length : Int) - 1) * s.pb <;> simp [e0, e1]
/-- the number at a place, nothing behind the last one -/
def nth (xs : List Int) (i : Int) : Int := (xs ++ [0])[i.toNat]?.getD 0
theorem Full.value {s : LineS} {xs : List Int} (h : Full s xs) {t : Int} (hr : s.ready t = true) (ld : Int) : s.value t * mkRat ld 64 = mkRat ((nth xs (s.low t) * s.pb + (nth xs (s.low t + 1) - nth xs (s.low t)) * s.rest t) * ld) (64 * s.pb).toNat := by
  rw [h.ready] at hr
  obtain ⟨e0, e1⟩ := of_decide_eq_true hr
  have hl := (h.last t).mpr e1
  have hlow := h.low0 e0
  obtain ⟨o1, o2, o3, o4, _, _⟩ := h.ok
  have hn : ∀ i : Int, 0 ≤ i → i < (xs.length : Int) → s.at i = nth xs i := by
    intro i i0 i1
    rw [(h.has i0 i1).2]
    unfold nth
    rw [List.getElem?_append_left (by omega), List.getElem?_eq_getElem (by omega)]
    rfl
  unfold LineS.value
  unfold LineS.last at hl
  have e64 : (64 * s.pb).toNat = s.pb.toNat * 64 := by omega
  by_cases e : s.rest t = 0
  · rw [if_pos e] at hl ⊢
    rw [hn _ hlow hl, e, Int.mul_zero, Int.add_zero, Rat.mkRat_mul_mkRat, e64, Nat.one_mul]
    have hpb : s.pb = ((s.pb.toNat : Nat) : Int) := by omega
    have := Rat.mkRat_mul_left (n := nth xs (s.low t) * ld) (d := 64) (a := s.pb.toNat) (by omega)
    rw [← this, ← hpb]
    congr 1
    rw [Int.mul_comm s.pb, Int.mul_assoc, Int.mul_comm ld, ← Int.mul_assoc]
  · rw [if_neg e] at hl ⊢
    rw [hn _ hlow (by omega), hn _ (by omega) hl, Rat.mkRat_mul_mkRat, e64]
    congr 2
    rw [Int.mul_sub, Int.sub_mul]
    omega
end Mx
namespace Mx
open PySem L2
/-! ### soft 1: a voice is on or hushed -/
structure V1 (xs : List Int) (ld : Int) (v : VoiceS) : Prop where
  full : Full v.line xs
  loud : v.loud = ⟨mkRat ld 64, 0, 0⟩
  heard : v.heard = true
  word : v.word = wH ∧ v.part = 0 ∨ v.word = wO
  l0 : 0 ≤ ld
  l1 : ld ≤ 64
  part : Rb 31 v.part
  pS : v.word = wO → Rb 26 v.part
theorem mk0 (n : Nat) : mkRat 0 n = 0 := Rat.zero_mkRat n
theorem mk11 : mkRat 1 1 = 1 := by rfl
theorem V1.ok {xs : List Int} {ld : Int} {v : VoiceS} (h : V1 xs ld v) : VoiceOk 7 1 v := by
  obtain ⟨n1, n2, n3, n4, n5, n6⟩ := wne
  obtain ⟨hf, hl, hh, hw, l0, l1, hp, hS⟩ := h
  refine ⟨hf.ok, ⟨1, ld, 0, ⟨by decide, ?_, ?_, l0, by omega, by omega, by omega, ?_, ?_, ?_⟩, by decide⟩, ?_, fun z => ?_, fun z => ?_, hp, fun z => ?_, fun z => ?_⟩
  · rw [hl]
  · rw [hl, mk0]
  · rw [hl]; exact Int.le_refl 0
  · rw [hl]; show 0 ≤ ld + 0 * 0; omega
  · rw [hl]; show ld + 0 * 0 ≤ _; omega
  · rcases hw with ⟨z, _⟩ | z
    · exact .inl z
    · exact .inr (.inr (.inl z))
  · rcases hw with ⟨e, _⟩ | e
    · exact absurd (e.symm.trans z) n1
    · exact absurd (z.symm.trans e) n4
  · rcases hw with ⟨e, _⟩ | e
    · exact absurd (e.symm.trans z) n3
    · exact absurd (e.symm.trans z) n6
  · rcases hw with ⟨e, _⟩ | e
    · rcases z with z | z
      · exact absurd (e.symm.trans z) n1
      · exact absurd (e.symm.trans z) n2
    · exact hS e
  · rcases hw with ⟨e, _⟩ | e
    · exact absurd (e.symm.trans z) n3
    · exact absurd (e.symm.trans z) n6
theorem V1.give {xs : List Int} {ld : Int} {v : VoiceS} (h : V1 xs ld v) (t : Int) : V1 xs ld (v.give t 1) ∧ (v.give t 1).part = if v.line.ready t = true then v.line.value t * mkRat ld 64 else 0 := by
  obtain ⟨n1, n2, n3, n4, n5, n6⟩ := wne
  have hg := h.ok.give (Int.le_refl 1) (by decide) t
  obtain ⟨hf, hl, hh, hw, l0, l1, hp, hS⟩ := h
  have hon : v.loud.on = v.loud := by
    unfold LoudS.on
    rw [hl]
    rfl
  have hlev : v.loud.level = mkRat ld 64 := by rw [hl]
  have nF : ¬ v.word = wF := by
    rcases hw with ⟨e, _⟩ | e
    · exact fun z => n3 (e.symm.trans z)
    · exact fun z => n6 (e.symm.trans z)
  have hm : v.may t = v.line.ready t := by unfold VoiceS.may; rw [hh]; rfl
  have key : ∀ u : VoiceS, v.give t 1 = u → u.line = v.line → u.loud = v.loud → u.heard = true → (u.word = wH ∧ u.part = 0 ∨ u.word = wO) → V1 xs ld (v.give t 1) := by
    intro u e e1 e2 e3 e4
    rw [e] at hg ⊢
    exact ⟨by rw [e1]; exact hf, by rw [e2]; exact hl, e3, e4, l0, l1, hg.part, fun z => hg.partS (.inr z)⟩
  by_cases hr : v.line.ready t = true
  · rw [if_pos hr]
    have e : v.give t 1 = VoiceS.sound { v with loud := v.loud.on } (v.line.value t * v.loud.on.level) 1 := by
      unfold VoiceS.give
      rw [if_neg nF, if_pos (by rw [hm]; exact hr)]
    rcases hw with ⟨eH, _⟩ | eO
    · have e2 : VoiceS.sound { v with loud := v.loud.on } (v.line.value t * v.loud.on.level) 1 = { v with loud := v.loud.on, word := wO, steps := 1, part := v.line.value t * v.loud.on.level * mkRat 1 1 } := by
        unfold VoiceS.sound
        rw [if_neg (show ¬ v.word = wO from fun z => n2 (eH.symm.trans z)), if_pos (show v.word = wH from eH)]
        rfl
      rw [e2, mk11, hon] at e
      refine ⟨key _ e rfl rfl hh (.inr rfl), ?_⟩
      rw [e, ← hlev]
      show v.line.value t * v.loud.level * 1 = _
      grind
    · have e2 : VoiceS.sound { v with loud := v.loud.on } (v.line.value t * v.loud.on.level) 1 = { v with loud := v.loud.on, part := v.line.value t * v.loud.on.level } := by
        unfold VoiceS.sound
        rw [if_pos (show v.word = wO from eO)]
      rw [e2, hon] at e
      refine ⟨key _ e rfl rfl hh (.inr eO), ?_⟩
      rw [e, ← hlev]
  · rw [if_neg hr]
    rcases hw with ⟨eH, p0⟩ | eO
    · have e : v.give t 1 = { v with loud := v.loud.on } := by
        unfold VoiceS.give
        rw [if_neg nF, if_neg (by rw [hm]; exact hr), if_pos eH]
      rw [hon] at e
      refine ⟨key _ e rfl rfl hh (.inl ⟨eH, p0⟩), ?_⟩
      rw [e]
      exact p0
    · have e : v.give t 1 = VoiceS.beginFall { v with loud := v.loud.on } 1 := by
        unfold VoiceS.give
        rw [if_neg nF, if_neg (by rw [hm]; exact hr), if_neg (fun z => n2 (z.symm.trans eO))]
      have e2 : VoiceS.beginFall { v with loud := v.loud.on } 1 = { v with loud := v.loud.on, word := wH, steps := 1, height := v.part, part := v.part * mkRat 0 1 } := rfl
      rw [e2, hon, mk0] at e
      have pz : v.part * 0 = 0 := by grind
      refine ⟨key _ e rfl rfl hh (.inl ⟨rfl, pz⟩), ?_⟩
      rw [e]
      exact pz
end Mx

namespace Mx
open PySem L2
theorem LoudOk.new {n : Int} (l0 : 0 ≤ n) (l1 : n ≤ 64) : LoudOk 7 ⟨mkRat n 64, 0, 0⟩ :=
  ⟨1, n, 0, ⟨by decide, rfl, by show (0 : Rat) = _; rw [mk0], l0, by omega, by omega, by omega, by show (0 : Int) ≤ 0; decide, by show 0 ≤ n + 0 * 0; omega, by show n + 0 * 0 ≤ _; omega⟩, by decide⟩
theorem Rb0 (n : Nat) : Rb (n + 1) 0 := ⟨by show (0 : Int).natAbs < _; exact Nat.two_pow_pos _, by show 1 < 2 ^ (n + 1); rw [Nat.pow_succ]; have := Nat.two_pow_pos n; omega⟩
theorem new_ok {v : VoiceS} {soft n : Int} (hl : LineOk v.line) (l0 : 0 ≤ n) (l1 : n ≤ 64) (e1 : v.loud = ⟨mkRat n 64, 0, 0⟩) (e2 : v.word = wH) (e3 : v.part = 0) : VoiceOk 7 soft v := by
  obtain ⟨n1, n2, n3, n4, n5, n6⟩ := wne
  refine ⟨hl, by rw [e1]; exact LoudOk.new l0 l1, .inl e2, fun z => ?_, fun z => ?_, by rw [e3]; exact Rb0 30, fun z => ?_, fun z => ?_⟩
  · exact absurd (e2.symm.trans z) n1
  · exact absurd (e2.symm.trans z) n3
  · rcases z with z | z
    · exact absurd (e2.symm.trans z) n1
    · exact absurd (e2.symm.trans z) n2
  · exact absurd (e2.symm.trans z) n3
/-- a comprehension of drawn numbers: what a turn of it does -/
theorem nums_new {K : PySem.W.Frag} {H : Hp} {r sc nu : Addr} {ns : List Int} {lo hi : Int} (hR : RowAt K H r sc ns) (hnu : H nu = none) : ∃ xs : List Int, xs.length = 0 ∧ (∀ n ∈ xs, lo ≤ n ∧ n ≤ hi) ∧ RowAt K (upd H nu (.lst [])) r sc ns ∧ Stp [r] H (upd H nu (.lst [])) ∧ (upd H nu (.lst [])) nu = some (.lst (xs.map V.int)) :=
  ⟨[], rfl, by simp, row_new hR hnu, (Stp.new hnu).sub (by simp), upd_same⟩
theorem nums_next {K : PySem.W.Frag} {H7 H' H9 : Hp} {r sc nu : Addr} {ns xs : List Int} {lo hi v : Int} {j : Nat} (hR7 : RowAt K H7 r sc ns) (hnu : H7 nu = none) (hxl : xs.length = j) (hxn : ∀ n ∈ xs, lo ≤ n ∧ n ≤ hi) (sj : Stp [r] H7 H') (hl : H' nu = some (.lst (xs.map V.int))) (v0 : lo ≤ v) (v1 : v ≤ hi) (hR9 : RowAt K H9 r sc ns) (s9 : Stp [r] H' H9) :
    H9 nu = some (.lst (xs.map V.int)) ∧ ∃ ys : List Int, ys.length = j + 1 ∧ (∀ n ∈ ys, lo ≤ n ∧ n ≤ hi) ∧ RowAt K (upd H9 nu (.lst (xs.map V.int ++ [.int v]))) r sc ns ∧ Stp [r] H7 (upd H9 nu (.lst (xs.map V.int ++ [.int v]))) ∧ (upd H9 nu (.lst (xs.map V.int ++ [.int v]))) nu = some (.lst (ys.map V.int)) := by
  have hnr : nu ≠ r := row_ne hR7 hnu
  obtain ⟨pos, mix, p0, m0, m1, hrr, hscr, hscn⟩ := id hR7
  have h9 := s9.keep _ _ hl (by simpa using hnr)
  have sP := Stp.put (o := .lst (xs.map V.int ++ [.int v])) h9 (fun xs z => nomatch z)
  have sA : Stp [r] H7 (upd H9 nu (.lst (xs.map V.int ++ [.int v]))) := ((sj.trans s9).trans sP).subN fun b hb => by
    simp only [List.mem_append, List.mem_singleton] at hb
    rcases hb with (z | z) | z
    · exact .inl (by simp [z])
    · exact .inl (by simp [z])
    · exact .inr (z ▸ hnu)
  refine ⟨h9, xs ++ [v], ?_, ?_, ?_, sA, ?_⟩
  · rw [List.length_append]
    simp [hxl]
  · intro n hn
    rcases List.mem_append.mp hn with q | q
    · exact hxn n q
    · rw [List.mem_singleton.mp q]
      exact ⟨v0, v1⟩
  · obtain ⟨pos', mix', p0', m0', m1', hr9, _, _⟩ := hR9
    exact ⟨pos', mix', p0', m0', m1', sP.keep _ _ hr9 (by simpa using hnr.symm), seq_or hscr sA hscn, hscn⟩
  · rw [upd_same, List.map_append]
    rfl
end Mx

namespace Mx
open PySem L2
/-! ### a voice with numbers up to a place, the end told or not -/
/-- pace, begin and numbers as they are; how many there are: not told, or as many -/
structure Num (s : LineS) (xs : List Int) : Prop where
  ok : LineOk s
  cov : Cov s.came xs xs.length
  pos : 0 < xs.length
  many : s.many = none ∨ s.many = some (xs.length : Int)
def LineS.full (s : LineS) (xs : List Int) : LineS := { s with many := some (xs.length : Int) }
theorem Num.full {s : LineS} {xs : List Int} (h : Num s xs) : Full (s.full xs) xs := ⟨⟨h.ok.pn0, h.ok.pn1, h.ok.pb0, h.ok.pb1, h.ok.cm, h.ok.len⟩, h.cov, rfl, h.pos⟩
/-- within the numbers the end makes nothing else -/
theorem Num.in_ {s : LineS} {xs : List Int} (h : Num s xs) {t : Int} (ht : s.far t ≤ ((xs.length : Int) - 1) * s.pb) : s.over t = false ∧ s.lacks t = false ∧ s.ready t = s.begun t := by
  have hf := h.full
  have h1 := hf.over t
  have h2 := hf.lacks t
  have e1 : (s.full xs).far t = s.far t := rfl
  have e2 : (s.full xs).pb = s.pb := rfl
  rw [e1, e2, decide_eq_true ht] at h1
  have ho : s.over t = false := by
    rcases h.many with e | e
    · unfold LineS.over
      rw [e]
    · have : s.full xs = s := by
        unfold LineS.full
        rw [← e]
      rw [this] at h1
      exact h1
  have hl : s.lacks t = false := by
    unfold LineS.lacks at h2 ⊢
    rw [h1] at h2
    rw [ho]
    exact h2
  refine ⟨ho, hl, ?_⟩
  unfold LineS.ready
  rw [ho, hl]
  simp
/-- behind them, where the end is told -/
theorem Num.out {s : LineS} {xs : List Int} (h : Num s xs) (hm : s.many = some (xs.length : Int)) {t : Int} (ht : ¬ s.far t ≤ ((xs.length : Int) - 1) * s.pb) : s.lacks t = false ∧ s.ready t = false := by
  have hf := h.full
  have e : s.full xs = s := by
    unfold LineS.full
    rw [← hm]
  rw [e] at hf
  refine ⟨hf.lacks t, ?_⟩
  rw [hf.ready]
  exact decide_eq_false fun z => ht z.2
/-! ### how a voice goes while it may sound, and falls behind -/
theorem give_ready {v : VoiceS} {t soft : Int} (hh : v.heard = true) (hr : v.line.ready t = true) (hw : v.word ≠ wF) : (v.give t soft).word ≠ wF ∧ (v.give t soft).word ≠ wH := by
  obtain ⟨n1, n2, n3, n4, n5, n6⟩ := wne
  have hm : v.may t = true := by unfold VoiceS.may; rw [hh, hr]; rfl
  unfold VoiceS.give
  rw [if_neg hw, if_pos hm]
  unfold VoiceS.sound
  by_cases eO : v.word = wO
  · rw [if_pos eO]
    exact ⟨hw, fun z => n2 (z.symm.trans eO)⟩
  · rw [if_neg eO]
    unfold VoiceS.rise
    by_cases eH : v.word = wH
    · rw [if_pos eH]
      show (if _ then wO else wR) ≠ wF ∧ (if _ then wO else wR) ≠ wH
      split
      · exact ⟨n6, n2.symm⟩
      · exact ⟨n5, n1.symm⟩
    · rw [if_neg eH]
      show (if _ then wO else v.word) ≠ wF ∧ (if _ then wO else v.word) ≠ wH
      split
      · exact ⟨n6, n2.symm⟩
      · exact ⟨hw, eH⟩
theorem give_idle {v : VoiceS} {t soft : Int} (hr : v.line.ready t = false) (hw : v.word = wH) : v.give t soft = { v with loud := v.loud.on } := by
  obtain ⟨n1, n2, n3, n4, n5, n6⟩ := wne
  have hm : v.may t = false := by unfold VoiceS.may; rw [hr]; simp
  unfold VoiceS.give
  rw [if_neg (fun z => n3 (hw.symm.trans z)), if_neg (by rw [hm]; decide), if_pos hw]
/-- j beats behind the last one that it may sound at, from the part p -/
structure Fallen (soft : Int) (p : Rat) (j : Int) (v : VoiceS) : Prop where
  a : j = 0 → v.part = p ∧ v.word ≠ wF ∧ v.word ≠ wH
  b : 0 < j → j < soft → v.word = wF ∧ v.steps = j ∧ v.height = p
  c : soft ≤ j → 0 < j → v.word = wH ∧ v.part = 0
theorem Fallen.next {soft : Int} {p : Rat} {j : Int} {v : VoiceS} (h : Fallen soft p j v) (h1 : 1 ≤ soft) (j0 : 0 ≤ j) {t : Int} (hr : v.line.ready t = false) : Fallen soft p (j + 1) (v.give t soft) ∧ (v.give t soft).part = p * mkRat (max 0 (soft - 1 - j)) soft.toNat := by
  obtain ⟨n1, n2, n3, n4, n5, n6⟩ := wne
  have hm : v.may t = false := by unfold VoiceS.may; rw [hr]; simp
  have fall : ∀ u : VoiceS, u.word = wF → u.steps = j → u.height = p → j < soft → Fallen soft p (j + 1) (u.fall soft) ∧ (u.fall soft).part = p * mkRat (max 0 (soft - 1 - j)) soft.toNat := by
    intro u e1 e2 e3 hj
    have ep : (u.fall soft).part = p * mkRat (max 0 (soft - 1 - j)) soft.toNat := by
      show u.height * mkRat (soft - (u.steps + 1)) soft.toNat = _
      rw [e3, e2, show soft - (j + 1) = max 0 (soft - 1 - j) by omega]
    refine ⟨⟨fun z => by omega, fun _ z => ?_, fun z _ => ?_⟩, ep⟩
    · have : ¬ u.steps + 1 = soft := by omega
      refine ⟨?_, by show u.steps + 1 = j + 1; omega, e3⟩
      show (if u.steps + 1 = soft then wH else u.word) = wF
      rw [if_neg this, e1]
    · have : u.steps + 1 = soft := by omega
      refine ⟨?_, ?_⟩
      · show (if u.steps + 1 = soft then wH else u.word) = wH
        rw [if_pos this]
      · rw [ep, show max 0 (soft - 1 - j) = 0 by omega, mk0]
        grind
  by_cases e0 : j = 0
  · obtain ⟨p0, w1, w2⟩ := h.a e0
    have e : v.give t soft = VoiceS.fall { v with loud := v.loud.on, word := wF, steps := 0, height := v.part } soft := by
      unfold VoiceS.give
      rw [if_neg w1, if_neg (by rw [hm]; decide), if_neg w2]
      rfl
    rw [e]
    exact fall _ rfl e0.symm p0 (by omega)
  · by_cases hj : j < soft
    · obtain ⟨w1, s1, hh⟩ := h.b (by omega) hj
      have e : v.give t soft = VoiceS.fall { v with loud := v.loud.on } soft := by
        unfold VoiceS.give
        rw [if_pos w1]
      rw [e]
      exact fall _ w1 s1 hh hj
    · obtain ⟨w1, p0⟩ := h.c (by omega) (by omega)
      rw [give_idle hr w1]
      refine ⟨⟨fun z => by omega, fun _ z => by omega, fun _ _ => ⟨w1, p0⟩⟩, ?_⟩
      show v.part = _
      rw [p0, show max 0 (soft - 1 - j) = 0 by omega, mk0]
      grind
/-- two voices that differ in whether the end is told go alike where they may sound -/
theorem give_alike {v : VoiceS} {m : Option Int} {t soft : Int} (hr : ({ v.line with many := m } : LineS).ready t = v.line.ready t) : VoiceS.give { v with line := { v.line with many := m } } t soft = { v.give t soft with line := { v.line with many := m } } := by
  have hv : ({ v.line with many := m } : LineS).value t = v.line.value t := rfl
  have hm : VoiceS.may { v with line := { v.line with many := m } } t = v.may t := by
    unfold VoiceS.may
    show (v.heard && _) = _
    rw [hr]
  unfold VoiceS.give
  rw [hm]
  by_cases e1 : v.word = wF
  · rw [if_pos e1, if_pos e1]
    rfl
  · rw [if_neg e1, if_neg e1]
    by_cases e2 : v.may t = true
    · rw [if_pos e2, if_pos e2]
      unfold VoiceS.sound
      by_cases e3 : v.word = wO
      · rw [if_pos e3, if_pos e3]
        rfl
      · rw [if_neg e3, if_neg e3]
        by_cases e4 : v.word = wH
        · rw [if_pos e4, if_pos e4]
          rfl
        · rw [if_neg e4, if_neg e4]
          rfl
    · rw [if_neg e2, if_neg e2]
      by_cases e3 : v.word = wH
      · rw [if_pos e3, if_pos e3]
      · rw [if_neg e3, if_neg e3]
        rfl
theorem give_heard (v : VoiceS) (t soft : Int) : (v.give t soft).heard = v.heard := by
  have hs : ∀ (u : VoiceS) (x : Rat), (u.sound x soft).heard = u.heard := by
    intro u x
    unfold VoiceS.sound
    by_cases e : u.word = wO
    · rw [if_pos e]
    · rw [if_neg e]
      by_cases e2 : u.word = wH
      · rw [if_pos e2]
        rfl
      · rw [if_neg e2]
        rfl
  unfold VoiceS.give
  by_cases e : v.word = wF
  · rw [if_pos e]
    rfl
  · rw [if_neg e]
    by_cases e2 : v.may t = true
    · rw [if_pos e2]
      exact hs _ _
    · rw [if_neg e2]
      by_cases e3 : v.word = wH
      · rw [if_pos e3]
      · rw [if_neg e3]
        rfl
end Mx

namespace Mx
open PySem L2
/-! ### a beat, each voice with bits of its own -/
def sB (bv : Int → Nat) : List Int → Nat
  | [] => 0
  | n :: r => bv n + 25 + sB bv r
theorem sB_snoc (bv : Int → Nat) : ∀ (ys : List Int) (n : Int), sB bv (ys ++ [n]) = sB bv ys + (bv n + 25)
  | [], n => by simp [sB]
  | m :: r, n => by
    show bv m + 25 + sB bv (r ++ [n]) = bv m + 25 + sB bv r + (bv n + 25)
    rw [sB_snoc bv r n]
    omega
theorem sB_perm {bv : Int → Nat} {xs ys : List Int} (h : xs.Perm ys) : sB bv xs = sB bv ys := by
  induction h with
  | nil => rfl
  | cons x _ ih => show _ + sB bv _ = _ + sB bv _; rw [ih]
  | swap x y l => show _ + (_ + sB bv l) = _ + (_ + sB bv l); omega
  | trans _ _ h1 h2 => exact h1.trans h2
theorem sB_take (bv : Int → Nat) : ∀ (ys : List Int) (i : Nat), sB bv (ys.take i) ≤ sB bv ys
  | [], i => by simp [sB]
  | n :: r, 0 => by simp [sB]
  | n :: r, i + 1 => by
    show bv n + 25 + sB bv (r.take i) ≤ bv n + 25 + sB bv r
    have := sB_take bv r i
    omega
structure MixOkV (bv : Int → Nat) (s : MixS) : Prop where
  s1 : 1 ≤ s.soft
  s2 : s.soft ≤ 16
  d0 : ∀ e ∈ s.vs, 0 < bv e.1
  vo : ∀ e ∈ s.vs, VoiceOk (bv e.1) s.soft e.2.2
  nm : ∀ e ∈ s.vs, 0 ≤ e.1 ∧ e.1 ≤ 5
  six : s.vs.length ≤ 6
  bits : sB bv (s.vs.map (·.1)) < 4400
  lk : s.lacked.length + s.vs.length ≤ 100000
theorem sum_rbV {bv : Int → Nat} {s : MixS} (hO : MixOkV bv s) (hn : (s.vs.map (·.1)).Nodup) : ∀ (zs : List Int), (∀ n ∈ zs, ∃ e ∈ s.vs, e.1 = n) → Rb (1 + sB bv zs) (sumOf s zs)
  | [], _ => ⟨by show (0 : Int).natAbs < _; exact Nat.two_pow_pos _, by show 1 < _; exact Nat.one_lt_two_pow (by omega)⟩
  | n :: r, h => by
    obtain ⟨e, he, rfl⟩ := h n List.mem_cons_self
    have h1 := sum_rbV hO hn r fun m hm => h m (List.mem_cons_of_mem _ hm)
    have h2 := ((hO.vo e he).give hO.s1 hO.s2 s.coming).part
    have h3 := h2.add h1
    show Rb _ (partOf s e.1 + sumOf s r)
    rw [partOf_mem hn he]
    refine h3.mono ?_
    show _ ≤ 1 + (bv e.1 + 25 + sB bv r)
    omega
set_option hygiene false in
local macro_rules | `(tactic| walk_at "rd") => `(tactic| try simp only [L2.start, List.map_cons, List.map_nil, List.length_cons, List.length_nil, Nat.reduceAdd, Nat.reduceSub, Nat.reduceLT, Nat.reduceLeDiff, List.replicate_succ, List.replicate_zero, List.append_nil, List.nil_append, List.cons_append, List.set_cons_zero, List.set_cons_succ, List.getElem?_cons_zero, List.getElem?_cons_succ,
  Option.some.injEq, List.cons.injEq, and_true, true_and, and_assoc, reduceCtorEq, L2.V.int.injEq, L2.V.ref.injEq, L2.V.bl.injEq, L2.V.str.injEq, L2.V.ty.injEq, L2.HO.ins.injEq, L2.HO.lst.injEq, L2.HO.tup.injEq, L2.HO.dK.injEq, exists_eq_left', exists_eq_left, exists_eq_right, exists_eq', exists_eq, exists_and_left, exists_and_right, reduceIte, Bool.false_eq_true, Bool.not_true, Bool.not_false,
  L2.tSeq, L2.tIfS, L2.tRet, L2.tRetN, L2.tNext, L2.tAsg, L2.gName, L2.tVar, L2.tC, L2.tCons, L2.tNil, L2.tCB, L2.tOp, L2.tUn, L2.tTup, L2.tLst, L2.tB, L2.tOr, L2.tAnd, L2.tNot, L2.tAndV, L2.tOrV, L2.tNotV, L2.tIf, L2.tTest, L2.tChain, L2.rI, L2.rI0, L2.rU, L2.tDrop, L2.tNever, L2.tCall, L2.tMeth, L2.tMake, L2.rGcd, L2.tFld, L2.sFld, L2.sFldAug, Mx.sFldA, Mx.sFldAugA, L2.rAdd, L2.rSub, L2.rEq, L2.rNe, L2.tDGet, L2.tDIn, L2.tDNotIn, L2.sDPut,
  Mx.isi_int_bool, Mx.isi_int_int, Mx.isi_int_tuple, Mx.isi_int_list, Mx.isi_int_str, Mx.scal_int, Mx.scal_str, Mx.scal_bl, Mx.ofString_inj, Mx.ofString_beq, Mx.lk_cons, Mx.pf_nil, Mx.pf_cons, Mx.sz1, Mx.sz2, List.lookup_nil, String.reduceEq, decide_true, decide_false, decide_eq_true_eq, Int.natAbs_natCast, L2.upd_same, L2.upd_upd, L2.cxOf, Mx.fsM, Mx.fsV, Mx.fsL, Mx.optV])
set_option hygiene false in
local macro_rules | `(tactic| walk_at "rds") => `(tactic| try simp only [L2.start, List.map_cons, List.map_nil, List.length_cons, List.length_nil, Nat.reduceAdd, Nat.reduceSub, Nat.reduceLT, Nat.reduceLeDiff, List.replicate_succ, List.replicate_zero, List.append_nil, List.nil_append, List.cons_append, List.set_cons_zero, List.set_cons_succ, List.getElem?_cons_zero, List.getElem?_cons_succ,
  Option.some.injEq, List.cons.injEq, and_true, true_and, and_assoc, reduceCtorEq, L2.V.int.injEq, L2.V.ref.injEq, L2.V.bl.injEq, L2.V.str.injEq, L2.V.ty.injEq, L2.HO.ins.injEq, L2.HO.lst.injEq, L2.HO.tup.injEq, L2.HO.dK.injEq, exists_eq_left', exists_eq_left, exists_eq_right, exists_eq', exists_eq, exists_and_left, exists_and_right, reduceIte, Bool.false_eq_true, Bool.not_true, Bool.not_false,
  L2.tSeq, L2.tIfS, L2.tRet, L2.tRetN, L2.tNext, L2.tAsg, L2.gName, L2.tVar, L2.tC, L2.tCons, L2.tNil, L2.tCB, L2.tOp, L2.tUn, L2.tTup, L2.tLst, L2.tB, L2.tOr, L2.tAnd, L2.tNot, L2.tAndV, L2.tOrV, L2.tNotV, L2.tIf, L2.tTest, L2.tChain, L2.rI, L2.rI0, L2.rU, L2.tDrop, L2.tNever, L2.tCall, L2.tMeth, L2.tMake, L2.rGcd, L2.tFld, L2.sFld, L2.sFldAug, Mx.sFldA, Mx.sFldAugA, L2.rAdd, L2.rSub, L2.rEq, L2.rNe, L2.tDGet, L2.tDIn, L2.tDNotIn, L2.sDPut,
  Mx.isi_int_bool, Mx.isi_int_int, Mx.isi_int_tuple, Mx.isi_int_list, Mx.isi_int_str, Mx.scal_int, Mx.scal_str, Mx.scal_bl, Mx.ofString_inj, Mx.ofString_beq, Mx.lk_cons, Mx.pf_nil, Mx.pf_cons, Mx.sz1, Mx.sz2, List.lookup_nil, String.reduceEq, decide_true, decide_false, decide_eq_true_eq, Int.natAbs_natCast, L2.upd_same, L2.upd_upd, L2.cxOf, Mx.fsM, Mx.fsV, Mx.fsL, Mx.optV, *])

section
variable {P : Program} {w : World} {K : PySem.W.Frag} {mg : Str → Option Value} {base : Heap} {cs : Cs} {C : Addr}
def sp_Mixer_beatV (K : PySem.W.Frag) (cs : Cs) : Sp := fun vs H Q _ => ∃ (m d k : Addr) (s : MixS) (bv : Int → Nat), vs = [.ref m] ∧ MixAt K cs H m d k s ∧ MixOkV bv s ∧
  ∀ (r : V) (ys : List Int) (H' : Hp), ys.Perm (s.vs.map (·.1)) → ys.Pairwise (· ≤ ·) → IsQ K H' r (sumOf s ys) → MixAt K cs H' m d k (s.beat ys) → Stp (s.foot m d k) H H' → Q r H'
theorem ok_Mixer_beatV {f : Addr} {fd : FuncData} (F : Fun K "beat" "Mixer.beat" s_Mixer_beat f fd) (T : TM K cs.M) (TVV : TV K cs.V) (TT : TC K mg) (B : Blt mg) (G1 : OwnM P w K mg base cs.L "lacks" 5 ["self", "beat"] (sp_Line_bool cs.L LineS.lacks))
    (G2 : OwnM P w K mg base cs.V "give" 7 ["self", "beat", "soft"] (sp_Voice_give K cs)) (G3 : OwnF P w K mg base "plus" 2 ["one", "other"] (sp_two (· + ·) K)) : FnOk P w K mg base CX0 8 f fd ["self"] (sp_Mixer_beatV K cs) := by
  refine F.ok sc_Mixer_beat (fun vs H Q E h => ?_) (fun cdv A outer s H vs Q E hr h => ?_)
  · obtain ⟨m, d, k, s, bv, rfl, _⟩ := h
    rfl
  · obtain ⟨m, d, k, s, bv, rfl, hM, hO, q⟩ := h
    obtain ⟨aN, hN, hN2⟩ := TT.nothing
    have hu := hu_of hr
    refine ⟨_, pss_cons (ps_set (i := 1) sc_Mixer_beat.nd rfl (.inl rfl) (pe_glob (v := .ref aN) (by rfl) hN rfl))
      (pss_cons (ps_for PassesOwn.never rfl (pi_list (pe_callB (call_sortedDI rfl) (by rfl) B.sorted PyProof.Rows.boot_sorted (pa_cons (pe_fld (pv 0) rfl) pa_nil))) (pg_name (i := 2) sc_Mixer_beat.nd rfl (.inl rfl))
        (pss_cons (ps_set (i := 3) sc_Mixer_beat.nd rfl (.inl rfl) (pe_dget hu (pe_fld (pv 0) rfl) (pv 2) (fun _ _ => rfl)))
        (pss_cons (ps_if (pt_val (p_meth G1 (hr.mono (by decide)) (pe_fld (pv 3) rfl) (pa_cons (pe_fld (pv 0) rfl) pa_nil)))
          (pss_one (ps_expr (pe_bm PySem.F.plainAttrs_list PySem.F.slot_list_append PySem.F.type_list_append mt_append (pe_fld (pv 0) rfl) (pa_cons (pe_tup (pa_cons (pv 2) (pa_cons (pe_fld (pv 0) rfl) pa_nil))) pa_nil)))) pss_nil)
        (pss_one (ps_set (i := 1) sc_Mixer_beat.nd rfl (.inl rfl) (p_call G3 (hr.mono (by decide)) (pa_cons (pv 1) (pa_cons (p_meth G2 hr (pv 3) (pa_cons (pe_fld (pv 0) rfl) (pa_cons (pe_fld (pv 0) rfl) pa_nil))) pa_nil))))))))
      (pss_cons (ps_fldaugA (pv 0) pe_int in_add) (pss_one (ps_ret (pv 1))))), ?_⟩
    obtain ⟨cl, a1, a2, a3, a4⟩ := T
    obtain ⟨vcl, b1, _⟩ := TVV
    obtain ⟨dx, h1⟩ := id hM.ob
    have hdv := hM.dv
    walk_at "rds"
    have hlen6 : sB bv (s.vs.map (·.1)) < 4400 := hO.bits
    have hvl : s.vs.length < 64 := Nat.lt_of_le_of_lt hO.six (by decide)
    refine ⟨_, rfl, m, cs.M, dx, _, _, rfl, h1, cl, a3, rfl, d, rfl, _, .inl hdv, s.vs.map (·.1), ?_, ?_, fun ys p hpm hpw hp0 => ⟨p, rfl, ⟨_, .inl (.inl upd_same)⟩, ?_⟩⟩
    · unfold vdict
      rw [List.map_map, List.map_map]
      rfl
    · rw [List.length_map]
      exact hvl
    have hpf : p ∉ s.foot m d k := fun z => hM.some p z hp0
    have s0 := Stp.new (o := .lst (ys.map V.int)) hp0
    have hndy : ys.Nodup := hpm.nodup_iff.mpr hM.nm
    have hsub : ∀ n ∈ ys, ∃ e ∈ s.vs, e.1 = n := fun n hn => by
      obtain ⟨e, he, q⟩ := List.mem_map.mp (hpm.mem_iff.mp hn)
      exact ⟨e, he, q⟩
    have hS : sB bv ys < 4400 := by rw [sB_perm hpm]; exact hlen6
    have hyl : ys.length = s.vs.length := by rw [hpm.length_eq, List.length_map]
    refine for_list (K := K) (a := p) (xs := ys.map V.int) (fun i σ H2 => ∃ tv v2 v3, σ = [some (.ref m), some tv, v2, v3] ∧ IsQ K H2 tv (sumOf s (ys.take i)) ∧ MixAt K cs H2 m d k (s.some' (ys.take i)) ∧ Stp (s.foot m d k) H H2 ∧ H2 p = some (.lst (ys.map V.int)))
      ⟨_, _, _, rfl, isQ0 hN2, by rw [List.take_zero, some_nil]; exact hM.st0 s0, s0.sub (by simp), upd_same⟩ (fun i σ H2 _ h => ?_) (fun i x σ H2 hi h => ?_) (fun σ H2 h => ?_)
    · obtain ⟨_, _, _, _, _, _, _, hp2⟩ := h
      exact .inl (.inl hp2)
    · obtain ⟨tv, v2, v3, rfl, htv, hM2, st2, hp2⟩ := h
      rw [List.getElem?_map] at hi
      obtain ⟨n, hn, rfl⟩ := Option.map_eq_some_iff.mp hi
      have hil : i < ys.length := (List.getElem?_eq_some_iff.mp hn).1
      have hnm : n ∈ ys := List.mem_of_getElem? hn
      obtain ⟨e, he, rfl⟩ := hsub n hnm
      have htk : ys.take (i + 1) = ys.take i ++ [e.1] := by rw [List.take_add_one, hn]; rfl
      have hni : e.1 ∉ ys.take i := by
        intro z
        have h2 := hndy.sublist (List.take_sublist (i + 1) ys)
        rw [htk, List.nodup_append] at h2
        exact h2.2.2 _ z _ (by simp) rfl
      have he2 : e ∈ (s.some' (ys.take i)).vs := by
        refine List.mem_map.mpr ⟨e, he, ?_⟩
        rw [if_neg hni]
      have hib : sB bv (ys.take (i + 1)) ≤ sB bv ys := sB_take _ _ _
      have hib1 : sB bv (ys.take (i + 1)) = sB bv (ys.take i) + (bv e.1 + 25) := by rw [htk, sB_snoc]
      obtain ⟨dx2, h12⟩ := hM2.ob
      have hd2 := hM2.dv
      have gd := DGet.k (k := (Sum.inl e.1 : Key)) hd2
      rw [vdict_get hM2.nm he2] at gd
      have hv2 := hM2.vo e he2
      obtain ⟨dy2, pv2', hv2', gv2, _, _⟩ := hv2.ob
      obtain ⟨dl2, tp2, gl2, _⟩ := hv2.line.ob
      walk_at "rds"
      refine ⟨_, gd, ?_⟩
      walk_at "rds"
      refine ⟨e.2.1.l, e.2.1.c, e.2.2.line, s.coming, rfl, hv2.line, (hO.vo e he).line, fun H3 s3 => ?_⟩
      have hM3 := hM2.st0 s3
      have hrb : Rb (1 + sB bv (ys.take i)) (sumOf s (ys.take i)) := by
        exact sum_rbV hO hM.nm (ys.take i) fun n hn => hsub n (List.mem_of_mem_take hn)
      walk_at "rd"
      cases hlk : e.2.2.line.lacks s.coming with
      | false =>
        have hlk2 : e.2.2.line.lacks s.coming = true ∧ ([] : List (Int × Int)) = [(e.1, s.coming)] ∨ e.2.2.line.lacks s.coming = false ∧ ([] : List (Int × Int)) = [] := .inr ⟨hlk, rfl⟩
        rw [if_neg (by decide)]
        have hM4 : MixAt K cs H3 m d k { s.some' (ys.take i) with lacked := (s.some' (ys.take i)).lacked ++ [] } := by
          rw [List.append_nil]
          exact hM3
        have st4 := st2.trans s3
        have ht4 := htv.st s3
        have hp4 := s3.keep _ _ hp2 (by simp)
        have hv4 := hM4.vo e he2
        obtain ⟨dx4, g4⟩ := hM4.ob
        obtain ⟨dy4, pv4, hv4', gv4, _, _⟩ := hv4.ob
        walk_at "rds"
        refine ⟨e.2.1, e.2.2, s.coming, s.soft, bv e.1, rfl, hv4, hO.vo e he, hO.s1, hO.s2, hO.d0 e he, by omega, fun r H5 hr5 hv5 s5 => ?_⟩
        obtain ⟨ar, rfl, tr⟩ := hr5
        obtain ⟨atv, rfl, ttv⟩ := ht4
        have hM5 := hM4.turn he2 s5 (fun x hx => hx) hv5
        refine ⟨atv, ar, sumOf s (ys.take i), (e.2.2.give s.coming s.soft).part, 1 + sB bv (ys.take i), bv e.1 + 24, rfl, ttv.st s5, tr, hrb, ((hO.vo e he).give hO.s1 hO.s2 s.coming).part, by omega, by omega, by omega, fun r6 H6 hp6 s6 l6 => ?_⟩
        have hfe : ∀ x ∈ e.2.1.foot, x ∈ s.foot m d k := fun x hx => by
          unfold MixS.foot
          exact List.mem_cons_of_mem _ (List.mem_cons_of_mem _ (List.mem_cons_of_mem _ (List.mem_flatMap.mpr ⟨e, he, hx⟩)))
        refine ⟨?_, ?_, ((st4.trans s5).trans s6).sub ?_, ?_⟩
        · rw [sumOf_snoc, partOf_mem hM.nm he]
          exact isQ_of l6
        · have := hM5.st0 s6
          rw [some_step hM.nm he hni rfl hlk2] at this
          exact this
        · intro x hx
          simp only [List.append_nil, List.mem_append] at hx
          exact hx.elim id (hfe x)
        · exact s6.keep _ _ (s5.keep _ _ hp4 fun z => hpf (hfe _ z)) (by simp)
      | true =>
        have hlk2 : e.2.2.line.lacks s.coming = true ∧ [(e.1, s.coming)] = [(e.1, s.coming)] ∨ e.2.2.line.lacks s.coming = false ∧ [(e.1, s.coming)] = [] := .inl ⟨hlk, rfl⟩
        rw [if_pos rfl]
        obtain ⟨ls, hl3, hpr3⟩ := hM3.lk
        obtain ⟨dx3, g3⟩ := hM3.ob
        refine ⟨_, rfl, m, cs.M, dx3, _, _, rfl, g3, cl, a4, rfl, .inl ⟨rfl, _, .inl (.inl hl3)⟩, ?_⟩
        refine ⟨_, rfl, _, rfl, m, cs.M, dx3, _, _, rfl, g3, cl, a2, rfl, by show 2 ≤ sizeLine; decide, fun T hT => ?_⟩
        have sT := Stp.new (o := .tup [.int e.1, .int (s.some' (ys.take i)).coming]) hT
        have hl4 := sT.keep _ _ hl3 (by simp)
        have hM4 : MixAt K cs (upd (upd H3 T (.tup [.int e.1, .int (s.some' (ys.take i)).coming])) k (.lst (ls ++ [.ref T]))) m d k { s.some' (ys.take i) with lacked := (s.some' (ys.take i)).lacked ++ [(e.1, s.coming)] } := (hM3.st0 sT).lack hl4 (T := T) (n := e.1) (b := (s.some' (ys.take i)).coming) upd_same
        have sL := Stp.put (o := .lst (ls ++ [.ref T])) hl4 (fun xs z => nomatch z)
        have hll := hM3.low hl3
        refine ⟨k, ls, .ref T, rfl, rfl, hl4, ?_, ?_⟩
        · rw [hll]
          have h1 : (s.some' (ys.take i)).lacked.length ≤ s.lacked.length + i := by
            show (s.lacked ++ ((ys.take i).filter (lackN s.vs s.coming)).map fun n => (n, s.coming)).length ≤ _
            rw [List.length_append, List.length_map]
            have := List.length_filter_le (lackN s.vs s.coming) (ys.take i)
            rw [List.length_take] at this
            omega
          have := hO.lk
          exact Nat.lt_of_le_of_lt (show _ ≤ 100000 by omega) (by decide)
        have st4 := ((st2.trans s3).trans sT).trans sL
        have ht4 := ((htv.st s3).st sT).st sL
        have hkp : p ≠ k := fun z => hpf (by rw [z]; simp [MixS.foot])
        have hp4 := sL.keep _ _ (sT.keep _ _ (s3.keep _ _ hp2 (by simp)) (by simp)) (by simpa using hkp)
        have hkf : k ∈ s.foot m d k := by simp [MixS.foot]
        have st4' := st4.sub (G := s.foot m d k) (by
          intro x hx
          simp only [List.append_nil, List.mem_append, List.mem_singleton] at hx
          exact hx.elim id fun z => z ▸ hkf)
        have st4 := st4'
        generalize upd (upd H3 T (.tup [.int e.1, .int (s.some' (ys.take i)).coming])) k (.lst (ls ++ [.ref T])) = H4 at *
        have hv4 := hM4.vo e he2
        obtain ⟨dx4, g4⟩ := hM4.ob
        obtain ⟨dy4, pv4, hv4', gv4, _, _⟩ := hv4.ob
        walk_at "rds"
        refine ⟨e.2.1, e.2.2, s.coming, s.soft, bv e.1, rfl, hv4, hO.vo e he, hO.s1, hO.s2, hO.d0 e he, by omega, fun r H5 hr5 hv5 s5 => ?_⟩
        obtain ⟨ar, rfl, tr⟩ := hr5
        obtain ⟨atv, rfl, ttv⟩ := ht4
        have hM5 := hM4.turn he2 s5 (fun x hx => hx) hv5
        refine ⟨atv, ar, sumOf s (ys.take i), (e.2.2.give s.coming s.soft).part, 1 + sB bv (ys.take i), bv e.1 + 24, rfl, ttv.st s5, tr, hrb, ((hO.vo e he).give hO.s1 hO.s2 s.coming).part, by omega, by omega, by omega, fun r6 H6 hp6 s6 l6 => ?_⟩
        have hfe : ∀ x ∈ e.2.1.foot, x ∈ s.foot m d k := fun x hx => by
          unfold MixS.foot
          exact List.mem_cons_of_mem _ (List.mem_cons_of_mem _ (List.mem_cons_of_mem _ (List.mem_flatMap.mpr ⟨e, he, hx⟩)))
        refine ⟨?_, ?_, ((st4.trans s5).trans s6).sub ?_, ?_⟩
        · rw [sumOf_snoc, partOf_mem hM.nm he]
          exact isQ_of l6
        · have := hM5.st0 s6
          rw [some_step hM.nm he hni rfl hlk2] at this
          exact this
        · intro x hx
          simp only [List.append_nil, List.mem_append] at hx
          exact hx.elim id (hfe x)
        · exact s6.keep _ _ (s5.keep _ _ hp4 fun z => hpf (hfe _ z)) (by simp)
    · obtain ⟨tv, v2, v3, rfl, htv, hM2, st2, hp2⟩ := h
      rw [List.length_map, List.take_length] at htv hM2
      obtain ⟨dx2, h12⟩ := hM2.ob
      have hne := hM2.ne
      walk_at "rds"
      intro H3 g3 s3
      walk_at "rd"
      refine q tv ys H3 hpm hpw (htv.st s3) ?_ ((st2.trans s3).sub ?_)
      · obtain ⟨_, u2, ⟨ls, u3, u4⟩, u5, u6, u7, u8⟩ := hM2
        have ev : (s.some' ys).vs = (s.beat ys).vs := List.map_congr_left fun e he => by
          rw [if_pos (hpm.mem_iff.mpr (List.mem_map.mpr ⟨e, he, rfl⟩))]
        rw [ev] at u2 u5 u6 u7 u8
        exact ⟨⟨dx2, g3⟩, s3.keep _ _ u2 (by simpa using hne.1.symm), ⟨ls, s3.keep _ _ u3 (by simpa using hne.2.1.symm), pairs_st s3 u4⟩, fun e he => (u5 e he).st s3 fun x hx z => (u6 e he).1 (List.mem_singleton.mp z ▸ hx), u6, u7, u8⟩
      · intro x hx
        simp only [List.mem_append, List.mem_singleton] at hx
        exact hx.elim id fun z => by rw [z]; simp [MixS.foot]
end
end Mx

namespace Mx
open PySem L2
set_option hygiene false in
local macro_rules | `(tactic| walk_at "rd") => `(tactic| try simp only [L2.start, List.map_cons, List.map_nil, List.length_cons, List.length_nil, Nat.reduceAdd, Nat.reduceSub, Nat.reduceLT, Nat.reduceLeDiff, List.replicate_succ, List.replicate_zero, List.append_nil, List.nil_append, List.cons_append, List.set_cons_zero, List.set_cons_succ, List.getElem?_cons_zero, List.getElem?_cons_succ,
  Option.some.injEq, List.cons.injEq, and_true, true_and, and_assoc, reduceCtorEq, L2.V.int.injEq, L2.V.ref.injEq, L2.V.bl.injEq, L2.V.str.injEq, L2.V.ty.injEq, L2.HO.ins.injEq, L2.HO.lst.injEq, L2.HO.tup.injEq, L2.HO.dK.injEq, exists_eq_left', exists_eq_left, exists_eq_right, exists_eq', exists_eq, exists_and_left, exists_and_right, reduceIte, Bool.false_eq_true, Bool.not_true, Bool.not_false,
  L2.tSeq, L2.tIfS, L2.tRet, L2.tRetN, L2.tNext, L2.tAsg, L2.gName, L2.tVar, L2.tC, L2.tCons, L2.tNil, L2.tCB, L2.tOp, L2.tUn, L2.tTup, L2.tLst, L2.tB, L2.tOr, L2.tAnd, L2.tNot, L2.tAndV, L2.tOrV, L2.tNotV, L2.tIf, L2.tTest, L2.tChain, L2.rI, L2.rI0, L2.rU, L2.tDrop, L2.tNever, L2.tCall, L2.tMeth, L2.tMake, L2.rGcd, L2.tFld, L2.sFld, L2.sFldAug, Mx.sFldA, Mx.sFldAugA, L2.rAdd, L2.rSub, L2.rEq, L2.rNe, L2.tDGet, L2.tDIn, L2.tDNotIn, L2.sDPut,
  Mx.isi_int_bool, Mx.isi_int_int, Mx.isi_int_tuple, Mx.isi_int_list, Mx.isi_int_str, Mx.scal_int, Mx.scal_str, Mx.scal_bl, Mx.ofString_inj, Mx.ofString_beq, Mx.lk_cons, Mx.pf_nil, Mx.pf_cons, Mx.sz1, Mx.sz2, List.lookup_nil, String.reduceEq, decide_true, decide_false, decide_eq_true_eq, Int.natAbs_natCast, L2.upd_same, L2.upd_upd, L2.cxOf, L2.gSub, L2.tPar, L2.gCons, L2.gNil, L2.tBM])
set_option hygiene false in
local macro_rules | `(tactic| walk_at "rds") => `(tactic| try simp only [L2.start, List.map_cons, List.map_nil, List.length_cons, List.length_nil, Nat.reduceAdd, Nat.reduceSub, Nat.reduceLT, Nat.reduceLeDiff, List.replicate_succ, List.replicate_zero, List.append_nil, List.nil_append, List.cons_append, List.set_cons_zero, List.set_cons_succ, List.getElem?_cons_zero, List.getElem?_cons_succ,
  Option.some.injEq, List.cons.injEq, and_true, true_and, and_assoc, reduceCtorEq, L2.V.int.injEq, L2.V.ref.injEq, L2.V.bl.injEq, L2.V.str.injEq, L2.V.ty.injEq, L2.HO.ins.injEq, L2.HO.lst.injEq, L2.HO.tup.injEq, L2.HO.dK.injEq, exists_eq_left', exists_eq_left, exists_eq_right, exists_eq', exists_eq, exists_and_left, exists_and_right, reduceIte, Bool.false_eq_true, Bool.not_true, Bool.not_false,
  L2.tSeq, L2.tIfS, L2.tRet, L2.tRetN, L2.tNext, L2.tAsg, L2.gName, L2.tVar, L2.tC, L2.tCons, L2.tNil, L2.tCB, L2.tOp, L2.tUn, L2.tTup, L2.tLst, L2.tB, L2.tOr, L2.tAnd, L2.tNot, L2.tAndV, L2.tOrV, L2.tNotV, L2.tIf, L2.tTest, L2.tChain, L2.rI, L2.rI0, L2.rU, L2.tDrop, L2.tNever, L2.tCall, L2.tMeth, L2.tMake, L2.rGcd, L2.tFld, L2.sFld, L2.sFldAug, Mx.sFldA, Mx.sFldAugA, L2.rAdd, L2.rSub, L2.rEq, L2.rNe, L2.tDGet, L2.tDIn, L2.tDNotIn, L2.sDPut,
  Mx.isi_int_bool, Mx.isi_int_int, Mx.isi_int_tuple, Mx.isi_int_list, Mx.isi_int_str, Mx.scal_int, Mx.scal_str, Mx.scal_bl, Mx.ofString_inj, Mx.ofString_beq, Mx.lk_cons, Mx.pf_nil, Mx.pf_cons, Mx.sz1, Mx.sz2, List.lookup_nil, String.reduceEq, decide_true, decide_false, decide_eq_true_eq, Int.natAbs_natCast, L2.upd_same, L2.upd_upd, L2.cxOf, L2.gSub, L2.tPar, L2.gCons, L2.gNil, L2.tBM, *])

section
variable {P : Program} {w : World} {K : PySem.W.Frag} {mg : Str → Option Value} {base : Heap}
/-! ### the law's own voice: its line in a dict -/
abbrev kS (x : Str) : Key := Sum.inr x
structure OvL (H : Hp) (d : Addr) (s : LineS) : Prop where
  ex : ∃ (kv kc : List (Key × V)) (tp dc : Addr), H d = some (.dK kv) ∧ valV kv (kS "pace") = some (.ref tp) ∧ H tp = some (.tup [.int s.pn, .int s.pb]) ∧ valV kv (kS "begin") = some (.int s.beg) ∧ valV kv (kS "came") = some (.ref dc) ∧ H dc = some (.dK kc) ∧ (∀ i : Int, (valV kc (Sum.inl i : Key)).isSome = s.has i) ∧ valV kv (kS "many") = some (optV s.many)
theorem OvL.st0 {H H' : Hp} {d : Addr} {s : LineS} (h : OvL H d s) (k : Stp [] H H') : OvL H' d s := by
  obtain ⟨kv, kc, tp, dc, h1, h2, h3, h4, h5, h6, h7, h8⟩ := h
  exact ⟨kv, kc, tp, dc, k.keep _ _ h1 (by simp), h2, k.tup _ _ h3, h4, h5, k.keep _ _ h6 (by simp), h7, h8⟩
theorem dgs {H : Hp} {d : Addr} {kv : List (Key × V)} {x : Str} {v : V} (h : H d = some (.dK kv)) (e : valV kv (kS x) = some v) : DGet H d (.str x) (some v) := by
  have := DGet.k (k := kS x) h
  rw [e] at this
  exact this
def sp_own_places : Sp := fun vs H Q _ => ∃ (d : Addr) (s : LineS) (t : Int), vs = [.ref d, .int t] ∧ OvL H d s ∧ LineOk s ∧ ∀ p l H', H p = none → H l = none → Stp [] H H' → H' p = some (.tup [.ref l, .int (s.rest t)]) → H' l = some (.lst ((s.want t).map V.int)) → Q (.ref p) H'
theorem sc_law_places : FnScope ["_law_v", "_law_beat_here", "_law_far", "_law_place", "_law_rest"] ["_law_v", "_law_beat_here"] (defScope s_law_places) := ⟨rfl, rfl, rfl, by decide +kernel, rfl, by decide +kernel, by decide +kernel⟩
theorem ok_law_places {f : Addr} {fd : FuncData} (F : Fun K "_law_places" "_law_places" s_law_places f fd) (B : Blt mg) : FnOk P w K mg base CX0 1 f fd ["_law_v", "_law_beat_here"] sp_own_places := by
  refine F.ok sc_law_places (fun vs H Q E h => ?_) (fun cdv A outer s H vs Q E hr h => ?_)
  · obtain ⟨d, s, t, rfl, _⟩ := h
    rfl
  · obtain ⟨d, s, t, rfl, hO, hL, k⟩ := h
    have nd := sc_law_places.nd
    have hu := hu_of hr
    refine ⟨_, (pss_cons (ps_set (i := 2) nd rfl (.inl rfl) (pe_op op_mul (pe_op op_sub (pv 1) (pe_dget hu (pv 0) pe_str (fun _ _ => rfl))) (pe_ix ix_tup (pe_dget hu (pv 0) pe_str (fun _ _ => rfl)) pe_int (fun _ _ => rfl))))
      (pss_cons (ps_set (i := 3) nd rfl (.inl rfl) (pe_op op_fdiv (pv 2) (pe_ix ix_tup (pe_dget hu (pv 0) pe_str (fun _ _ => rfl)) pe_int (fun _ _ => rfl))))
      (pss_cons (ps_set (i := 4) nd rfl (.inl rfl) (pe_op op_sub (pv 2) (pe_op op_mul (pv 3) (pe_ix ix_tup (pe_dget hu (pv 0) pe_str (fun _ _ => rfl)) pe_int (fun _ _ => rfl)))))
      (pss_one (ps_ret (pe_tup (pa_cons (pe_op op_cat (pe_lst (pa_cons (pv 3) pa_nil)) (pe_op op_rep (pe_lst (pa_cons (pe_op op_add (pv 3) pe_int) pa_nil)) (pe_callTy call_int1 (by rfl) B.int PyProof.Rows.boot_int (pa_cons (pe_cmpR op_gt (pv 4) pe_int (nomark _)) pa_nil)))) (pa_cons (pv 4) pa_nil)))))))), ?_⟩
    obtain ⟨kv, kc, tp, dc, h1, h2, h3, h4, h5, h6, h7, h8⟩ := hO
    obtain ⟨b1, b2, b3, b4, _, _⟩ := hL
    have gB := dgs h1 h4
    have gP := dgs h1 h2
    have hT : TupAt K H tp [.int s.pn, .int s.pb] := .inl h3
    walk_at "rd"
    have eR : (t - s.beg) * s.pn - (t - s.beg) * s.pn / s.pb * s.pb = s.rest t := by
      unfold LineS.rest
      rw [Int.emod_def, Int.mul_comm s.pb]
    refine ⟨_, gB, _, rfl, _, gP, ixT_0 hT ⟨_, rfl, .inr ⟨by omega, by omega⟩, _, gP, ixT_1 hT ⟨_, rfl, ⟨by omega, by omega⟩, _, gP, ixT_1 hT ⟨_, rfl, .inr ⟨by omega, by omega⟩, fun l1 hl1 l2 hl2 => .inr ?_⟩⟩⟩⟩
    rw [eR]
    have s1 := Stp.new (o := .lst [.int ((t - s.beg) * s.pn / s.pb)]) hl1
    have e1 : upd H l1 (.lst [.int ((t - s.beg) * s.pn / s.pb)]) l1 = some (.lst [.int ((t - s.beg) * s.pn / s.pb)]) := upd_same
    have hn1 : l1 ≠ l2 := ne_of_none e1 hl2
    generalize upd H l1 (.lst [.int ((t - s.beg) * s.pn / s.pb)]) = H1 at *
    have s2 := Stp.new (o := .lst [.int ((t - s.beg) * s.pn / s.pb + 1)]) hl2
    have e2 : upd H1 l2 (.lst [.int ((t - s.beg) * s.pn / s.pb + 1)]) l2 = some (.lst [.int ((t - s.beg) * s.pn / s.pb + 1)]) := upd_same
    have e12 := s2.keep _ _ e1 (by simp)
    generalize upd H1 l2 (.lst [.int ((t - s.beg) * s.pn / s.pb + 1)]) = H2 at *
    have er : (List.replicate (if 0 < s.rest t then (1 : Int) else 0).toNat [V.int ((t - s.beg) * s.pn / s.pb + 1)]).flatten = if s.rest t = 0 then [] else [V.int ((t - s.beg) * s.pn / s.pb + 1)] := by
      have r0 : 0 ≤ s.rest t := Int.emod_nonneg _ (by omega)
      by_cases h0 : s.rest t = 0
      · rw [h0]; rfl
      · rw [if_neg h0, if_pos (by omega)]; rfl
    refine ⟨_, _, _, rfl, rfl, e2, by split <;> decide, by split <;> decide, ?_, fun l3 hl3 => ?_⟩
    · show 1 * _ ≤ _
      split <;> decide
    rw [er]
    have el : (if s.rest t = 0 then [] else [V.int ((t - s.beg) * s.pn / s.pb + 1)]).length ≤ 1 := by split <;> simp
    generalize ez : (if s.rest t = 0 then [] else [V.int ((t - s.beg) * s.pn / s.pb + 1)]) = zs at *
    have s3 := Stp.new (o := .lst zs) hl3
    have e3 : upd H2 l3 (.lst zs) l3 = some (.lst zs) := upd_same
    have e13 := s3.keep _ _ e12 (by simp)
    generalize upd H2 l3 _ = H3 at *
    refine ⟨_, _, _, _, rfl, rfl, e13, e3, by rw [List.length_singleton]; exact Nat.le_trans (Nat.add_le_add_left el 1) (by decide), fun l4 hl4 => ?_⟩
    have ew : [V.int ((t - s.beg) * s.pn / s.pb)] ++ zs = (s.want t).map V.int := by
      rw [← ez]
      unfold LineS.want LineS.low
      split <;> rfl
    rw [ew]
    have s4 := Stp.new (o := .lst ((s.want t).map V.int)) hl4
    have e4 : upd H3 l4 (.lst ((s.want t).map V.int)) l4 = _ := upd_same
    generalize upd H3 l4 _ = H4 at *
    intro p hp
    have s5 := Stp.new (o := .tup [.ref l4, .int (s.rest t)]) hp
    have e5 : upd H4 p (.tup [.ref l4, .int (s.rest t)]) p = _ := upd_same
    have s0 := s1.trans (s2.trans (s3.trans s4))
    refine k p l4 _ (s0.free hp (by simp)) ((s1.trans (s2.trans s3)).free hl4 (by simp)) (s0.trans s5) e5 (s5.keep _ _ e4 (by simp))
end
end Mx

namespace Mx
open PySem L2
set_option hygiene false in
local macro_rules | `(tactic| walk_at "rd") => `(tactic| try simp only [L2.start, List.map_cons, List.map_nil, List.length_cons, List.length_nil, Nat.reduceAdd, Nat.reduceSub, Nat.reduceLT, Nat.reduceLeDiff, List.replicate_succ, List.replicate_zero, List.append_nil, List.nil_append, List.cons_append, List.set_cons_zero, List.set_cons_succ, List.getElem?_cons_zero, List.getElem?_cons_succ,
  Option.some.injEq, List.cons.injEq, and_true, true_and, and_assoc, reduceCtorEq, L2.V.int.injEq, L2.V.ref.injEq, L2.V.bl.injEq, L2.V.str.injEq, L2.V.ty.injEq, L2.HO.ins.injEq, L2.HO.lst.injEq, L2.HO.tup.injEq, L2.HO.dK.injEq, exists_eq_left', exists_eq_left, exists_eq_right, exists_eq', exists_eq, exists_and_left, exists_and_right, reduceIte, Bool.false_eq_true, Bool.not_true, Bool.not_false,
  L2.tSeq, L2.tIfS, L2.tRet, L2.tRetN, L2.tNext, L2.tAsg, L2.gName, L2.tVar, L2.tC, L2.tCons, L2.tNil, L2.tCB, L2.tOp, L2.tUn, L2.tTup, L2.tLst, L2.tB, L2.tOr, L2.tAnd, L2.tNot, L2.tAndV, L2.tOrV, L2.tNotV, L2.tIf, L2.tTest, L2.tChain, L2.rI, L2.rI0, L2.rU, L2.tDrop, L2.tNever, L2.tCall, L2.tMeth, L2.tMake, L2.rGcd, L2.tFld, L2.sFld, L2.sFldAug, Mx.sFldA, Mx.sFldAugA, L2.rAdd, L2.rSub, L2.rEq, L2.rNe, L2.tDGet, L2.tDIn, L2.tDNotIn, L2.sDPut,
  Mx.isi_int_bool, Mx.isi_int_int, Mx.isi_int_tuple, Mx.isi_int_list, Mx.isi_int_str, Mx.scal_int, Mx.scal_str, Mx.scal_bl, Mx.ofString_inj, Mx.ofString_beq, Mx.lk_cons, Mx.pf_nil, Mx.pf_cons, Mx.sz1, Mx.sz2, List.lookup_nil, String.reduceEq, decide_true, decide_false, decide_eq_true_eq, Int.natAbs_natCast, L2.upd_same, L2.upd_upd, L2.cxOf, L2.gSub, L2.tPar, L2.gCons, L2.gNil, L2.tBM, Mx.optV])
set_option hygiene false in
local macro_rules | `(tactic| walk_at "rds") => `(tactic| try simp only [L2.start, List.map_cons, List.map_nil, List.length_cons, List.length_nil, Nat.reduceAdd, Nat.reduceSub, Nat.reduceLT, Nat.reduceLeDiff, List.replicate_succ, List.replicate_zero, List.append_nil, List.nil_append, List.cons_append, List.set_cons_zero, List.set_cons_succ, List.getElem?_cons_zero, List.getElem?_cons_succ,
  Option.some.injEq, List.cons.injEq, and_true, true_and, and_assoc, reduceCtorEq, L2.V.int.injEq, L2.V.ref.injEq, L2.V.bl.injEq, L2.V.str.injEq, L2.V.ty.injEq, L2.HO.ins.injEq, L2.HO.lst.injEq, L2.HO.tup.injEq, L2.HO.dK.injEq, exists_eq_left', exists_eq_left, exists_eq_right, exists_eq', exists_eq, exists_and_left, exists_and_right, reduceIte, Bool.false_eq_true, Bool.not_true, Bool.not_false,
  L2.tSeq, L2.tIfS, L2.tRet, L2.tRetN, L2.tNext, L2.tAsg, L2.gName, L2.tVar, L2.tC, L2.tCons, L2.tNil, L2.tCB, L2.tOp, L2.tUn, L2.tTup, L2.tLst, L2.tB, L2.tOr, L2.tAnd, L2.tNot, L2.tAndV, L2.tOrV, L2.tNotV, L2.tIf, L2.tTest, L2.tChain, L2.rI, L2.rI0, L2.rU, L2.tDrop, L2.tNever, L2.tCall, L2.tMeth, L2.tMake, L2.rGcd, L2.tFld, L2.sFld, L2.sFldAug, Mx.sFldA, Mx.sFldAugA, L2.rAdd, L2.rSub, L2.rEq, L2.rNe, L2.tDGet, L2.tDIn, L2.tDNotIn, L2.sDPut,
  Mx.isi_int_bool, Mx.isi_int_int, Mx.isi_int_tuple, Mx.isi_int_list, Mx.isi_int_str, Mx.scal_int, Mx.scal_str, Mx.scal_bl, Mx.ofString_inj, Mx.ofString_beq, Mx.lk_cons, Mx.pf_nil, Mx.pf_cons, Mx.sz1, Mx.sz2, List.lookup_nil, String.reduceEq, decide_true, decide_false, decide_eq_true_eq, Int.natAbs_natCast, L2.upd_same, L2.upd_upd, L2.cxOf, L2.gSub, L2.tPar, L2.gCons, L2.gNil, L2.tBM, Mx.optV, *])

section
variable {P : Program} {w : World} {K : PySem.W.Frag} {mg : Str → Option Value} {base : Heap}
def sp_own_bool (g : LineS → Int → Bool) : Sp := fun vs H Q _ => ∃ (d : Addr) (s : LineS) (t : Int), vs = [.ref d, .int t] ∧ OvL H d s ∧ LineOk s ∧ ∀ H', Stp [] H H' → Q (.bl (g s t)) H'
theorem lc_filtM {i : Nat} {tl te : TE} {tt : TT} {σ : L2.St} {H : Hp} {Q : VK} (p : V → Bool) (Pr : Addr → List V → Hp → Prop) (htl : ∀ R : VK, (∀ a xs H', Pr a xs H' → R (.ref a) H') → tl σ H R)
    (h : ∀ a xs H', Pr a xs H' → SqL K H' a xs ∧ xs.length ≤ 100000 ∧ (∀ x ∈ xs, ∀ (H2 : Hp) (Q' : Bool → Hp → Prop), Stp [] H' H2 → Q' (p x) H2 → tt ((wipe σ [i]).set i (some x)) H2 Q') ∧
      (∀ x ∈ xs, p x = true → ∀ (H2 : Hp) (Q' : VK), Stp [] H' H2 → Q' x H2 → te ((wipe σ [i]).set i (some x)) H2 Q') ∧ ∀ D H2, H' D = none → Stp [] H' H2 → H2 D = some (.lst (xs.filter p)) → Q (.ref D) H2) :
    tLc (iList K tl) (gName i) tt te [i] σ H Q := htl _ fun a xs H' hp => by
  obtain ⟨hl, hn, h1, h2, k⟩ := h a xs H' hp
  exact ⟨a, rfl, ⟨_, hl⟩, lc_pureF (H9 := H) (Q := Q) p hl hn h1 h2 k⟩
theorem want_max {s : LineS} {t m : Int} (h : m ∈ s.want t) (g : ∀ y ∈ s.want t, y ≤ m) : m = s.last t := by
  unfold LineS.want at h g
  unfold LineS.last
  split at h
  · rename_i e
    rw [if_pos e]
    simpa using h
  · rename_i e
    rw [if_neg e]
    rw [if_neg e] at g
    have h1 := g (s.low t + 1) (by simp)
    have h2 : m = s.low t ∨ m = s.low t + 1 := by simpa using h
    omega
theorem sc_law_is_over : FnScope ["_law_v", "_law_beat_here"] ["_law_v", "_law_beat_here"] (defScope s_law_is_over) := ⟨rfl, rfl, rfl, by decide +kernel, rfl, by decide +kernel, by decide +kernel⟩
theorem ok_law_is_over {f : Addr} {fd : FuncData} (F : Fun K "_law_is_over" "_law_is_over" s_law_is_over f fd) (B : Blt mg) (GP : OwnF P w K mg base "_law_places" 1 ["_law_v", "_law_beat_here"] sp_own_places) : FnOk P w K mg base CX0 2 f fd ["_law_v", "_law_beat_here"] (sp_own_bool LineS.over) := by
  refine F.ok sc_law_is_over (fun vs H Q E h => ?_) (fun cdv A outer s H vs Q E hr h => ?_)
  · obtain ⟨d, s, t, rfl, _⟩ := h
    rfl
  · obtain ⟨d, s, t, rfl, hO, hL, k⟩ := h
    have nd := sc_law_is_over.nd
    have hu := hu_of hr
    refine ⟨_, (pss_one (ps_ret (pe_and (pe_cmpR op_notN (pe_dget hu (pv 0) pe_str (fun _ _ => rfl)) pe_non (nomark _)) (pe_one (pe_cmpR op_ge (pe_callB (cr_max rfl) (by rfl) B.max PyProof.Rows.boot_max (pa_cons (pe_ix ix_tup (p_call GP hr (pa_cons (pv 0) (pa_cons (pv 1) pa_nil))) pe_int (fun _ _ => rfl)) pa_nil)) (pe_dget hu (pv 0) pe_str (fun _ _ => rfl)) (nomark _)))))), ?_⟩
    obtain ⟨kv, kc, tp, dc, h1, h2, h3, h4, h5, h6, h7, h8⟩ := id hO
    have gM := dgs h1 h8
    unfold LineS.over at k
    cases e : s.many with
    | none =>
      rw [e] at k gM
      walk_at "rd"
      refine ⟨_, gM, ?_⟩
      walk_at "rd"
      exact k H Stp.refl
    | some m =>
      rw [e] at k gM
      walk_at "rd"
      refine ⟨_, gM, ?_⟩
      walk_at "rd"
      refine ⟨d, s, t, rfl, hO, hL, fun p l H1 hp hl st g1 g2 => ?_⟩
      refine ixT_0 (.inl g1) ⟨l, s.want t, rfl, .inl (.inl g2), by unfold LineS.want; split <;> simp, fun y hy hm => ?_⟩
      rw [want_max hy hm]
      refine ⟨_, dgs (st.keep _ _ h1 (by simp)) (by rw [h8, e]), ?_⟩
      have := k H1 st
      walk_at "rd" <;> exact this
theorem sc_law_lacks : FnScope ["_law_v", "_law_beat_here", "_law_place"] ["_law_v", "_law_beat_here"] (defScope s_law_lacks) := ⟨rfl, rfl, rfl, by decide +kernel, rfl, by decide +kernel, by decide +kernel⟩
abbrev NLk : List Str := ["_law_v", "_law_beat_here", "_law_place"]
theorem ok_law_lacks {f : Addr} {fd : FuncData} (F : Fun K "_law_lacks" "_law_lacks" s_law_lacks f fd) (B : Blt mg) (GP : OwnF P w K mg base "_law_places" 1 ["_law_v", "_law_beat_here"] sp_own_places) (GO : OwnF P w K mg base "_law_is_over" 2 ["_law_v", "_law_beat_here"] (sp_own_bool LineS.over)) : FnOk P w K mg base CX0 3 f fd ["_law_v", "_law_beat_here"] (sp_own_bool LineS.lacks) := by
  refine F.ok sc_law_lacks (fun vs H Q E h => ?_) (fun cdv A outer s0 H vs Q E hr h => ?_)
  · obtain ⟨d, s, t, rfl, _⟩ := h
    rfl
  · obtain ⟨d, s, t, rfl, hO, hL, k⟩ := h
    have nd := sc_law_lacks.nd
    have hu := hu_of hr
    have hu64 : (A.deeper (PyProof.Rows.envOfC "_law_lacks" (defScope s_law_lacks) s0.heap.objs.size f cdv)).units + 64 < cLine := by
      have := hr.un
      omega
    refine ⟨_, (pss_cons (ps_if (PW.pt (pw_or (pt_cmpR op_lt (pv 1) (pe_dget hu (pv 0) pe_str (fun _ _ => rfl)) (nomark _)) (pw_or1 (pt_val (p_call GO hr (pa_cons (pv 0) (pa_cons (pv 1) pa_nil))))))) (pss_one (ps_ret pe_bl)) pss_nil)
      (pss_one (ps_ret (pe_cmpR (op_neD hu64) (pe_lc (own := [("_law_place", 2)]) (tt := tB (tDNotIn (tVar 2) (tDGet (tVar 0) (tC (.str "came"))))) (te := tVar 2) rfl nd (pi_list (pe_ix ix_tup (p_call GP (hr.mono (by decide)) (pa_cons (pv 0) (pa_cons (pv 1) pa_nil))) pe_int (fun _ _ => rfl))) (blkOk_by (N := NLk) (sc := defScope s_law_lacks) (by decide +kernel)) (fun _ _ _ _ _ => pg_name (i := 2) nd rfl (.inl rfl)) (fun _ _ _ _ _ => pts_one (pt_cmp (pc_dnotin hu (pv 2) (pe_dget hu (pv 0) pe_str (fun _ _ => rfl))))) (fun _ _ _ _ _ => pv 2)) (pe_lst pa_nil) (nomark _))))), ?_⟩
    obtain ⟨kv, kc, tp, dc, h1, h2, h3, h4, h5, h6, h7, h8⟩ := id hO
    have gB := dgs h1 h4
    walk_at "rd"
    refine ⟨_, gB, _, rfl, ?_⟩
    unfold LineS.lacks LineS.begun at k
    by_cases hb : t < s.beg
    · rw [if_pos hb]
      rw [decide_eq_false (by omega)] at k
      exact k H Stp.refl
    rw [if_neg hb]
    rw [decide_eq_true (by omega)] at k
    refine ⟨d, s, t, rfl, hO, hL, fun H1 st1 => ⟨_, rfl, ?_⟩⟩
    cases eo : s.over t with
    | true =>
      rw [if_pos rfl]
      rw [eo] at k
      exact k H1 st1
    | false =>
      rw [if_neg (by simp)]
      rw [eo] at k
      refine lc_filtM (fun x => match x with | .int i => !s.has i | _ => false) (fun a xs H2 => xs = (s.want t).map V.int ∧ H2 a = some (.lst xs) ∧ Stp [] H1 H2) (fun R hR => ?_) fun a xs H2 hP => ?_
      · walk_at "rd"
        refine ⟨d, s, t, rfl, hO.st0 st1, hL, fun p l H2 hp hl st g1 g2 => ?_⟩
        exact ixT_0 (.inl g1) (hR l _ H2 ⟨rfl, g2, st⟩)
      · obtain ⟨rfl, hl, st2⟩ := hP
        have h16 := (st1.trans st2).keep _ _ h1 (by simp)
        have h66 := (st1.trans st2).keep _ _ h6 (by simp)
        refine ⟨.inl (.inl hl), ?_, fun x hx H3 Q' st q => ?_, fun x hx _ H3 Q' st q => ?_, fun D H3 hD st hl3 => ?_⟩
        · rw [List.length_map]
          unfold LineS.want
          split <;> simp
        · obtain ⟨i, hi, rfl⟩ := List.mem_map.mp hx
          refine ⟨_, rfl, ⟨_, rfl, d, _, rfl, dgs (st.keep _ _ h16 (by simp)) h5, dc, _, rfl, DGet.k (k := Sum.inl i) (st.keep _ _ h66 (by simp)), _, rfl, ?_⟩⟩
          rw [h7]
          exact q
        · exact ⟨_, rfl, q⟩
        · refine ⟨Nat.zero_le _, fun p hp => ?_⟩
          have s4 := Stp.new (o := .lst []) hp
          have ef : ((s.want t).map V.int).filter (fun x => match x with | .int i => !s.has i | _ => false) = ((s.want t).filter fun i => !s.has i).map V.int := by
            rw [List.filter_map]
            rfl
          rw [ef] at hl3
          refine ne_nilL (n := 0) (s4.keep _ _ hl3 (by simp)) upd_same (ints_refl _) (by decide) ?_
          have e : (!(((s.want t).filter fun i => !s.has i).map V.int).isEmpty) = (s.want t).any fun i => !s.has i := by
            rw [List.isEmpty_map]
            generalize s.want t = l
            induction l with
            | nil => rfl
            | cons i r ih =>
              rw [List.filter_cons, List.any_cons]
              cases s.has i <;> simp [ih]
          rw [e]
          have := k _ ((st1.trans st2).trans (st.trans s4))
          simpa using this
end
end Mx

namespace Mx
open PySem L2
/-! ### the law's own voice, whole -/
def frac4 (a b : Addr) (B O : Int) : List V := [.ref a, .ref b, .int B, .int O]
def GoalIs (K : PySem.W.Frag) (H : Hp) (n : Nat) (gv : V) (s : LoudS) : Prop := (gv = .non ∧ s.left = 0) ∨
  ∃ (g fa la : Addr) (F L : Rat) (B O : Int), gv = .ref g ∧ H g = some (.tup (frac4 fa la B O)) ∧ TupAt K H fa (frac F) ∧ TupAt K H la (frac L) ∧ 1 ≤ B ∧ B ≤ 64 ∧ 0 ≤ O ∧ O < B ∧ s.left = B - O ∧ s.stride = (L - F) * mkRat 1 B.toNat ∧ s.level = F + (L - F) * mkRat O B.toNat ∧ Rb n F ∧ Rb 7 L
theorem GoalIs.st {K : PySem.W.Frag} {F : List Addr} {H H' : Hp} {n : Nat} {gv : V} {s : LoudS} (h : GoalIs K H n gv s) (g : Stp F H H') : GoalIs K H' n gv s := by
  rcases h with h | ⟨a, fa, la, F, L, B, O, h1, h2, h3, h4, h5⟩
  · exact .inl h
  · exact .inr ⟨a, fa, la, F, L, B, O, h1, g.tup _ _ h2, h3.st g, h4.st g, h5⟩
theorem GoalIs.up {K : PySem.W.Frag} {H : Hp} {n m : Nat} {gv : V} {s : LoudS} (h : GoalIs K H n gv s) (l : n ≤ m) : GoalIs K H m gv s := by
  rcases h with h | ⟨a, fa, la, F, L, B, O, h1, h2, h3, h4, h5, h6, h7, h8, h9, h10, h11, h12, h13⟩
  · exact .inl h
  · exact .inr ⟨a, fa, la, F, L, B, O, h1, h2, h3, h4, h5, h6, h7, h8, h9, h10, h11, h12.mono l, h13⟩
/-- what its dict holds -/
structure OwnK (K : PySem.W.Frag) (H : Hp) (kv : List (Key × V)) (c : Addr) (v : VoiceS) (n : Nat) : Prop where
  pace : ∃ tp, valV kv (kS "pace") = some (.ref tp) ∧ H tp = some (.tup [.int v.line.pn, .int v.line.pb])
  beg : valV kv (kS "begin") = some (.int v.line.beg)
  came : valV kv (kS "came") = some (.ref c)
  many : valV kv (kS "many") = some (optV v.line.many)
  goal : ∃ gv, valV kv (kS "goal") = some gv ∧ GoalIs K H n gv v.loud
  quiet : valV kv (kS "quiet") = some (.bl (!v.heard))
  loud : ∃ lv, valV kv (kS "loud") = some lv ∧ IsQ K H lv v.loud.level
  word : valV kv (kS "word") = some (.str v.word)
  k : ∃ i : Int, valV kv (kS "k") = some (.int i) ∧ (v.word = wR ∨ v.word = wF → i = v.steps)
  part : ∃ pv, valV kv (kS "part") = some pv ∧ IsQ K H pv v.part
  held : ∃ hv, valV kv (kS "held") = some hv ∧ (v.word = wF → IsQ K H hv v.height)
def OwnV (K : PySem.W.Frag) (H : Hp) (d c : Addr) (v : VoiceS) (n : Nat) : Prop := ∃ (kv kc : List (Key × V)), H d = some (.dK kv) ∧ OwnK K H kv c v n ∧ H c = some (.dK kc) ∧ (∀ i : Int, valV kc (Sum.inl i : Key) = (look v.line.came i).map V.int) ∧ kc = cam v.line.came ∧ kv.length ≤ 30 ∧ d ≠ c
theorem OwnK.st {K : PySem.W.Frag} {F : List Addr} {H H' : Hp} {kv : List (Key × V)} {c : Addr} {v : VoiceS} {n : Nat} (h : OwnK K H kv c v n) (g : Stp F H H') : OwnK K H' kv c v n := by
  obtain ⟨⟨tp, p1, p2⟩, h2, h3, h4, ⟨gv, g1, g2⟩, h6, ⟨lv, l1, l2⟩, h8, h9, ⟨pv, q1, q2⟩, ⟨hv, r1, r2⟩⟩ := h
  exact ⟨⟨tp, p1, g.tup _ _ p2⟩, h2, h3, h4, ⟨gv, g1, g2.st g⟩, h6, ⟨lv, l1, l2.st g⟩, h8, h9, ⟨pv, q1, q2.st g⟩, ⟨hv, r1, fun z => (r2 z).st g⟩⟩
theorem OwnV.st {K : PySem.W.Frag} {F : List Addr} {H H' : Hp} {d c : Addr} {v : VoiceS} {n : Nat} (h : OwnV K H d c v n) (g : Stp F H H') (n1 : d ∉ F) (n2 : c ∉ F) : OwnV K H' d c v n := by
  obtain ⟨kv, kc, h1, h2, h3, h4⟩ := h
  exact ⟨kv, kc, g.keep _ _ h1 n1, h2.st g, g.keep _ _ h3 n2, h4⟩
theorem OwnV.st0 {K : PySem.W.Frag} {H H' : Hp} {d c : Addr} {v : VoiceS} {n : Nat} (h : OwnV K H d c v n) (g : Stp [] H H') : OwnV K H' d c v n := h.st g (by simp) (by simp)
theorem OwnV.ov {K : PySem.W.Frag} {H : Hp} {d c : Addr} {v : VoiceS} {n : Nat} (h : OwnV K H d c v n) : OvL H d v.line := by
  obtain ⟨kv, kc, h1, h2, h3, h4, _⟩ := h
  obtain ⟨tp, p1, p2⟩ := h2.pace
  exact ⟨kv, kc, tp, c, h1, p1, p2, h2.beg, h2.came, h3, fun i => by rw [h4, Option.isSome_map]; rfl, h2.many⟩
theorem OwnV.ne {K : PySem.W.Frag} {H : Hp} {d c : Addr} {v : VoiceS} {n : Nat} (h : OwnV K H d c v n) : H d ≠ none ∧ H c ≠ none := by
  obtain ⟨kv, kc, h1, h2, h3, h4, _⟩ := h
  rw [h1, h3]
  exact ⟨nofun, nofun⟩
set_option hygiene false in
local macro_rules | `(tactic| walk_at "rd") => `(tactic| try simp only [L2.start, List.map_cons, List.map_nil, List.length_cons, List.length_nil, Nat.reduceAdd, Nat.reduceSub, Nat.reduceLT, Nat.reduceLeDiff, List.replicate_succ, List.replicate_zero, List.append_nil, List.nil_append, List.cons_append, List.set_cons_zero, List.set_cons_succ, List.getElem?_cons_zero, List.getElem?_cons_succ,
  Option.some.injEq, List.cons.injEq, and_true, true_and, and_assoc, reduceCtorEq, L2.V.int.injEq, L2.V.ref.injEq, L2.V.bl.injEq, L2.V.str.injEq, L2.V.ty.injEq, L2.HO.ins.injEq, L2.HO.lst.injEq, L2.HO.tup.injEq, L2.HO.dK.injEq, exists_eq_left', exists_eq_left, exists_eq_right, exists_eq', exists_eq, exists_and_left, exists_and_right, reduceIte, Bool.false_eq_true, Bool.not_true, Bool.not_false,
  L2.tSeq, L2.tIfS, L2.tRet, L2.tRetN, L2.tNext, L2.tAsg, L2.gName, L2.tVar, L2.tC, L2.tCons, L2.tNil, L2.tCB, L2.tOp, L2.tUn, L2.tTup, L2.tLst, L2.tB, L2.tOr, L2.tAnd, L2.tNot, L2.tAndV, L2.tOrV, L2.tNotV, L2.tIf, L2.tTest, L2.tChain, L2.rI, L2.rI0, L2.rU, L2.tDrop, L2.tNever, L2.tCall, L2.tMeth, L2.tMake, L2.rGcd, L2.tFld, L2.sFld, L2.sFldAug, Mx.sFldA, Mx.sFldAugA, L2.rAdd, L2.rSub, L2.rEq, L2.rNe, L2.tDGet, L2.tDIn, L2.tDNotIn, L2.sDPut,
  Mx.isi_int_bool, Mx.isi_int_int, Mx.isi_int_tuple, Mx.isi_int_list, Mx.isi_int_str, Mx.scal_int, Mx.scal_str, Mx.scal_bl, Mx.ofString_inj, Mx.ofString_beq, Mx.lk_cons, Mx.pf_nil, Mx.pf_cons, Mx.sz1, Mx.sz2, List.lookup_nil, String.reduceEq, decide_true, decide_false, decide_eq_true_eq, Int.natAbs_natCast, L2.upd_same, L2.upd_upd, L2.cxOf, L2.gSub, L2.tPar, L2.gCons, L2.gNil, Mx.optV])
set_option hygiene false in
local macro_rules | `(tactic| walk_at "rds") => `(tactic| try simp only [L2.start, List.map_cons, List.map_nil, List.length_cons, List.length_nil, Nat.reduceAdd, Nat.reduceSub, Nat.reduceLT, Nat.reduceLeDiff, List.replicate_succ, List.replicate_zero, List.append_nil, List.nil_append, List.cons_append, List.set_cons_zero, List.set_cons_succ, List.getElem?_cons_zero, List.getElem?_cons_succ,
  Option.some.injEq, List.cons.injEq, and_true, true_and, and_assoc, reduceCtorEq, L2.V.int.injEq, L2.V.ref.injEq, L2.V.bl.injEq, L2.V.str.injEq, L2.V.ty.injEq, L2.HO.ins.injEq, L2.HO.lst.injEq, L2.HO.tup.injEq, L2.HO.dK.injEq, exists_eq_left', exists_eq_left, exists_eq_right, exists_eq', exists_eq, exists_and_left, exists_and_right, reduceIte, Bool.false_eq_true, Bool.not_true, Bool.not_false,
  L2.tSeq, L2.tIfS, L2.tRet, L2.tRetN, L2.tNext, L2.tAsg, L2.gName, L2.tVar, L2.tC, L2.tCons, L2.tNil, L2.tCB, L2.tOp, L2.tUn, L2.tTup, L2.tLst, L2.tB, L2.tOr, L2.tAnd, L2.tNot, L2.tAndV, L2.tOrV, L2.tNotV, L2.tIf, L2.tTest, L2.tChain, L2.rI, L2.rI0, L2.rU, L2.tDrop, L2.tNever, L2.tCall, L2.tMeth, L2.tMake, L2.rGcd, L2.tFld, L2.sFld, L2.sFldAug, Mx.sFldA, Mx.sFldAugA, L2.rAdd, L2.rSub, L2.rEq, L2.rNe, L2.tDGet, L2.tDIn, L2.tDNotIn, L2.sDPut,
  Mx.isi_int_bool, Mx.isi_int_int, Mx.isi_int_tuple, Mx.isi_int_list, Mx.isi_int_str, Mx.scal_int, Mx.scal_str, Mx.scal_bl, Mx.ofString_inj, Mx.ofString_beq, Mx.lk_cons, Mx.pf_nil, Mx.pf_cons, Mx.sz1, Mx.sz2, List.lookup_nil, String.reduceEq, decide_true, decide_false, decide_eq_true_eq, Int.natAbs_natCast, L2.upd_same, L2.upd_upd, L2.cxOf, L2.gSub, L2.tPar, L2.gCons, L2.gNil, Mx.optV, *])

section
variable {P : Program} {w : World} {K : PySem.W.Frag} {mg : Str → Option Value} {base : Heap}
/-- a fraction so many times over, of any breadth -/
def sp_timesW (K : PySem.W.Frag) : Sp := fun vs H Q _ => ∃ (a : Addr) (q : Rat) (t b : Int) (n m : Nat), vs = [.ref a, .int t, .int b] ∧ TupAt K H a (frac q) ∧ Rb n q ∧ 0 < b ∧ b.natAbs < 2 ^ m ∧ t.natAbs < 2 ^ m ∧ n + m < 9000 ∧ 0 < n ∧ 0 < m ∧ ∀ p H', H p = none → Stp [] H H' → H' p = some (.tup (frac (q * mkRat t b.toNat))) → Q (.ref p) H'
theorem sc_law_timesW : FnScope ["_law_one", "_law_top", "_law_bottom"] ["_law_one", "_law_top", "_law_bottom"] (defScope s_law_times) := ⟨rfl, rfl, rfl, by decide +kernel, rfl, by decide +kernel, by decide +kernel⟩
theorem ok_law_timesW {f : Addr} {fd : FuncData} (F : Fun K "_law_times" "_law_times" s_law_times f fd) (G : OwnF P w K mg base "_law_share" 1 ["_law_top", "_law_bottom"] sp_ratio) : FnOk P w K mg base CX0 2 f fd ["_law_one", "_law_top", "_law_bottom"] (sp_timesW K) := by
  refine F.ok sc_law_timesW (fun vs H Q E h => ?_) (fun cdv A outer s H vs Q E hr h => ?_)
  · obtain ⟨a, q, t, b, n, m, rfl, _⟩ := h
    rfl
  · obtain ⟨a, q, t, b, n, m, rfl, ha, hq, hb0, hb, ht, hl0, hn0, hm0, k⟩ := h
    refine ⟨_, pss_one (ps_ret (p_call G hr (pa_cons (pe_op op_mulW (pe_ix ix_tup (pv 0) pe_int (fun _ _ => rfl)) (pv 1)) (pa_cons (pe_op op_mulW (pe_ix ix_tup (pv 0) pe_int (fun _ _ => rfl)) (pv 2)) pa_nil)))), ?_⟩
    have hdp := q.den_pos
    walk_at "rd"
    refine ixT_0 ha ⟨_, rfl, wide_mul hq.num ht hn0 hm0 (by omega), ixT_1 ha ⟨_, rfl, wide_mul (by simpa using hq.den) hb hn0 hm0 (by omega), ?_⟩⟩
    have e : (q.den : Int) * b = ((q.den * b.toNat : Nat) : Int) := by rw [Int.natCast_mul]; congr 1; omega
    have hpos : 0 < q.den * b.toNat := Nat.mul_pos hdp (by omega)
    refine ⟨_, _, rfl, by rw [e]; omega, ?_, fun p H' hp hs hl => k p H' hp hs ?_⟩
    · rw [Int.natAbs_mul, Int.natAbs_natCast]
      exact Nat.lt_of_lt_of_le (Nat.mul_lt_mul'' hq.den hb) (by rw [← Nat.pow_add]; exact Nat.pow_le_pow_right (by decide) (by omega))
    · rw [e, Int.toNat_natCast, ← Rat.mkRat_mul_mkRat, Rat.mkRat_self] at hl
      exact hl
end
end Mx

namespace Mx
open PySem L2
set_option hygiene false in
local macro_rules | `(tactic| walk_at "rd") => `(tactic| try simp only [L2.start, List.map_cons, List.map_nil, List.length_cons, List.length_nil, Nat.reduceAdd, Nat.reduceSub, Nat.reduceLT, Nat.reduceLeDiff, List.replicate_succ, List.replicate_zero, List.append_nil, List.nil_append, List.cons_append, List.set_cons_zero, List.set_cons_succ, List.getElem?_cons_zero, List.getElem?_cons_succ,
  Option.some.injEq, List.cons.injEq, and_true, true_and, and_assoc, reduceCtorEq, L2.V.int.injEq, L2.V.ref.injEq, L2.V.bl.injEq, L2.V.str.injEq, L2.V.ty.injEq, L2.HO.ins.injEq, L2.HO.lst.injEq, L2.HO.tup.injEq, L2.HO.dK.injEq, exists_eq_left', exists_eq_left, exists_eq_right, exists_eq', exists_eq, exists_and_left, exists_and_right, reduceIte, Bool.false_eq_true, Bool.not_true, Bool.not_false,
  L2.tSeq, L2.tIfS, L2.tRet, L2.tRetN, L2.tNext, L2.tAsg, L2.gName, L2.tVar, L2.tC, L2.tCons, L2.tNil, L2.tCB, L2.tOp, L2.tUn, L2.tTup, L2.tLst, L2.tB, L2.tOr, L2.tAnd, L2.tNot, L2.tAndV, L2.tOrV, L2.tNotV, L2.tIf, L2.tTest, L2.tChain, L2.rI, L2.rI0, L2.rU, L2.tDrop, L2.tNever, L2.tCall, L2.tMeth, L2.tMake, L2.rGcd, L2.tFld, L2.sFld, L2.sFldAug, Mx.sFldA, Mx.sFldAugA, L2.rAdd, L2.rSub, L2.rEq, L2.rNe, L2.tDGet, L2.tDIn, L2.tDNotIn, L2.sDPut,
  Mx.isi_int_bool, Mx.isi_int_int, Mx.isi_int_tuple, Mx.isi_int_list, Mx.isi_int_str, Mx.scal_int, Mx.scal_str, Mx.scal_bl, Mx.ofString_inj, Mx.ofString_beq, Mx.lk_cons, Mx.pf_nil, Mx.pf_cons, Mx.sz1, Mx.sz2, List.lookup_nil, String.reduceEq, decide_true, decide_false, decide_eq_true_eq, Int.natAbs_natCast, L2.upd_same, L2.upd_upd, L2.cxOf, L2.gSub, L2.tPar, L2.gCons, L2.gNil, Mx.optV])
set_option hygiene false in
local macro_rules | `(tactic| walk_at "rds") => `(tactic| try simp only [L2.start, List.map_cons, List.map_nil, List.length_cons, List.length_nil, Nat.reduceAdd, Nat.reduceSub, Nat.reduceLT, Nat.reduceLeDiff, List.replicate_succ, List.replicate_zero, List.append_nil, List.nil_append, List.cons_append, List.set_cons_zero, List.set_cons_succ, List.getElem?_cons_zero, List.getElem?_cons_succ,
  Option.some.injEq, List.cons.injEq, and_true, true_and, and_assoc, reduceCtorEq, L2.V.int.injEq, L2.V.ref.injEq, L2.V.bl.injEq, L2.V.str.injEq, L2.V.ty.injEq, L2.HO.ins.injEq, L2.HO.lst.injEq, L2.HO.tup.injEq, L2.HO.dK.injEq, exists_eq_left', exists_eq_left, exists_eq_right, exists_eq', exists_eq, exists_and_left, exists_and_right, reduceIte, Bool.false_eq_true, Bool.not_true, Bool.not_false,
  L2.tSeq, L2.tIfS, L2.tRet, L2.tRetN, L2.tNext, L2.tAsg, L2.gName, L2.tVar, L2.tC, L2.tCons, L2.tNil, L2.tCB, L2.tOp, L2.tUn, L2.tTup, L2.tLst, L2.tB, L2.tOr, L2.tAnd, L2.tNot, L2.tAndV, L2.tOrV, L2.tNotV, L2.tIf, L2.tTest, L2.tChain, L2.rI, L2.rI0, L2.rU, L2.tDrop, L2.tNever, L2.tCall, L2.tMeth, L2.tMake, L2.rGcd, L2.tFld, L2.sFld, L2.sFldAug, Mx.sFldA, Mx.sFldAugA, L2.rAdd, L2.rSub, L2.rEq, L2.rNe, L2.tDGet, L2.tDIn, L2.tDNotIn, L2.sDPut,
  Mx.isi_int_bool, Mx.isi_int_int, Mx.isi_int_tuple, Mx.isi_int_list, Mx.isi_int_str, Mx.scal_int, Mx.scal_str, Mx.scal_bl, Mx.ofString_inj, Mx.ofString_beq, Mx.lk_cons, Mx.pf_nil, Mx.pf_cons, Mx.sz1, Mx.sz2, List.lookup_nil, String.reduceEq, decide_true, decide_false, decide_eq_true_eq, Int.natAbs_natCast, L2.upd_same, L2.upd_upd, L2.cxOf, L2.gSub, L2.tPar, L2.gCons, L2.gNil, Mx.optV, *])

section
variable {P : Program} {w : World} {K : PySem.W.Frag} {mg : Str → Option Value} {base : Heap}
def sp_own_value (K : PySem.W.Frag) : Sp := fun vs H Q _ => ∃ (d c : Addr) (v : VoiceS) (n : Nat) (t : Int), vs = [.ref d, .int t] ∧ OwnV K H d c v n ∧ LineOk v.line ∧ v.line.ready t = true ∧ ∀ p H', H p = none → Stp [] H H' → H' p = some (.tup (frac (v.line.value t))) → Q (.ref p) H'
theorem sc_law_value : FnScope ["_law_v", "_law_beat_here", "_law_places_here", "_law_rest", "_law_one", "_law_other"] ["_law_v", "_law_beat_here"] (defScope s_law_value) := ⟨rfl, rfl, rfl, by decide +kernel, rfl, by decide +kernel, by decide +kernel⟩
theorem ok_law_value {f : Addr} {fd : FuncData} (F : Fun K "_law_value" "_law_value" s_law_value f fd) (GP : OwnF P w K mg base "_law_places" 1 ["_law_v", "_law_beat_here"] sp_own_places) (GS : OwnF P w K mg base "_law_share" 1 ["_law_top", "_law_bottom"] sp_ratio) : FnOk P w K mg base CX0 2 f fd ["_law_v", "_law_beat_here"] (sp_own_value K) := by
  refine F.ok sc_law_value (fun vs H Q E h => ?_) (fun cdv A outer s H vs Q E r1 h => ?_)
  · obtain ⟨d, c, v, n, t, rfl, _⟩ := h
    rfl
  · obtain ⟨d, c, v, n, t, rfl, hO, hL, hrd, k⟩ := h
    have nd := sc_law_value.nd
    have hu := hu_of r1
    refine ⟨_, (pss_cons (ps_asg (p_call GP r1 (pa_cons (pv 0) (pa_cons (pv 1) pa_nil))) (pg_tup rfl (pgs_cons (pg_name (i := 2) nd rfl (.inl rfl)) (pgs_cons (pg_name (i := 3) nd rfl (.inl rfl)) pgs_nil))))
      (pss_cons (ps_par (i := 4) (j := 5) (by rfl) nd rfl rfl (by decide) rfl rfl (pa_cons (pe_dget hu (pe_dget hu (pv 0) pe_str (fun _ _ => rfl)) (pe_ix ix_list (pv 2) pe_int (fun _ _ => rfl)) (fun _ _ => rfl)) (pa_cons (pe_dget hu (pe_dget hu (pv 0) pe_str (fun _ _ => rfl)) (pe_ix ix_list (pv 2) (pe_un un_neg pe_int) (fun _ _ => rfl)) (fun _ _ => rfl)) pa_nil)) (by rfl))
      (pss_one (ps_ret (p_call GS r1 (pa_cons (pe_op op_add (pe_op op_mul (pv 4) (pe_ix ix_tup (pe_dget hu (pv 0) pe_str (fun _ _ => rfl)) pe_int (fun _ _ => rfl))) (pe_op op_mul (pe_op op_sub (pv 5) (pv 4)) (pv 3))) (pa_cons (pe_ix ix_tup (pe_dget hu (pv 0) pe_str (fun _ _ => rfl)) pe_int (fun _ _ => rfl)) pa_nil))))))), ?_⟩
    obtain ⟨kv, kc, h1, hK, h3, h4, _⟩ := id hO
    obtain ⟨tp, p1, p2⟩ := hK.pace
    obtain ⟨b1, b2, b3, b4, _, _⟩ := id hL
    have hh := ready_has hrd
    walk_at "rd"
    refine ⟨d, v.line, t, rfl, hO.ov, hL, fun p l H1 hp hl s1 g1 g2 => ?_⟩
    have h11 := s1.keep _ _ h1 (by simp)
    have h31 := s1.keep _ _ h3 (by simp)
    have p21 := s1.tup _ _ p2
    have hT : TupAt K H1 tp [.int v.line.pn, .int v.line.pb] := .inl p21
    have gC := dgs h11 hK.came
    have gP := dgs h11 p1
    have at_ : ∀ i, v.line.has i = true → DGet H1 c (.int i) (some (.int (v.line.at i))) := fun i hi => by
      have := DGet.k (k := (Sum.inl i : Key)) h31
      rw [h4, LineS.atw hi] at this
      exact this
    refine ⟨p, _, rfl, .inl (.inl g1), rfl, _, _, rfl, _, _, rfl, rfl, ?_⟩
    simp only [List.set_cons_zero, List.set_cons_succ]
    walk_at "rd"
    refine ⟨_, gC, ?_⟩
    have hwl : v.line.want t = if v.line.rest t = 0 then [v.line.low t] else [v.line.low t, v.line.low t + 1] := rfl
    have r0 : 0 ≤ v.line.rest t := Int.emod_nonneg _ (by omega)
    have r1' : v.line.rest t < v.line.pb := Int.emod_lt_of_pos _ (by omega)
    have hlow : v.line.has (v.line.low t) = true := hh _ (by rw [hwl]; split <;> simp)
    have hlast : v.line.has (v.line.last t) = true := hh _ (by rw [hwl]; unfold LineS.last; split <;> simp_all)
    refine ixL (.inl (.inl g2)) (x := .int (v.line.low t)) (by rw [hwl]; split <;> rfl) ⟨_, rfl, _, at_ _ hlow, ?_⟩
    refine ⟨_, gC, ?_⟩
    refine ixL (.inl (.inl g2)) (x := .int (v.line.last t)) (by rw [hwl]; unfold LineS.last; split <;> first | exact atI_last1 | exact atI_last2) ⟨_, rfl, _, at_ _ hlast, ?_⟩
    have sm : ∀ i, v.line.has i = true → -999 ≤ v.line.at i ∧ v.line.at i ≤ 999 := fun i hi => hL.small (LineS.atw hi)
    have hs1 := sm _ hlow
    have hs2 := sm _ hlast
    walk_at "rd"
    refine ⟨_, gP, ixT_1 hT ⟨_, rfl, .inr ⟨by omega, by omega⟩, ?_⟩⟩
    refine ⟨.inr ⟨by omega, by omega⟩, _, gP, ixT_1 hT ⟨_, _, rfl, by omega, ?_, fun p2 H2 hp2 s2 l2 => ?_⟩⟩
    · exact Nat.lt_of_lt_of_le (show v.line.pb.natAbs < 2 ^ 4 by omega) (Nat.pow_le_pow_right (by decide) (by decide))
    have ev : mkRat (v.line.at (v.line.low t) * v.line.pb + (v.line.at (v.line.last t) - v.line.at (v.line.low t)) * v.line.rest t) v.line.pb.toNat = v.line.value t := by
      unfold LineS.value LineS.last
      have hpb : ((v.line.pb.toNat : Nat) : Int) = v.line.pb := by omega
      by_cases h0 : v.line.rest t = 0
      · rw [if_pos h0, if_pos h0, h0, Int.mul_zero, Int.add_zero]
        have := Rat.mkRat_mul_right (n := v.line.at (v.line.low t)) (d := 1) (a := v.line.pb.toNat) (by omega)
        rw [Nat.one_mul, hpb] at this
        exact this
      · rw [if_neg h0, if_neg h0]
        congr 1
        rw [Int.sub_mul, Int.mul_sub]
        omega
    rw [ev] at l2
    exact k p2 H2 (s1.free hp2 (by simp)) (s1.trans s2) l2
theorem sc_law_may : FnScope ["_law_v", "_law_beat_here"] ["_law_v", "_law_beat_here"] (defScope s_law_may) := ⟨rfl, rfl, rfl, by decide +kernel, rfl, by decide +kernel, by decide +kernel⟩
theorem ok_law_may {f : Addr} {fd : FuncData} (F : Fun K "_law_may" "_law_may" s_law_may f fd) (GO : OwnF P w K mg base "_law_is_over" 2 ["_law_v", "_law_beat_here"] (sp_own_bool LineS.over)) (GL : OwnF P w K mg base "_law_lacks" 3 ["_law_v", "_law_beat_here"] (sp_own_bool LineS.lacks)) : FnOk P w K mg base CX0 4 f fd ["_law_v", "_law_beat_here"] (fun vs H Q _ => ∃ (d c : Addr) (v : VoiceS) (n : Nat) (t : Int), vs = [.ref d, .int t] ∧ OwnV K H d c v n ∧ LineOk v.line ∧ ∀ H', Stp [] H H' → Q (.bl (v.may t)) H') := by
  refine F.ok sc_law_may (fun vs H Q E h => ?_) (fun cdv A outer s H vs Q E hr h => ?_)
  · obtain ⟨d, c, v, n, t, rfl, _⟩ := h
    rfl
  · obtain ⟨d, c, v, n, t, rfl, hO, hL, k⟩ := h
    have nd := sc_law_may.nd
    have hu := hu_of hr
    have r2 := hr.mono (show 2 ≤ 3 by decide)
    refine ⟨_, (pss_one (ps_ret (pe_and (pe_cmpR op_ge (pv 1) (pe_dget hu (pv 0) pe_str (fun _ _ => rfl)) (nomark _)) (pe_and (pe_not (pe_dget hu (pv 0) pe_str (fun _ _ => rfl))) (pe_and (pe_not (p_call GO r2 (pa_cons (pv 0) (pa_cons (pv 1) pa_nil)))) (pe_one (pe_not (p_call GL hr (pa_cons (pv 0) (pa_cons (pv 1) pa_nil)))))))))), ?_⟩
    obtain ⟨kv, kc, h1, hK, h3, h4, _⟩ := id hO
    have gB := dgs h1 hK.beg
    have gQ := dgs h1 hK.quiet
    unfold VoiceS.may LineS.ready LineS.begun at k
    walk_at "rd"
    refine ⟨_, gB, _, rfl, ?_⟩
    by_cases hb : v.line.beg ≤ t
    · rw [if_pos hb]
      rw [decide_eq_true hb] at k
      refine ⟨_, gQ, _, rfl, ?_⟩
      cases hq : v.heard with
      | false =>
        rw [hq] at k
        exact k H Stp.refl
      | true =>
        rw [hq] at k
        refine ⟨d, v.line, t, rfl, hO.ov, hL, fun H1 s1 => ⟨_, rfl, ?_⟩⟩
        cases eo : v.line.over t with
        | true =>
          rw [eo] at k
          exact k H1 s1
        | false =>
          rw [eo] at k
          refine ⟨d, v.line, t, rfl, (hO.st0 s1).ov, hL, fun H2 s2 => ⟨_, rfl, ?_⟩⟩
          have := k H2 (s1.trans s2)
          simpa using this
    · rw [if_neg hb]
      rw [decide_eq_false hb] at k
      have := k H Stp.refl
      simpa using this
end
end Mx

namespace Mx
open PySem L2
theorem put_len {κ : Type} [DecidableEq κ] {kvs : List (κ × V)} {k : κ} {x v : V} (h : valV kvs k = some x) : (putK kvs k v).length = kvs.length := by
  have e := valV_any k kvs
  rw [h] at e
  unfold putK
  rw [if_pos (by simpa using e)]
  simp
theorem frac_neg (q : Rat) : frac (-q) = [.int (0 - q.num), .int q.den] := by
  unfold frac
  rw [Rat.neg_num, Rat.neg_den, Int.zero_sub]
theorem Rb.negq {n : Nat} {q : Rat} (h : Rb n q) : Rb n (-q) := ⟨by rw [Rat.neg_num, Int.natAbs_neg]; exact h.num, by rw [Rat.neg_den]; exact h.den⟩
/-- a put at another key is not seen -/
theorem vp {kv : List (Key × V)} {a b : Str} {x : V} {y : Option V} (h : valV kv (kS a) = y) (ne : kS a ≠ kS b) : valV (putK kv (kS b) x) (kS a) = y := by
  rw [valV_put, if_neg ne]
  exact h
theorem vs {kv : List (Key × V)} {a : Str} {x : V} : valV (putK kv (kS a) x) (kS a) = some x := by
  rw [valV_put, if_pos rfl]
set_option hygiene false in
local macro_rules | `(tactic| walk_at "rd") => `(tactic| try simp only [L2.start, List.map_cons, List.map_nil, List.length_cons, List.length_nil, Nat.reduceAdd, Nat.reduceSub, Nat.reduceLT, Nat.reduceLeDiff, List.replicate_succ, List.replicate_zero, List.append_nil, List.nil_append, List.cons_append, List.set_cons_zero, List.set_cons_succ, List.getElem?_cons_zero, List.getElem?_cons_succ,
  Option.some.injEq, List.cons.injEq, and_true, true_and, and_assoc, reduceCtorEq, L2.V.int.injEq, L2.V.ref.injEq, L2.V.bl.injEq, L2.V.str.injEq, L2.V.ty.injEq, L2.HO.ins.injEq, L2.HO.lst.injEq, L2.HO.tup.injEq, L2.HO.dK.injEq, exists_eq_left', exists_eq_left, exists_eq_right, exists_eq', exists_eq, exists_and_left, exists_and_right, reduceIte, Bool.false_eq_true, Bool.not_true, Bool.not_false,
  L2.tSeq, L2.tIfS, L2.tRet, L2.tRetN, L2.tNext, L2.tAsg, L2.gName, L2.tVar, L2.tC, L2.tCons, L2.tNil, L2.tCB, L2.tOp, L2.tUn, L2.tTup, L2.tLst, L2.tB, L2.tOr, L2.tAnd, L2.tNot, L2.tAndV, L2.tOrV, L2.tNotV, L2.tIf, L2.tTest, L2.tChain, L2.rI, L2.rI0, L2.rU, L2.tDrop, L2.tNever, L2.tCall, L2.tMeth, L2.tMake, L2.rGcd, L2.tFld, L2.sFld, L2.sFldAug, Mx.sFldA, Mx.sFldAugA, L2.rAdd, L2.rSub, L2.rEq, L2.rNe, L2.tDGet, L2.tDIn, L2.tDNotIn, L2.sDPut,
  Mx.isi_int_bool, Mx.isi_int_int, Mx.isi_int_tuple, Mx.isi_int_list, Mx.isi_int_str, Mx.scal_int, Mx.scal_str, Mx.scal_bl, Mx.ofString_inj, Mx.ofString_beq, Mx.lk_cons, Mx.pf_nil, Mx.pf_cons, Mx.sz1, Mx.sz2, List.lookup_nil, String.reduceEq, decide_true, decide_false, decide_eq_true_eq, Int.natAbs_natCast, L2.upd_same, L2.upd_upd, L2.cxOf, L2.gSub, L2.tPar, L2.gCons, L2.gNil, Mx.optV, L2.sDPut])
set_option hygiene false in
local macro_rules | `(tactic| walk_at "rds") => `(tactic| try simp only [L2.start, List.map_cons, List.map_nil, List.length_cons, List.length_nil, Nat.reduceAdd, Nat.reduceSub, Nat.reduceLT, Nat.reduceLeDiff, List.replicate_succ, List.replicate_zero, List.append_nil, List.nil_append, List.cons_append, List.set_cons_zero, List.set_cons_succ, List.getElem?_cons_zero, List.getElem?_cons_succ,
  Option.some.injEq, List.cons.injEq, and_true, true_and, and_assoc, reduceCtorEq, L2.V.int.injEq, L2.V.ref.injEq, L2.V.bl.injEq, L2.V.str.injEq, L2.V.ty.injEq, L2.HO.ins.injEq, L2.HO.lst.injEq, L2.HO.tup.injEq, L2.HO.dK.injEq, exists_eq_left', exists_eq_left, exists_eq_right, exists_eq', exists_eq, exists_and_left, exists_and_right, reduceIte, Bool.false_eq_true, Bool.not_true, Bool.not_false,
  L2.tSeq, L2.tIfS, L2.tRet, L2.tRetN, L2.tNext, L2.tAsg, L2.gName, L2.tVar, L2.tC, L2.tCons, L2.tNil, L2.tCB, L2.tOp, L2.tUn, L2.tTup, L2.tLst, L2.tB, L2.tOr, L2.tAnd, L2.tNot, L2.tAndV, L2.tOrV, L2.tNotV, L2.tIf, L2.tTest, L2.tChain, L2.rI, L2.rI0, L2.rU, L2.tDrop, L2.tNever, L2.tCall, L2.tMeth, L2.tMake, L2.rGcd, L2.tFld, L2.sFld, L2.sFldAug, Mx.sFldA, Mx.sFldAugA, L2.rAdd, L2.rSub, L2.rEq, L2.rNe, L2.tDGet, L2.tDIn, L2.tDNotIn, L2.sDPut,
  Mx.isi_int_bool, Mx.isi_int_int, Mx.isi_int_tuple, Mx.isi_int_list, Mx.isi_int_str, Mx.scal_int, Mx.scal_str, Mx.scal_bl, Mx.ofString_inj, Mx.ofString_beq, Mx.lk_cons, Mx.pf_nil, Mx.pf_cons, Mx.sz1, Mx.sz2, List.lookup_nil, String.reduceEq, decide_true, decide_false, decide_eq_true_eq, Int.natAbs_natCast, L2.upd_same, L2.upd_upd, L2.cxOf, L2.gSub, L2.tPar, L2.gCons, L2.gNil, Mx.optV, L2.sDPut, *])

section
variable {P : Program} {w : World} {K : PySem.W.Frag} {mg : Str → Option Value} {base : Heap}
def sp_own_led (K : PySem.W.Frag) : Sp := fun vs H Q _ => ∃ (d c : Addr) (v : VoiceS) (n : Nat), vs = [.ref d] ∧ OwnV K H d c v n ∧ 7 ≤ n ∧ n ≤ 1000 ∧ LoudOk n v.loud ∧ ∀ H', OwnV K H' d c { v with loud := v.loud.on } n → Stp [d] H H' → Q .non H'
theorem sc_law_led : FnScope ["_law_v", "_law_first", "_law_last", "_law_beats", "_law_over", "_law_far"] ["_law_v"] (defScope s_law_led) := ⟨rfl, rfl, rfl, by decide +kernel, rfl, by decide +kernel, by decide +kernel⟩
theorem ok_law_led {f : Addr} {fd : FuncData} (F : Fun K "_law_led" "_law_led" s_law_led f fd) (GP : OwnF P w K mg base "_law_plus" 2 ["_law_one", "_law_other"] (sp_two (· + ·) K)) (GT : OwnF P w K mg base "_law_times" 2 ["_law_one", "_law_top", "_law_bottom"] (sp_timesW K)) : FnOk P w K mg base CX0 3 f fd ["_law_v"] (sp_own_led K) := by
  refine F.ok sc_law_led (fun vs H Q E h => ?_) (fun cdv A outer s H vs Q E r2 h => ?_)
  · obtain ⟨d, c, v, n, rfl, _⟩ := h
    rfl
  · obtain ⟨d, c, v, n, rfl, hO, n7, n1, hLo, k⟩ := h
    have nd := sc_law_led.nd
    have hu := hu_of r2
    refine ⟨_, (pss_one (ps_if (pt_cmpR op_notN (pe_dget hu (pv 0) pe_str (fun _ _ => rfl)) pe_non (nomark _)) (pss_cons (ps_asg (pe_dget hu (pv 0) pe_str (fun _ _ => rfl)) (pg_tup rfl (pgs_cons (pg_name (i := 1) nd rfl (.inl rfl)) (pgs_cons (pg_name (i := 2) nd rfl (.inl rfl)) (pgs_cons (pg_name (i := 3) nd rfl (.inl rfl)) (pgs_cons (pg_name (i := 4) nd rfl (.inl rfl)) pgs_nil))))))
      (pss_cons (ps_set (i := 5) nd rfl (.inl rfl) (p_call GP r2 (pa_cons (pv 2) (pa_cons (pe_tup (pa_cons (pe_op op_sub pe_int (pe_ix ix_tup (pv 1) pe_int (fun _ _ => rfl))) (pa_cons (pe_ix ix_tup (pv 1) pe_int (fun _ _ => rfl)) pa_nil))) pa_nil))))
      (pss_cons (ps_dput hu (pv 0) pe_str (p_call GP r2 (pa_cons (pv 1) (pa_cons (p_call GT r2 (pa_cons (pv 5) (pa_cons (pe_op op_add (pv 4) pe_int) (pa_cons (pv 3) pa_nil)))) pa_nil))) (by rfl))
      (pss_one (ps_dput hu (pv 0) pe_str (pe_ifExp (pt_cmpR op_lt (pe_op op_add (pv 4) pe_int) (pv 3) (nomark _)) (pe_tup (pa_cons (pv 1) (pa_cons (pv 2) (pa_cons (pv 3) (pa_cons (pe_op op_add (pv 4) pe_int) pa_nil))))) pe_non) (by rfl)))))) pss_nil)), ?_⟩
    obtain ⟨kv, kc, h1, hK, h3, h4, h5, h6, hne⟩ := id hO
    obtain ⟨gv, g1, g2⟩ := hK.goal
    have gG := dgs h1 g1
    walk_at "rd"
    refine ⟨_, gG, ?_⟩
    rcases g2 with ⟨rfl, hl⟩ | ⟨g, fa, la, Fq, Lq, Bq, Oq, rfl, t1, t2, t3, B1, B2, O1, O2, hl, hst, hlv, rF, rL⟩
    · walk_at "rd"
      refine k H ?_ (Stp.refl.sub (by simp))
      have e : v.loud.on = v.loud := by
        unfold LoudS.on
        rw [if_neg (by omega)]
      rw [e]
      exact hO
    · walk_at "rd"
      refine ⟨_, gG, g, _, rfl, .inl (.inl t1), rfl, _, _, rfl, _, _, rfl, _, _, rfl, _, _, rfl, rfl, ?_⟩
      simp only [List.set_cons_zero, List.set_cons_succ]
      walk_at "rd"
      refine ixT_0 t2 ⟨_, rfl, ixT_1 t2 fun p1 hp1 => ?_⟩
      have s1 := Stp.new (o := .tup [.int (0 - Fq.num), .int Fq.den]) hp1
      have e1 : TupAt K (upd H p1 (.tup [.int (0 - Fq.num), .int Fq.den])) p1 (frac (-Fq)) := by
        rw [frac_neg]
        exact .inl upd_same
      generalize upd H p1 (.tup [.int (0 - Fq.num), .int Fq.den]) = H1 at *
      refine ⟨la, p1, Lq, -Fq, 7, n, rfl, t3.st s1, e1, rL, rF.negq, by omega, by decide, by omega, fun p2 H2 hp2 s2 l2 => ?_⟩
      walk_at "rd"
      have rD : Rb (7 + n + 1) (Lq + -Fq) := rL.add rF.negq
      refine ⟨p2, Lq + -Fq, Oq + 1, Bq, 7 + n + 1, 7, rfl, .inl l2, rD, by omega, by omega, by omega, by omega, by omega, by decide, fun p3 H3 hp3 s3 l3 => ?_⟩
      have rT : Rb (7 + n + 1 + 7) ((Lq + -Fq) * mkRat (Oq + 1) Bq.toNat) := rD.mul (Rb.of (by omega) (by omega) (by omega))
      have s13 := s1.trans (s2.trans s3)
      refine ⟨fa, p3, Fq, (Lq + -Fq) * mkRat (Oq + 1) Bq.toNat, n, 7 + n + 1 + 7, rfl, t2.st s13, .inl l3, rF, rT, by omega, by omega, by omega, fun p4 H4 hp4 s4 l4 => ?_⟩
      have s14 : Stp [] H H4 := s1.trans (s2.trans (s3.trans s4))
      have h14 := s14.keep _ _ h1 (by simp)
      refine ⟨_, DPut.k (k := kS "loud") h14 (Nat.lt_of_le_of_lt h6 (by decide)), ?_⟩
      have sP := Stp.put (o := .dK (putK kv (kS "loud") (.ref p4))) h14 (fun xs z => nomatch z)
      have eP : upd H4 d (.dK (putK kv (kS "loud") (.ref p4))) d = some (.dK (putK kv (kS "loud") (.ref p4))) := upd_same
      generalize upd H4 d (.dK (putK kv (kS "loud") (.ref p4))) = H5 at *
      have s15 := s14.trans sP
      have l45 := sP.tup _ _ l4
      have hlen : (putK kv (kS "loud") (V.ref p4)).length ≤ 30 := by
        obtain ⟨lv, q1, _⟩ := hK.loud
        rw [put_len q1]
        exact h6
      have hon : v.loud.on = ⟨v.loud.level + v.loud.stride, v.loud.stride, v.loud.left - 1⟩ := by
        unfold LoudS.on
        rw [if_pos (by omega)]
      have hlev : Fq + (Lq + -Fq) * mkRat (Oq + 1) Bq.toNat = v.loud.level + v.loud.stride := by
        rw [hlv, hst, ← mk_add Oq 1 (D := Bq.toNat) (by omega)]
        grind
      have fin : ∀ (H' : Hp) (x : V), Stp [d] H5 H' → H' d = some (.dK (putK (putK kv (kS "loud") (V.ref p4)) (kS "goal") x)) → GoalIs K H' n x v.loud.on → Q .non H' := fun H' x s56 hd6 hG => by
        have s16 : Stp [d] H H' := (s15.trans s56).sub (by simp)
        refine k H' ⟨_, kc, hd6, ?_, s16.keep _ _ h3 (by simpa using hne.symm), h4, h5, ?_, hne⟩ s16
        · have hK6 := hK.st s16
          obtain ⟨⟨tp, p1', p2'⟩, b2, b3, b4, _, b6, _, b8, ⟨ik, b9, b9'⟩, ⟨pv, q1, q2⟩, ⟨hv, r1, r2'⟩⟩ := hK6
          have ne : ∀ {a b : Str} {y : Option V}, valV kv (kS a) = y → kS a ≠ kS "loud" → kS a ≠ kS "goal" → valV (putK (putK kv (kS "loud") (V.ref p4)) (kS "goal") x) (kS a) = y := fun h n1 n2 => vp (vp h n1) n2
          exact ⟨⟨tp, ne (b := "") p1' (by decide) (by decide), p2'⟩, ne (b := "") b2 (by decide) (by decide), ne (b := "") b3 (by decide) (by decide), ne (b := "") b4 (by decide) (by decide), ⟨x, vs, hG⟩, ne (b := "") b6 (by decide) (by decide), ⟨.ref p4, vp vs (by decide), by rw [hon, ← hlev]; exact isQ_of (s56.tup _ _ l45)⟩, ne (b := "") b8 (by decide) (by decide), ⟨ik, ne (b := "") b9 (by decide) (by decide), b9'⟩, ⟨pv, ne (b := "") q1 (by decide) (by decide), q2⟩, ⟨hv, ne (b := "") r1 (by decide) (by decide), r2'⟩⟩
        · have : valV (putK kv (kS "loud") (V.ref p4)) (kS "goal") = some (.ref g) := vp g1 (by decide)
          rw [put_len this]
          exact hlen
      by_cases hlt : Oq + 1 < Bq
      · rw [if_pos hlt]
        refine ⟨by decide, fun p5 hp5 => ?_⟩
        have s6 := Stp.new (o := .tup [.ref fa, .ref la, .int Bq, .int (Oq + 1)]) hp5
        have e6 : upd H5 p5 (.tup [.ref fa, .ref la, .int Bq, .int (Oq + 1)]) p5 = some (.tup (frac4 fa la Bq (Oq + 1))) := upd_same
        have eP6 := s6.keep _ _ eP (by simp)
        generalize upd H5 p5 (.tup [.ref fa, .ref la, .int Bq, .int (Oq + 1)]) = H6 at *
        refine ⟨_, DPut.k (k := kS "goal") eP6 (Nat.lt_of_le_of_lt hlen (by decide)), ?_⟩
        have s7 := Stp.put (o := .dK (putK (putK kv (kS "loud") (.ref p4)) (kS "goal") (.ref p5))) eP6 (fun xs z => nomatch z)
        have s17 := s15.trans (s6.trans s7)
        refine fin _ (.ref p5) ((s6.trans s7).sub (by simp)) upd_same (.inr ⟨p5, fa, la, Fq, Lq, Bq, Oq + 1, rfl, s7.tup _ _ e6, t2.st s17, t3.st s17, B1, B2, by omega, hlt, ?_, ?_, ?_, rF, rL⟩)
        · rw [hon]
          show v.loud.left - 1 = _
          omega
        · rw [hon]
          exact hst
        · rw [hon]
          show v.loud.level + v.loud.stride = _
          rw [← hlev]
          grind
      · rw [if_neg hlt]
        refine ⟨_, DPut.k (k := kS "goal") eP (Nat.lt_of_le_of_lt hlen (by decide)), ?_⟩
        have s7 := Stp.put (o := .dK (putK (putK kv (kS "loud") (.ref p4)) (kS "goal") .non)) eP (fun xs z => nomatch z)
        refine fin _ .non s7 upd_same (.inl ⟨rfl, ?_⟩)
        rw [hon]
        show v.loud.left - 1 = 0
        omega
end
end Mx

namespace Mx
open PySem L2
set_option hygiene false in
local macro_rules | `(tactic| walk_at "rd") => `(tactic| try simp only [L2.start, List.map_cons, List.map_nil, List.length_cons, List.length_nil, Nat.reduceAdd, Nat.reduceSub, Nat.reduceLT, Nat.reduceLeDiff, List.replicate_succ, List.replicate_zero, List.append_nil, List.nil_append, List.cons_append, List.set_cons_zero, List.set_cons_succ, List.getElem?_cons_zero, List.getElem?_cons_succ,
  Option.some.injEq, List.cons.injEq, and_true, true_and, and_assoc, reduceCtorEq, L2.V.int.injEq, L2.V.ref.injEq, L2.V.bl.injEq, L2.V.str.injEq, L2.V.ty.injEq, L2.HO.ins.injEq, L2.HO.lst.injEq, L2.HO.tup.injEq, L2.HO.dK.injEq, exists_eq_left', exists_eq_left, exists_eq_right, exists_eq', exists_eq, exists_and_left, exists_and_right, reduceIte, Bool.false_eq_true, Bool.not_true, Bool.not_false,
  L2.tSeq, L2.tIfS, L2.tRet, L2.tRetN, L2.tNext, L2.tAsg, L2.gName, L2.tVar, L2.tC, L2.tCons, L2.tNil, L2.tCB, L2.tOp, L2.tUn, L2.tTup, L2.tLst, L2.tB, L2.tOr, L2.tAnd, L2.tNot, L2.tAndV, L2.tOrV, L2.tNotV, L2.tIf, L2.tTest, L2.tChain, L2.rI, L2.rI0, L2.rU, L2.tDrop, L2.tNever, L2.tCall, L2.tMeth, L2.tMake, L2.rGcd, L2.tFld, L2.sFld, L2.sFldAug, Mx.sFldA, Mx.sFldAugA, L2.rAdd, L2.rSub, L2.rEq, L2.rNe, L2.tDGet, L2.tDIn, L2.tDNotIn, L2.sDPut,
  Mx.isi_int_bool, Mx.isi_int_int, Mx.isi_int_tuple, Mx.isi_int_list, Mx.isi_int_str, Mx.scal_int, Mx.scal_str, Mx.scal_bl, Mx.ofString_inj, Mx.ofString_beq, Mx.lk_cons, Mx.pf_nil, Mx.pf_cons, Mx.sz1, Mx.sz2, List.lookup_nil, String.reduceEq, decide_true, decide_false, decide_eq_true_eq, Int.natAbs_natCast, L2.upd_same, L2.upd_upd, L2.cxOf, L2.gSub, L2.tPar, L2.gCons, L2.gNil, Mx.optV, L2.sDPut])
set_option hygiene false in
local macro_rules | `(tactic| walk_at "rds") => `(tactic| try simp only [L2.start, List.map_cons, List.map_nil, List.length_cons, List.length_nil, Nat.reduceAdd, Nat.reduceSub, Nat.reduceLT, Nat.reduceLeDiff, List.replicate_succ, List.replicate_zero, List.append_nil, List.nil_append, List.cons_append, List.set_cons_zero, List.set_cons_succ, List.getElem?_cons_zero, List.getElem?_cons_succ,
  Option.some.injEq, List.cons.injEq, and_true, true_and, and_assoc, reduceCtorEq, L2.V.int.injEq, L2.V.ref.injEq, L2.V.bl.injEq, L2.V.str.injEq, L2.V.ty.injEq, L2.HO.ins.injEq, L2.HO.lst.injEq, L2.HO.tup.injEq, L2.HO.dK.injEq, exists_eq_left', exists_eq_left, exists_eq_right, exists_eq', exists_eq, exists_and_left, exists_and_right, reduceIte, Bool.false_eq_true, Bool.not_true, Bool.not_false,
  L2.tSeq, L2.tIfS, L2.tRet, L2.tRetN, L2.tNext, L2.tAsg, L2.gName, L2.tVar, L2.tC, L2.tCons, L2.tNil, L2.tCB, L2.tOp, L2.tUn, L2.tTup, L2.tLst, L2.tB, L2.tOr, L2.tAnd, L2.tNot, L2.tAndV, L2.tOrV, L2.tNotV, L2.tIf, L2.tTest, L2.tChain, L2.rI, L2.rI0, L2.rU, L2.tDrop, L2.tNever, L2.tCall, L2.tMeth, L2.tMake, L2.rGcd, L2.tFld, L2.sFld, L2.sFldAug, Mx.sFldA, Mx.sFldAugA, L2.rAdd, L2.rSub, L2.rEq, L2.rNe, L2.tDGet, L2.tDIn, L2.tDNotIn, L2.sDPut,
  Mx.isi_int_bool, Mx.isi_int_int, Mx.isi_int_tuple, Mx.isi_int_list, Mx.isi_int_str, Mx.scal_int, Mx.scal_str, Mx.scal_bl, Mx.ofString_inj, Mx.ofString_beq, Mx.lk_cons, Mx.pf_nil, Mx.pf_cons, Mx.sz1, Mx.sz2, List.lookup_nil, String.reduceEq, decide_true, decide_false, decide_eq_true_eq, Int.natAbs_natCast, L2.upd_same, L2.upd_upd, L2.cxOf, L2.gSub, L2.tPar, L2.gCons, L2.gNil, Mx.optV, L2.sDPut, *])

section
variable {P : Program} {w : World} {K : PySem.W.Frag} {mg : Str → Option Value} {base : Heap}
def sp_own_may (K : PySem.W.Frag) : Sp := fun vs H Q _ => ∃ (d c : Addr) (v : VoiceS) (n : Nat) (t : Int), vs = [.ref d, .int t] ∧ OwnV K H d c v n ∧ LineOk v.line ∧ ∀ H', Stp [] H H' → Q (.bl (v.may t)) H'
theorem OwnK.re {H : Hp} {kv kv' : List (Key × V)} {c : Addr} {v v' : VoiceS} {n : Nat} (h : OwnK K H kv c v n) (e1 : v'.line = v.line) (e2 : v'.loud = v.loud) (e3 : v'.heard = v.heard) (hs : ∀ a : Str, kS a ≠ kS "word" → kS a ≠ kS "k" → kS a ≠ kS "part" → kS a ≠ kS "held" → valV kv' (kS a) = valV kv (kS a))
    (w1 : valV kv' (kS "word") = some (.str v'.word)) (k1 : ∃ i : Int, valV kv' (kS "k") = some (.int i) ∧ (v'.word = wR ∨ v'.word = wF → i = v'.steps)) (p1 : ∃ pv, valV kv' (kS "part") = some pv ∧ IsQ K H pv v'.part) (h1 : ∃ hv, valV kv' (kS "held") = some hv ∧ (v'.word = wF → IsQ K H hv v'.height)) : OwnK K H kv' c v' n := by
  obtain ⟨⟨tp, a1, a2⟩, b2, b3, b4, ⟨gv, g1, g2⟩, b6, ⟨lv, l1, l2⟩, b8, b9, b10, b11⟩ := h
  have q : ∀ {a : Str} {y : V}, valV kv (kS a) = some y → kS a ≠ kS "word" → kS a ≠ kS "k" → kS a ≠ kS "part" → kS a ≠ kS "held" → valV kv' (kS a) = some y := fun h n1 n2 n3 n4 => (hs _ n1 n2 n3 n4).trans h
  exact ⟨⟨tp, q a1 (by decide) (by decide) (by decide) (by decide), by rw [e1]; exact a2⟩, by rw [e1]; exact q b2 (by decide) (by decide) (by decide) (by decide), q b3 (by decide) (by decide) (by decide) (by decide), by rw [e1]; exact q b4 (by decide) (by decide) (by decide) (by decide), ⟨gv, q g1 (by decide) (by decide) (by decide) (by decide), by rw [e2]; exact g2⟩, by rw [e3]; exact q b6 (by decide) (by decide) (by decide) (by decide), ⟨lv, q l1 (by decide) (by decide) (by decide) (by decide), by rw [e2]; exact l2⟩, w1, k1, p1, h1⟩
def stA (v : VoiceS) (m : Bool) : VoiceS := if (v.word = wR ∨ v.word = wO) ∧ m = false then { v with word := wF, steps := 0, height := v.part } else v
def stB (v : VoiceS) (m : Bool) : VoiceS := if v.word = wH ∧ m = true then { v with word := wR, steps := 0 } else v
def stC (v : VoiceS) (whole : Rat) (soft : Int) : VoiceS := if v.word = wF then v.fall soft else if v.word = wH then v else if v.word = wO then { v with part := whole } else v.rise whole soft
theorem give_st {v : VoiceS} {t soft : Int} (hw : v.word = wH ∨ v.word = wR ∨ v.word = wO ∨ v.word = wF) : v.give t soft = stC (stB (stA { v with loud := v.loud.on } (v.may t)) (v.may t)) (v.line.value t * v.loud.on.level) soft := by
  obtain ⟨n1, n2, n3, n4, n5, n6⟩ := wne
  unfold VoiceS.give stA stB stC VoiceS.sound VoiceS.beginFall
  rcases hw with h | h | h | h <;> cases v.may t <;> simp [h, n1, n2, n3, n4, n5, n6, n1.symm, n2.symm, n3.symm, n4.symm, n5.symm, n6.symm]
abbrev NS5 : List Str := ["_law_v", "_law_beat_here", "_law_soft", "_law_may_here", "_law_value_here"]
theorem sc_law_sound : FnScope ["_law_v", "_law_beat_here", "_law_soft", "_law_may_here", "_law_value_here"] ["_law_v", "_law_beat_here", "_law_soft"] (defScope s_law_sound) := ⟨rfl, rfl, rfl, by decide +kernel, rfl, by decide +kernel, by decide +kernel⟩
abbrev XSd (P : Program) (w : World) (K : PySem.W.Frag) (mg : Str → Option Value) (base : Heap) (f : Addr) (cdv : Value) (A : Around) (outer : List Env) (s : Shared) (H : Hp) (E : XK) : Cx := (cxOf CX0 P w K mg base NS5 "_law_sound" (defScope s_law_sound) f cdv A outer s H E).nox
abbrev pass0q : Stmt := .Pass ⟨0, 0, 0, 0⟩
theorem sA_ok {f : Addr} {cdv : Value} {A : Around} {outer : List Env} {s : Shared} {H : Hp} {E : XK} (hr : Room 4 (A.deeper (PyProof.Rows.envOfC "_law_sound" (defScope s_law_sound) s.heap.objs.size f cdv))) :
    ∃ t, PS (XSd P w K mg base f cdv A outer s H E) ((defBody s_law_sound).getD 2 pass0q) t ∧ ∀ (D : Ends) (H1 : Hp) (d c : Addr) (v : VoiceS) (n : Nat) (m : Bool) (x1 x2 x4 : Option V), OwnV K H1 d c v n → (∀ H2, OwnV K H2 d c (stA v m) n → Stp [d] H1 H2 → D.nx [some (.ref d), x1, x2, some (.bl m), x4] H2) → t D [some (.ref d), x1, x2, some (.bl m), x4] H1 := by
  have nd := sc_law_sound.nd
  have hu := hu_of hr
  refine ⟨_, (ps_if (PW.pt (pw_and (pt_cmpR op_in_seq (pe_dget hu (pv 0) pe_str (fun _ _ => rfl)) (pe_tup (pa_cons pe_str (pa_cons pe_str pa_nil))) rfl) (pw_and1 (pt_not (pt_val (pv 3)))))) (pss_one (ps_asg (pe_tup (pa_cons pe_str (pa_cons pe_int (pa_cons (pe_dget hu (pv 0) pe_str (fun _ _ => rfl)) pa_nil)))) (pg_tup rfl (pgs_cons (pg_sub (pv 0) pe_str (set_dict hu)) (pgs_cons (pg_sub (pv 0) pe_str (set_dict hu)) (pgs_cons (pg_sub (pv 0) pe_str (set_dict hu)) pgs_nil)))))) pss_nil), ?_⟩
  intro D H1 d c v n m x1 x2 x4 hO q
  obtain ⟨kv, kc, h1, hK, h3, h4, h5, h6, hne⟩ := id hO
  walk_at "rd"
  refine ⟨_, dgs h1 hK.word, fun p hp => ?_⟩
  have s1 := Stp.new (o := .tup [V.str "rising", V.str "on"]) hp
  have e1 : upd H1 p (.tup [V.str "rising", V.str "on"]) p = some (.tup [V.str "rising", V.str "on"]) := upd_same
  have ein : inV (.str v.word) [V.str "rising", V.str "on"] = decide (v.word = wR ∨ v.word = wO) := by
    have b : ∀ a b : Str, (a == b) = decide (a = b) := fun a b => by rw [Bool.eq_iff_iff, beq_iff_eq, decide_eq_true_eq]
    show (wR == v.word || (wO == v.word || false)) = _
    rw [b, b, Bool.or_false, ← Bool.decide_or]
    exact decide_eq_decide.mpr ⟨fun h => h.imp Eq.symm Eq.symm, fun h => h.imp Eq.symm Eq.symm⟩
  have hO1 := hO.st0 s1
  have h11 := s1.keep _ _ h1 (by simp)
  generalize upd H1 p (.tup [V.str "rising", V.str "on"]) = H2 at *
  refine ⟨p, _, rfl, .inr (.inl (.inl e1)), rfl, rfl, _, rfl, ?_⟩
  rw [if_neg (show ¬ (false = true) by decide), ein]
  obtain ⟨pv, pv1, pv2⟩ := hK.part
  by_cases hw : v.word = wR ∨ v.word = wO
  · rw [decide_eq_true hw, if_pos rfl]
    cases m with
    | true =>
      have e : stA v true = v := if_neg (by simp)
      rw [e] at q
      exact q H2 hO1 (s1.sub (by simp))
    | false =>
      rw [if_pos (show (!false) = true from rfl)]
      refine ⟨_, dgs h11 pv1, by decide, fun p2 hp2 => ?_⟩
      have s2 := Stp.new (o := .tup [V.str "falling", V.int 0, pv]) hp2
      have e2 : upd H2 p2 (.tup [V.str "falling", V.int 0, pv]) p2 = some (.tup [V.str "falling", V.int 0, pv]) := upd_same
      have h12 := s2.keep _ _ h11 (by simp)
      generalize upd H2 p2 (.tup [V.str "falling", V.int 0, pv]) = H3 at *
      obtain ⟨ik, k1, _⟩ := hK.k
      obtain ⟨hv, r1, _⟩ := hK.held
      have l1 : (putK kv (kS "word") (V.str "falling")).length = kv.length := put_len hK.word
      have l2 : (putK (putK kv (kS "word") (V.str "falling")) (kS "k") (V.int 0)).length = kv.length := (put_len (vp k1 (by decide))).trans l1
      have l3 : (putK (putK (putK kv (kS "word") (V.str "falling")) (kS "k") (V.int 0)) (kS "held") pv).length = kv.length := (put_len (vp (vp r1 (by decide)) (by decide))).trans l2
      have hsz : ∀ {l : Nat}, l = kv.length → l < sizeLine := fun h => Nat.lt_of_le_of_lt (h ▸ h6) (by decide)
      have q1 := Stp.put (o := .dK (putK kv (kS "word") (V.str "falling"))) h12 (fun xs z => nomatch z)
      have q2 := Stp.put (o := .dK (putK (putK kv (kS "word") (V.str "falling")) (kS "k") (V.int 0))) (upd_same (H := H3) (a := d) (o := .dK (putK kv (kS "word") (V.str "falling")))) (fun xs z => nomatch z)
      have q3 := Stp.put (o := .dK (putK (putK (putK kv (kS "word") (V.str "falling")) (kS "k") (V.int 0)) (kS "held") pv)) (upd_same (H := upd H3 d (.dK (putK kv (kS "word") (V.str "falling")))) (a := d) (o := .dK (putK (putK kv (kS "word") (V.str "falling")) (kS "k") (V.int 0)))) (fun xs z => nomatch z)
      refine ⟨p2, _, rfl, .inl (.inl e2), rfl, _, _, rfl, ?_⟩
      refine ⟨_, rfl, d, _, rfl, DPut.k (k := kS "word") h12 (hsz rfl), _, _, rfl, ?_⟩
      refine ⟨_, rfl, d, _, rfl, DPut.k (k := kS "k") upd_same (hsz l1), _, _, rfl, ?_⟩
      refine ⟨_, rfl, d, _, rfl, DPut.k (k := kS "held") upd_same (hsz l2), rfl, ?_⟩
      have e : stA v false = { v with word := wF, steps := 0, height := v.part } := if_pos ⟨hw, rfl⟩
      rw [e] at q
      have q13 := (q1.trans (q2.trans q3)).sub (G := [d]) (by simp)
      have hK3 := ((hK.st s1).st s2).st q13
      refine q _ ⟨_, kc, upd_same, hK3.re rfl rfl rfl (fun a n1 n2 n3 n4 => vp (vp (vp rfl n1) n2) n4) (vp (vp vs (by decide)) (by decide)) ⟨0, vp vs (by decide), fun _ => rfl⟩ ⟨pv, vp (vp (vp pv1 (by decide)) (by decide)) (by decide), (((pv2.st s1).st s2).st q13)⟩ ⟨pv, vs, fun _ => ((pv2.st s1).st s2).st q13⟩, q13.keep _ _ (s2.keep _ _ (s1.keep _ _ h3 (by simp)) (by simp)) (by simpa using hne.symm), h4, h5, by rw [l3]; exact h6, hne⟩ ((s1.trans (s2.trans q13)).sub (by simp))
  · rw [decide_eq_false hw, if_neg (by simp)]
    have e : stA v m = v := if_neg fun z => hw z.1
    rw [e] at q
    exact q H2 hO1 (s1.sub (by simp))
end
end Mx

namespace Mx
open PySem L2
set_option hygiene false in
local macro_rules | `(tactic| walk_at "rd") => `(tactic| try simp only [L2.start, List.map_cons, List.map_nil, List.length_cons, List.length_nil, Nat.reduceAdd, Nat.reduceSub, Nat.reduceLT, Nat.reduceLeDiff, List.replicate_succ, List.replicate_zero, List.append_nil, List.nil_append, List.cons_append, List.set_cons_zero, List.set_cons_succ, List.getElem?_cons_zero, List.getElem?_cons_succ,
  Option.some.injEq, List.cons.injEq, and_true, true_and, and_assoc, reduceCtorEq, L2.V.int.injEq, L2.V.ref.injEq, L2.V.bl.injEq, L2.V.str.injEq, L2.V.ty.injEq, L2.HO.ins.injEq, L2.HO.lst.injEq, L2.HO.tup.injEq, L2.HO.dK.injEq, exists_eq_left', exists_eq_left, exists_eq_right, exists_eq', exists_eq, exists_and_left, exists_and_right, reduceIte, Bool.false_eq_true, Bool.not_true, Bool.not_false,
  L2.tSeq, L2.tIfS, L2.tRet, L2.tRetN, L2.tNext, L2.tAsg, L2.gName, L2.tVar, L2.tC, L2.tCons, L2.tNil, L2.tCB, L2.tOp, L2.tUn, L2.tTup, L2.tLst, L2.tB, L2.tOr, L2.tAnd, L2.tNot, L2.tAndV, L2.tOrV, L2.tNotV, L2.tIf, L2.tTest, L2.tChain, L2.rI, L2.rI0, L2.rU, L2.tDrop, L2.tNever, L2.tCall, L2.tMeth, L2.tMake, L2.rGcd, L2.tFld, L2.sFld, L2.sFldAug, Mx.sFldA, Mx.sFldAugA, L2.rAdd, L2.rSub, L2.rEq, L2.rNe, L2.tDGet, L2.tDIn, L2.tDNotIn, L2.sDPut,
  Mx.isi_int_bool, Mx.isi_int_int, Mx.isi_int_tuple, Mx.isi_int_list, Mx.isi_int_str, Mx.scal_int, Mx.scal_str, Mx.scal_bl, Mx.ofString_inj, Mx.ofString_beq, Mx.lk_cons, Mx.pf_nil, Mx.pf_cons, Mx.sz1, Mx.sz2, List.lookup_nil, String.reduceEq, decide_true, decide_false, decide_eq_true_eq, Int.natAbs_natCast, L2.upd_same, L2.upd_upd, L2.cxOf, L2.gSub, L2.tPar, L2.gCons, L2.gNil, Mx.optV, L2.sDPut])
set_option hygiene false in
local macro_rules | `(tactic| walk_at "rds") => `(tactic| try simp only [L2.start, List.map_cons, List.map_nil, List.length_cons, List.length_nil, Nat.reduceAdd, Nat.reduceSub, Nat.reduceLT, Nat.reduceLeDiff, List.replicate_succ, List.replicate_zero, List.append_nil, List.nil_append, List.cons_append, List.set_cons_zero, List.set_cons_succ, List.getElem?_cons_zero, List.getElem?_cons_succ,
  Option.some.injEq, List.cons.injEq, and_true, true_and, and_assoc, reduceCtorEq, L2.V.int.injEq, L2.V.ref.injEq, L2.V.bl.injEq, L2.V.str.injEq, L2.V.ty.injEq, L2.HO.ins.injEq, L2.HO.lst.injEq, L2.HO.tup.injEq, L2.HO.dK.injEq, exists_eq_left', exists_eq_left, exists_eq_right, exists_eq', exists_eq, exists_and_left, exists_and_right, reduceIte, Bool.false_eq_true, Bool.not_true, Bool.not_false,
  L2.tSeq, L2.tIfS, L2.tRet, L2.tRetN, L2.tNext, L2.tAsg, L2.gName, L2.tVar, L2.tC, L2.tCons, L2.tNil, L2.tCB, L2.tOp, L2.tUn, L2.tTup, L2.tLst, L2.tB, L2.tOr, L2.tAnd, L2.tNot, L2.tAndV, L2.tOrV, L2.tNotV, L2.tIf, L2.tTest, L2.tChain, L2.rI, L2.rI0, L2.rU, L2.tDrop, L2.tNever, L2.tCall, L2.tMeth, L2.tMake, L2.rGcd, L2.tFld, L2.sFld, L2.sFldAug, Mx.sFldA, Mx.sFldAugA, L2.rAdd, L2.rSub, L2.rEq, L2.rNe, L2.tDGet, L2.tDIn, L2.tDNotIn, L2.sDPut,
  Mx.isi_int_bool, Mx.isi_int_int, Mx.isi_int_tuple, Mx.isi_int_list, Mx.isi_int_str, Mx.scal_int, Mx.scal_str, Mx.scal_bl, Mx.ofString_inj, Mx.ofString_beq, Mx.lk_cons, Mx.pf_nil, Mx.pf_cons, Mx.sz1, Mx.sz2, List.lookup_nil, String.reduceEq, decide_true, decide_false, decide_eq_true_eq, Int.natAbs_natCast, L2.upd_same, L2.upd_upd, L2.cxOf, L2.gSub, L2.tPar, L2.gCons, L2.gNil, Mx.optV, L2.sDPut, *])

section
variable {P : Program} {w : World} {K : PySem.W.Frag} {mg : Str → Option Value} {base : Heap}
theorem mkRat_one {b : Int} (h : 1 ≤ b) : mkRat b b.toNat = 1 := by
  have e : b = ((b.toNat : Nat) : Int) := by omega
  have := Rat.mkRat_mul_right (n := 1) (d := 1) (a := b.toNat) (by omega)
  rw [Nat.one_mul, Int.one_mul, ← e] at this
  rw [this]
  rfl
theorem eq_dec (a b : Str) : (a == b) = decide (a = b) := by rw [Bool.eq_iff_iff, beq_iff_eq, decide_eq_true_eq]
theorem sB_ok {f : Addr} {cdv : Value} {A : Around} {outer : List Env} {s : Shared} {H : Hp} {E : XK} (hr : Room 4 (A.deeper (PyProof.Rows.envOfC "_law_sound" (defScope s_law_sound) s.heap.objs.size f cdv))) :
    ∃ t, PS (XSd P w K mg base f cdv A outer s H E) ((defBody s_law_sound).getD 3 pass0q) t ∧ ∀ (D : Ends) (H1 : Hp) (d c : Addr) (v : VoiceS) (n : Nat) (m : Bool) (x1 x2 x4 : Option V), OwnV K H1 d c v n → (∀ H2, OwnV K H2 d c (stB v m) n → Stp [d] H1 H2 → D.nx [some (.ref d), x1, x2, some (.bl m), x4] H2) → t D [some (.ref d), x1, x2, some (.bl m), x4] H1 := by
  have nd := sc_law_sound.nd
  have hu := hu_of hr
  refine ⟨_, (ps_if (PW.pt (pw_and (pt_cmpR op_eq (pe_dget hu (pv 0) pe_str (fun _ _ => rfl)) pe_str (nomark _)) (pw_and1 (pt_val (pv 3))))) (pss_one (ps_asg (pe_tup (pa_cons pe_str (pa_cons pe_int pa_nil))) (pg_tup rfl (pgs_cons (pg_sub (pv 0) pe_str (set_dict hu)) (pgs_cons (pg_sub (pv 0) pe_str (set_dict hu)) pgs_nil))))) pss_nil), ?_⟩
  intro D H1 d c v n m x1 x2 x4 hO q
  obtain ⟨kv, kc, h1, hK, h3, h4, h5, h6, hne⟩ := id hO
  walk_at "rd"
  refine ⟨_, dgs h1 hK.word, rfl, ?_⟩
  by_cases hw : v.word = wH
  · rw [if_pos (by rw [hw])]
    cases m with
    | false =>
      rw [if_neg (by simp)]
      have e : stB v false = v := if_neg (by simp)
      rw [e] at q
      exact q H1 hO (Stp.refl.sub (by simp))
    | true =>
      rw [if_pos rfl]
      intro p2 hp2
      have s2 := Stp.new (o := .tup [V.str "rising", V.int 0]) hp2
      have e2 : upd H1 p2 (.tup [V.str "rising", V.int 0]) p2 = some (.tup [V.str "rising", V.int 0]) := upd_same
      have h12 := s2.keep _ _ h1 (by simp)
      generalize upd H1 p2 (.tup [V.str "rising", V.int 0]) = H3 at *
      obtain ⟨ik, k1, _⟩ := hK.k
      obtain ⟨hv, r1, r2⟩ := hK.held
      obtain ⟨pv, pv1, pv2⟩ := hK.part
      have l1 : (putK kv (kS "word") (V.str "rising")).length = kv.length := put_len hK.word
      have l2 : (putK (putK kv (kS "word") (V.str "rising")) (kS "k") (V.int 0)).length = kv.length := (put_len (vp k1 (by decide))).trans l1
      have hsz : ∀ {l : Nat}, l = kv.length → l < sizeLine := fun h => Nat.lt_of_le_of_lt (h ▸ h6) (by decide)
      have q1 := Stp.put (o := .dK (putK kv (kS "word") (V.str "rising"))) h12 (fun xs z => nomatch z)
      have q2 := Stp.put (o := .dK (putK (putK kv (kS "word") (V.str "rising")) (kS "k") (V.int 0))) (upd_same (H := H3) (a := d) (o := .dK (putK kv (kS "word") (V.str "rising")))) (fun xs z => nomatch z)
      refine ⟨p2, _, rfl, .inl (.inl e2), rfl, _, _, rfl, ?_⟩
      refine ⟨_, rfl, d, _, rfl, DPut.k (k := kS "word") h12 (hsz rfl), _, _, rfl, ?_⟩
      refine ⟨_, rfl, d, _, rfl, DPut.k (k := kS "k") upd_same (hsz l1), rfl, ?_⟩
      have e : stB v true = { v with word := wR, steps := 0 } := if_pos ⟨hw, rfl⟩
      rw [e] at q
      have q13 := (q1.trans q2).sub (G := [d]) (by simp)
      have hK3 := (hK.st s2).st q13
      exact q _ ⟨_, kc, upd_same, hK3.re rfl rfl rfl (fun a n1 n2 n3 n4 => vp (vp rfl n1) n2) (vp vs (by decide)) ⟨0, vs, fun _ => rfl⟩ ⟨pv, vp (vp pv1 (by decide)) (by decide), (pv2.st s2).st q13⟩ ⟨hv, vp (vp r1 (by decide)) (by decide), fun z => absurd z wne.2.2.2.2.1⟩, q13.keep _ _ (s2.keep _ _ h3 (by simp)) (by simpa using hne.symm), h4, h5, by rw [l2]; exact h6, hne⟩ ((s2.trans q13).sub (by simp))
  · rw [if_neg (fun z => hw (by injection z))]
    have e : stB v m = v := if_neg fun z => hw z.1
    rw [e] at q
    exact q H1 hO (Stp.refl.sub (by simp))
theorem sC_ok {f : Addr} {cdv : Value} {A : Around} {outer : List Env} {s : Shared} {H : Hp} {E : XK} (hr : Room 4 (A.deeper (PyProof.Rows.envOfC "_law_sound" (defScope s_law_sound) s.heap.objs.size f cdv))) (GT : OwnF P w K mg base "_law_times" 2 ["_law_one", "_law_top", "_law_bottom"] (sp_timesW K)) (GV : OwnF P w K mg base "_law_value" 2 ["_law_v", "_law_beat_here"] (sp_own_value K)) :
    ∃ t, PS (XSd P w K mg base f cdv A outer s H E) ((defBody s_law_sound).getD 4 pass0q) t ∧ ∀ (D : Ends) (H1 : Hp) (d c : Addr) (v : VoiceS) (n : Nat) (tt soft : Int) (x3 x4 : Option V), OwnV K H1 d c v n → LineOk v.line → (v.word = wH ∨ v.word = wR ∨ v.word = wO ∨ v.word = wF) → 1 ≤ soft → soft ≤ 16 → 7 ≤ n → n ≤ 1000 → Rb n v.loud.level → (v.word = wF → Rb (n + 19) v.height ∧ 0 ≤ v.steps ∧ v.steps < soft) → (v.word = wR → 0 ≤ v.steps ∧ v.steps < soft) → (v.word = wR ∨ v.word = wO → v.line.ready tt = true) →
      (∀ H2 y4, OwnV K H2 d c (stC v (v.line.value tt * v.loud.level) soft) n → Stp [d] H1 H2 → D.nx [some (.ref d), some (.int tt), some (.int soft), x3, y4] H2) → t D [some (.ref d), some (.int tt), some (.int soft), x3, x4] H1 := by
  have nd := sc_law_sound.nd
  have hu := hu_of hr
  have r2 := hr.mono (show 2 ≤ 4 by decide)
  refine ⟨_, (ps_if (pt_cmpR op_eq (pe_dget hu (pv 0) pe_str (fun _ _ => rfl)) pe_str (nomark _)) (pss_cons (ps_dput hu (pv 0) pe_str (pe_op op_add (pe_dget hu (pv 0) pe_str (fun _ _ => rfl)) pe_int) (by rfl))
      (pss_cons (ps_dput hu (pv 0) pe_str (p_call GT r2 (pa_cons (pe_dget hu (pv 0) pe_str (fun _ _ => rfl)) (pa_cons (pe_op op_sub (pv 2) (pe_dget hu (pv 0) pe_str (fun _ _ => rfl))) (pa_cons (pv 2) pa_nil)))) (by rfl))
      (pss_one (ps_dput hu (pv 0) pe_str (pe_ifExp (pt_cmpR op_eq (pe_dget hu (pv 0) pe_str (fun _ _ => rfl)) (pv 2) (nomark _)) pe_str pe_str) (by rfl))))) (pss_one (ps_if (pt_cmpR op_ne (pe_dget hu (pv 0) pe_str (fun _ _ => rfl)) pe_str (nomark _)) (pss_cons (ps_dput hu (pv 0) pe_str (pe_ifExp (pt_cmpR op_eq (pe_dget hu (pv 0) pe_str (fun _ _ => rfl)) pe_str (nomark _)) (pv 2) (pe_op op_add (pe_dget hu (pv 0) pe_str (fun _ _ => rfl)) pe_int)) (by rfl))
      (pss_cons (ps_set (i := 4) nd rfl (.inl rfl) (p_call GV r2 (pa_cons (pv 0) (pa_cons (pv 1) pa_nil))))
      (pss_cons (ps_dput hu (pv 0) pe_str (p_call GT r2 (pa_cons (p_call GT r2 (pa_cons (pv 4) (pa_cons (pe_ix ix_tup (pe_dget hu (pv 0) pe_str (fun _ _ => rfl)) pe_int (fun _ _ => rfl)) (pa_cons (pe_ix ix_tup (pe_dget hu (pv 0) pe_str (fun _ _ => rfl)) pe_int (fun _ _ => rfl)) pa_nil)))) (pa_cons (pe_dget hu (pv 0) pe_str (fun _ _ => rfl)) (pa_cons (pv 2) pa_nil)))) (by rfl))
      (pss_one (ps_dput hu (pv 0) pe_str (pe_ifExp (pt_cmpR op_eq (pe_dget hu (pv 0) pe_str (fun _ _ => rfl)) (pv 2) (nomark _)) pe_str pe_str) (by rfl)))))) pss_nil))), ?_⟩
  intro D H1 d c v n tt soft x3 x4 hO hL hwd so1 so2 n7 n1 hlv hF hR hready q
  obtain ⟨kv, kc, h1, hK, h3, h4, h5, h6, hne⟩ := id hO
  walk_at "rd"
  refine ⟨_, dgs h1 hK.word, rfl, ?_⟩
  obtain ⟨ik, k1, k2⟩ := hK.k
  obtain ⟨hv, r1, rr2⟩ := hK.held
  obtain ⟨pv, pv1, pv2⟩ := hK.part
  have hsz : ∀ {l : Nat}, l = kv.length → l < sizeLine := fun h => Nat.lt_of_le_of_lt (h ▸ h6) (by decide)
  by_cases hw : v.word = wF
  · rw [if_pos (by rw [hw])]
    obtain ⟨rH, st0, st1⟩ := hF hw
    have eik : ik = v.steps := k2 (.inr hw)
    subst eik
    obtain ⟨a, rfl, hq⟩ := rr2 hw
    have l1 : (putK kv (kS "k") (V.int (v.steps + 1))).length = kv.length := put_len k1
    refine ⟨_, dgs h1 k1, _, rfl, _, DPut.k (k := kS "k") h1 (hsz rfl), ?_⟩
    have q1 := Stp.put (o := .dK (putK kv (kS "k") (V.int (v.steps + 1)))) h1 (fun xs z => nomatch z)
    have e1 : upd H1 d (.dK (putK kv (kS "k") (V.int (v.steps + 1)))) d = some (.dK (putK kv (kS "k") (V.int (v.steps + 1)))) := upd_same
    generalize upd H1 d (.dK (putK kv (kS "k") (V.int (v.steps + 1)))) = H2 at *
    refine ⟨_, dgs e1 (vp r1 (by decide)), _, dgs e1 vs, _, rfl, a, v.height, soft - (v.steps + 1), soft, n + 19, 5, rfl, hq.st q1, rH, by omega, by omega, by omega, by omega, by omega, by decide, fun p H3 hp s3 l3 => ?_⟩
    have e3 := s3.keep _ _ e1 (by simp)
    have l2 : (putK (putK kv (kS "k") (V.int (v.steps + 1))) (kS "part") (V.ref p)).length = kv.length := (put_len (vp pv1 (by decide))).trans l1
    refine ⟨_, DPut.k (k := kS "part") e3 (hsz l1), ?_⟩
    have q4 := Stp.put (o := .dK (putK (putK kv (kS "k") (V.int (v.steps + 1))) (kS "part") (V.ref p))) e3 (fun xs z => nomatch z)
    have e4 : upd H3 d (.dK (putK (putK kv (kS "k") (V.int (v.steps + 1))) (kS "part") (V.ref p))) d = some (.dK (putK (putK kv (kS "k") (V.int (v.steps + 1))) (kS "part") (V.ref p))) := upd_same
    have l34 := q4.tup _ _ l3
    generalize upd H3 d (.dK (putK (putK kv (kS "k") (V.int (v.steps + 1))) (kS "part") (V.ref p))) = H4 at *
    have s14 : Stp [d] H1 H4 := (q1.trans (s3.trans q4)).sub (by simp)
    refine ⟨_, dgs e4 (vp vs (by decide)), rfl, ?_⟩
    have eC : stC v (v.line.value tt * v.loud.level) soft = v.fall soft := if_pos hw
    rw [eC] at q
    have fin : ∀ x : Str, x = (if v.steps + 1 = soft then wH else v.word) → ∃ x5, DPut H4 d (.str "word") (.str x) x5 ∧ D.nx [some (.ref d), some (.int tt), some (.int soft), x3, x4] x5 := fun x hx => by
      refine ⟨_, DPut.k (k := kS "word") e4 (hsz l2), ?_⟩
      have q5 := Stp.put (o := .dK (putK (putK (putK kv (kS "k") (V.int (v.steps + 1))) (kS "part") (V.ref p)) (kS "word") (V.str x))) e4 (fun xs z => nomatch z)
      have l5 : (putK (putK (putK kv (kS "k") (V.int (v.steps + 1))) (kS "part") (V.ref p)) (kS "word") (V.str x)).length = kv.length := (put_len (vp (vp hK.word (by decide)) (by decide))).trans l2
      have s15 := (s14.trans q5).sub (G := [d]) (by simp)
      have hK5 := hK.st s15
      refine q _ _ ⟨_, kc, upd_same, ?_, s15.keep _ _ h3 (by simpa using hne.symm), h4, h5, by rw [l5]; exact h6, hne⟩ s15
      refine hK5.re rfl rfl rfl (fun a n1 n2 n3 n4 => vp (vp (vp rfl n2) n3) n1) (by rw [hx]; exact vs) ⟨v.steps + 1, vp (vp vs (by decide)) (by decide), fun _ => rfl⟩ ⟨.ref p, vp vs (by decide), isQ_of (q5.tup _ _ l34)⟩ ⟨.ref a, vp (vp (vp r1 (by decide)) (by decide)) (by decide), fun _ => ⟨a, rfl, hq.st s15⟩⟩
    by_cases hs : v.steps + 1 = soft
    · rw [if_pos (by rw [hs])]
      exact fin wH (by rw [if_pos hs])
    · rw [if_neg (fun z => hs (by injection z))]
      exact fin wF (by rw [if_neg hs, hw])
  · rw [if_neg (fun z => hw (by injection z))]
    refine ⟨_, dgs h1 hK.word, rfl, ?_⟩
    by_cases hh : v.word = wH
    · rw [if_neg (by rw [hh]; simp)]
      have eC : stC v (v.line.value tt * v.loud.level) soft = v := by
        unfold stC
        rw [if_neg hw, if_pos hh]
      rw [eC] at q
      exact q H1 _ hO (Stp.refl.sub (by simp))
    have hnh : ¬ (V.str v.word = V.str wH) := fun z => hh (by injection z)
    rw [if_pos (by rw [decide_eq_false hnh]; rfl)]
    refine ⟨_, dgs h1 hK.word, rfl, ?_⟩
    obtain ⟨lv, lv1, la, rfl, hlq⟩ := hK.loud
    have hval : Rb 19 (v.line.value tt) := by
      refine (value_rb hL (hready ?_)).mono (by decide)
      rcases hwd with h | h | h | h
      · exact absurd h hh
      · exact .inl h
      · exact .inr h
      · exact absurd h hw
    by_cases hon : v.word = wO
    · rw [if_pos (by rw [hon])]
      have hrd := hready (.inr hon)
      have eC : stC v (v.line.value tt * v.loud.level) soft = { v with part := v.line.value tt * v.loud.level } := by
        unfold stC
        rw [if_neg hw, if_neg hh, if_pos hon]
      rw [eC] at q
      refine ⟨_, DPut.k (k := kS "k") h1 (hsz rfl), ?_⟩
      have l1 : (putK kv (kS "k") (V.int (soft))).length = kv.length := put_len k1
      have q1 := Stp.put (o := .dK (putK kv (kS "k") (V.int (soft)))) h1 (fun xs z => nomatch z)
      have e1 : upd H1 d (.dK (putK kv (kS "k") (V.int (soft)))) d = some (.dK (putK kv (kS "k") (V.int (soft)))) := upd_same
      generalize upd H1 d (.dK (putK kv (kS "k") (V.int (soft)))) = H2 at *
      have hO2 : OwnV K H2 d c { v with steps := soft } n := ⟨_, kc, e1, (hK.st q1).re rfl rfl rfl (fun a n1 n2 n3 n4 => vp rfl n2) (vp hK.word (by decide)) ⟨soft, vs, fun _ => rfl⟩ ⟨pv, vp pv1 (by decide), pv2.st q1⟩ ⟨hv, vp r1 (by decide), fun z => (rr2 z).st q1⟩, q1.keep _ _ h3 (by simpa using hne.symm), h4, h5, by rw [l1]; exact h6, hne⟩
      refine ⟨d, c, { v with steps := soft }, n, tt, rfl, hO2, hL, hrd, fun p H3 hp s3 l3 => ?_⟩
      have e3 := s3.keep _ _ e1 (by simp)
      have s13 := q1.trans s3
      have hlq3 := hlq.st s13
      refine ⟨_, dgs e3 (vp lv1 (by decide)), ixT_0 hlq3 ⟨_, dgs e3 (vp lv1 (by decide)), ixT_1 hlq3 ⟨p, v.line.value tt, v.loud.level.num, v.loud.level.den, 19, n, rfl, .inl l3, hval, by have := v.loud.level.den_pos; omega, by rw [Int.natAbs_natCast]; exact hlv.den, hlv.num, by omega, by decide, by omega, fun p4 H4 hp4 s4 l4 => ?_⟩⟩⟩
      rw [Int.toNat_natCast, Rat.mkRat_self] at l4
      have e4 := s4.keep _ _ e3 (by simp)
      refine ⟨_, dgs e4 vs, p4, v.line.value tt * v.loud.level, soft, soft, 19 + n, 5, rfl, .inl l4, hval.mul hlv, by omega, by omega, by omega, by omega, by omega, by decide, fun p5 H5 hp5 s5 l5 => ?_⟩
      have e5 := s5.keep _ _ e4 (by simp)
      have l2 : (putK (putK kv (kS "k") (V.int (soft))) (kS "part") (V.ref p5)).length = kv.length := (put_len (vp pv1 (by decide))).trans l1
      refine ⟨_, DPut.k (k := kS "part") e5 (hsz l1), ?_⟩
      have q6 := Stp.put (o := .dK (putK (putK kv (kS "k") (V.int (soft))) (kS "part") (V.ref p5))) e5 (fun xs z => nomatch z)
      have e6 : upd H5 d (.dK (putK (putK kv (kS "k") (V.int (soft))) (kS "part") (V.ref p5))) d = some (.dK (putK (putK kv (kS "k") (V.int (soft))) (kS "part") (V.ref p5))) := upd_same
      have l56 := q6.tup _ _ l5
      generalize upd H5 d (.dK (putK (putK kv (kS "k") (V.int (soft))) (kS "part") (V.ref p5))) = H6 at *
      have s16 : Stp [d] H1 H6 := (s13.trans (s4.trans (s5.trans q6))).sub (by simp)
      refine ⟨_, dgs e6 (vp vs (by decide)), rfl, ?_⟩
      have fin : ∀ x : Str, x = (if soft = soft then wO else wR) → ∃ x5, DPut H6 d (.str "word") (.str x) x5 ∧ D.nx [some (.ref d), some (.int tt), some (.int soft), x3, some (.ref p)] x5 := fun x hx => by
        refine ⟨_, DPut.k (k := kS "word") e6 (hsz l2), ?_⟩
        have q7 := Stp.put (o := .dK (putK (putK (putK kv (kS "k") (V.int (soft))) (kS "part") (V.ref p5)) (kS "word") (V.str x))) e6 (fun xs z => nomatch z)
        have l7 : (putK (putK (putK kv (kS "k") (V.int (soft))) (kS "part") (V.ref p5)) (kS "word") (V.str x)).length = kv.length := (put_len (vp (vp hK.word (by decide)) (by decide))).trans l2
        have s17 := (s16.trans q7).sub (G := [d]) (by simp)
        have hK7 := hK.st s17
        refine q _ _ ⟨_, kc, upd_same, ?_, s17.keep _ _ h3 (by simpa using hne.symm), h4, h5, by rw [l7]; exact h6, hne⟩ s17
        refine hK7.re rfl rfl rfl (fun a n1 n2 n3 n4 => vp (vp (vp rfl n2) n3) n1) (by rw [hx]; exact (by rw [if_pos rfl, ← hon]; exact vs)) ⟨soft, vp (vp vs (by decide)) (by decide), (fun z => by rcases z with z | z <;> rw [show ({ v with part := v.line.value tt * v.loud.level } : VoiceS).word = wO from hon] at z <;> exact absurd z (by first | exact wne.2.2.2.1.symm | exact wne.2.2.2.2.2))⟩ ⟨.ref p5, vp vs (by decide), (by rw [mkRat_one so1, Rat.mul_one] at l56; exact isQ_of (q7.tup _ _ l56))⟩ ⟨hv, vp (vp (vp r1 (by decide)) (by decide)) (by decide), (fun z => absurd z hw)⟩
      by_cases hs : soft = soft
      · rw [if_pos (by rw [hs])]
        exact fin wO (by rw [if_pos hs])
      · rw [if_neg (fun z => hs (by injection z))]
        exact fin wR (by rw [if_neg hs])
    · rw [if_neg (fun z => hon (by injection z))]
      have hwr : v.word = wR := by
        rcases hwd with h | h | h | h
        · exact absurd h hh
        · exact h
        · exact absurd h hon
        · exact absurd h hw
      have hrd := hready (.inl hwr)
      obtain ⟨st0, st1⟩ := hR hwr
      have eik : ik = v.steps := k2 (.inl hwr)
      subst eik
      have eC : stC v (v.line.value tt * v.loud.level) soft = v.rise (v.line.value tt * v.loud.level) soft := by
        unfold stC
        rw [if_neg hw, if_neg hh, if_neg hon]
      rw [eC] at q
      refine ⟨_, dgs h1 k1, _, rfl, ?_⟩
      refine ⟨_, DPut.k (k := kS "k") h1 (hsz rfl), ?_⟩
      have l1 : (putK kv (kS "k") (V.int ((v.steps + 1)))).length = kv.length := put_len k1
      have q1 := Stp.put (o := .dK (putK kv (kS "k") (V.int ((v.steps + 1))))) h1 (fun xs z => nomatch z)
      have e1 : upd H1 d (.dK (putK kv (kS "k") (V.int ((v.steps + 1))))) d = some (.dK (putK kv (kS "k") (V.int ((v.steps + 1))))) := upd_same
      generalize upd H1 d (.dK (putK kv (kS "k") (V.int ((v.steps + 1))))) = H2 at *
      have hO2 : OwnV K H2 d c { v with steps := (v.steps + 1) } n := ⟨_, kc, e1, (hK.st q1).re rfl rfl rfl (fun a n1 n2 n3 n4 => vp rfl n2) (vp hK.word (by decide)) ⟨(v.steps + 1), vs, fun _ => rfl⟩ ⟨pv, vp pv1 (by decide), pv2.st q1⟩ ⟨hv, vp r1 (by decide), fun z => (rr2 z).st q1⟩, q1.keep _ _ h3 (by simpa using hne.symm), h4, h5, by rw [l1]; exact h6, hne⟩
      refine ⟨d, c, { v with steps := (v.steps + 1) }, n, tt, rfl, hO2, hL, hrd, fun p H3 hp s3 l3 => ?_⟩
      have e3 := s3.keep _ _ e1 (by simp)
      have s13 := q1.trans s3
      have hlq3 := hlq.st s13
      refine ⟨_, dgs e3 (vp lv1 (by decide)), ixT_0 hlq3 ⟨_, dgs e3 (vp lv1 (by decide)), ixT_1 hlq3 ⟨p, v.line.value tt, v.loud.level.num, v.loud.level.den, 19, n, rfl, .inl l3, hval, by have := v.loud.level.den_pos; omega, by rw [Int.natAbs_natCast]; exact hlv.den, hlv.num, by omega, by decide, by omega, fun p4 H4 hp4 s4 l4 => ?_⟩⟩⟩
      rw [Int.toNat_natCast, Rat.mkRat_self] at l4
      have e4 := s4.keep _ _ e3 (by simp)
      refine ⟨_, dgs e4 vs, p4, v.line.value tt * v.loud.level, (v.steps + 1), soft, 19 + n, 5, rfl, .inl l4, hval.mul hlv, by omega, by omega, by omega, by omega, by omega, by decide, fun p5 H5 hp5 s5 l5 => ?_⟩
      have e5 := s5.keep _ _ e4 (by simp)
      have l2 : (putK (putK kv (kS "k") (V.int ((v.steps + 1)))) (kS "part") (V.ref p5)).length = kv.length := (put_len (vp pv1 (by decide))).trans l1
      refine ⟨_, DPut.k (k := kS "part") e5 (hsz l1), ?_⟩
      have q6 := Stp.put (o := .dK (putK (putK kv (kS "k") (V.int ((v.steps + 1)))) (kS "part") (V.ref p5))) e5 (fun xs z => nomatch z)
      have e6 : upd H5 d (.dK (putK (putK kv (kS "k") (V.int ((v.steps + 1)))) (kS "part") (V.ref p5))) d = some (.dK (putK (putK kv (kS "k") (V.int ((v.steps + 1)))) (kS "part") (V.ref p5))) := upd_same
      have l56 := q6.tup _ _ l5
      generalize upd H5 d (.dK (putK (putK kv (kS "k") (V.int ((v.steps + 1)))) (kS "part") (V.ref p5))) = H6 at *
      have s16 : Stp [d] H1 H6 := (s13.trans (s4.trans (s5.trans q6))).sub (by simp)
      refine ⟨_, dgs e6 (vp vs (by decide)), rfl, ?_⟩
      have fin : ∀ x : Str, x = (if (v.steps + 1) = soft then wO else wR) → ∃ x5, DPut H6 d (.str "word") (.str x) x5 ∧ D.nx [some (.ref d), some (.int tt), some (.int soft), x3, some (.ref p)] x5 := fun x hx => by
        refine ⟨_, DPut.k (k := kS "word") e6 (hsz l2), ?_⟩
        have q7 := Stp.put (o := .dK (putK (putK (putK kv (kS "k") (V.int ((v.steps + 1)))) (kS "part") (V.ref p5)) (kS "word") (V.str x))) e6 (fun xs z => nomatch z)
        have l7 : (putK (putK (putK kv (kS "k") (V.int ((v.steps + 1)))) (kS "part") (V.ref p5)) (kS "word") (V.str x)).length = kv.length := (put_len (vp (vp hK.word (by decide)) (by decide))).trans l2
        have s17 := (s16.trans q7).sub (G := [d]) (by simp)
        have hK7 := hK.st s17
        refine q _ _ ⟨_, kc, upd_same, ?_, s17.keep _ _ h3 (by simpa using hne.symm), h4, h5, by rw [l7]; exact h6, hne⟩ s17
        refine hK7.re rfl rfl rfl (fun a n1 n2 n3 n4 => vp (vp (vp rfl n2) n3) n1) (by rw [hx]; exact (by rw [show (v.rise (v.line.value tt * v.loud.level) soft).word = (if v.steps + 1 = soft then wO else v.word) from rfl, hwr]; exact vs)) ⟨(v.steps + 1), vp (vp vs (by decide)) (by decide), (fun _ => rfl)⟩ ⟨.ref p5, vp vs (by decide), isQ_of (q7.tup _ _ l56)⟩ ⟨hv, vp (vp (vp r1 (by decide)) (by decide)) (by decide), (fun z => by rw [show (v.rise (v.line.value tt * v.loud.level) soft).word = (if v.steps + 1 = soft then wO else v.word) from rfl, hwr] at z; split at z <;> exact absurd z (by first | exact wne.2.2.2.2.2 | exact wne.2.2.2.2.1))⟩
      by_cases hs : (v.steps + 1) = soft
      · rw [if_pos (by rw [hs])]
        exact fin wO (by rw [if_pos hs])
      · rw [if_neg (fun z => hs (by injection z))]
        exact fin wR (by rw [if_neg hs])
end
end Mx

namespace Mx
open PySem L2
set_option hygiene false in
local macro_rules | `(tactic| walk_at "rd") => `(tactic| try simp only [L2.start, List.map_cons, List.map_nil, List.length_cons, List.length_nil, Nat.reduceAdd, Nat.reduceSub, Nat.reduceLT, Nat.reduceLeDiff, List.replicate_succ, List.replicate_zero, List.append_nil, List.nil_append, List.cons_append, List.set_cons_zero, List.set_cons_succ, List.getElem?_cons_zero, List.getElem?_cons_succ,
  Option.some.injEq, List.cons.injEq, and_true, true_and, and_assoc, reduceCtorEq, L2.V.int.injEq, L2.V.ref.injEq, L2.V.bl.injEq, L2.V.str.injEq, L2.V.ty.injEq, L2.HO.ins.injEq, L2.HO.lst.injEq, L2.HO.tup.injEq, L2.HO.dK.injEq, exists_eq_left', exists_eq_left, exists_eq_right, exists_eq', exists_eq, exists_and_left, exists_and_right, reduceIte, Bool.false_eq_true, Bool.not_true, Bool.not_false,
  L2.tSeq, L2.tIfS, L2.tRet, L2.tRetN, L2.tNext, L2.tAsg, L2.gName, L2.tVar, L2.tC, L2.tCons, L2.tNil, L2.tCB, L2.tOp, L2.tUn, L2.tTup, L2.tLst, L2.tB, L2.tOr, L2.tAnd, L2.tNot, L2.tAndV, L2.tOrV, L2.tNotV, L2.tIf, L2.tTest, L2.tChain, L2.rI, L2.rI0, L2.rU, L2.tDrop, L2.tNever, L2.tCall, L2.tMeth, L2.tMake, L2.rGcd, L2.tFld, L2.sFld, L2.sFldAug, Mx.sFldA, Mx.sFldAugA, L2.rAdd, L2.rSub, L2.rEq, L2.rNe, L2.tDGet, L2.tDIn, L2.tDNotIn, L2.sDPut,
  Mx.isi_int_bool, Mx.isi_int_int, Mx.isi_int_tuple, Mx.isi_int_list, Mx.isi_int_str, Mx.scal_int, Mx.scal_str, Mx.scal_bl, Mx.ofString_inj, Mx.ofString_beq, Mx.lk_cons, Mx.pf_nil, Mx.pf_cons, Mx.sz1, Mx.sz2, List.lookup_nil, String.reduceEq, decide_true, decide_false, decide_eq_true_eq, Int.natAbs_natCast, L2.upd_same, L2.upd_upd, L2.cxOf, L2.gSub, L2.tPar, L2.gCons, L2.gNil, Mx.optV, L2.sDPut])
set_option hygiene false in
local macro_rules | `(tactic| walk_at "rds") => `(tactic| try simp only [L2.start, List.map_cons, List.map_nil, List.length_cons, List.length_nil, Nat.reduceAdd, Nat.reduceSub, Nat.reduceLT, Nat.reduceLeDiff, List.replicate_succ, List.replicate_zero, List.append_nil, List.nil_append, List.cons_append, List.set_cons_zero, List.set_cons_succ, List.getElem?_cons_zero, List.getElem?_cons_succ,
  Option.some.injEq, List.cons.injEq, and_true, true_and, and_assoc, reduceCtorEq, L2.V.int.injEq, L2.V.ref.injEq, L2.V.bl.injEq, L2.V.str.injEq, L2.V.ty.injEq, L2.HO.ins.injEq, L2.HO.lst.injEq, L2.HO.tup.injEq, L2.HO.dK.injEq, exists_eq_left', exists_eq_left, exists_eq_right, exists_eq', exists_eq, exists_and_left, exists_and_right, reduceIte, Bool.false_eq_true, Bool.not_true, Bool.not_false,
  L2.tSeq, L2.tIfS, L2.tRet, L2.tRetN, L2.tNext, L2.tAsg, L2.gName, L2.tVar, L2.tC, L2.tCons, L2.tNil, L2.tCB, L2.tOp, L2.tUn, L2.tTup, L2.tLst, L2.tB, L2.tOr, L2.tAnd, L2.tNot, L2.tAndV, L2.tOrV, L2.tNotV, L2.tIf, L2.tTest, L2.tChain, L2.rI, L2.rI0, L2.rU, L2.tDrop, L2.tNever, L2.tCall, L2.tMeth, L2.tMake, L2.rGcd, L2.tFld, L2.sFld, L2.sFldAug, Mx.sFldA, Mx.sFldAugA, L2.rAdd, L2.rSub, L2.rEq, L2.rNe, L2.tDGet, L2.tDIn, L2.tDNotIn, L2.sDPut,
  Mx.isi_int_bool, Mx.isi_int_int, Mx.isi_int_tuple, Mx.isi_int_list, Mx.isi_int_str, Mx.scal_int, Mx.scal_str, Mx.scal_bl, Mx.ofString_inj, Mx.ofString_beq, Mx.lk_cons, Mx.pf_nil, Mx.pf_cons, Mx.sz1, Mx.sz2, List.lookup_nil, String.reduceEq, decide_true, decide_false, decide_eq_true_eq, Int.natAbs_natCast, L2.upd_same, L2.upd_upd, L2.cxOf, L2.gSub, L2.tPar, L2.gCons, L2.gNil, Mx.optV, L2.sDPut, *])

section
variable {P : Program} {w : World} {K : PySem.W.Frag} {mg : Str → Option Value} {base : Heap}
def sp_own_sound (K : PySem.W.Frag) : Sp := fun vs H Q _ => ∃ (d c : Addr) (v : VoiceS) (n : Nat) (t soft : Int), vs = [.ref d, .int t, .int soft] ∧ OwnV K H d c v n ∧ VoiceOk n soft v ∧ 1 ≤ soft ∧ soft ≤ 16 ∧ 7 ≤ n ∧ n ≤ 1000 ∧ ∀ H', OwnV K H' d c (v.give t soft) n → Stp [d] H H' → Q .non H'
/-- what stands behind the first two steps -/
theorem st_facts {v : VoiceS} {n : Nat} {soft t : Int} (hV : VoiceOk n soft v) (so : 1 ≤ soft) : let x := stB (stA { v with loud := v.loud.on } (v.may t)) (v.may t); x.line = v.line ∧ x.loud = v.loud.on ∧ (x.word = wH ∨ x.word = wR ∨ x.word = wO ∨ x.word = wF) ∧ (x.word = wF → Rb (n + 19) x.height ∧ 0 ≤ x.steps ∧ x.steps < soft) ∧ (x.word = wR → 0 ≤ x.steps ∧ x.steps < soft) ∧ (x.word = wR ∨ x.word = wO → v.line.ready t = true) := by
  obtain ⟨n1, n2, n3, n4, n5, n6⟩ := wne
  have hready : v.may t = true → v.line.ready t = true := fun h => by
    unfold VoiceS.may at h
    simp at h
    exact h.2
  have key : ∀ m : Bool, v.may t = m → (let x := stB (stA { v with loud := v.loud.on } m) m; x.line = v.line ∧ x.loud = v.loud.on ∧ (x.word = wH ∨ x.word = wR ∨ x.word = wO ∨ x.word = wF) ∧ (x.word = wF → Rb (n + 19) x.height ∧ 0 ≤ x.steps ∧ x.steps < soft) ∧ (x.word = wR → 0 ≤ x.steps ∧ x.steps < soft) ∧ (x.word = wR ∨ x.word = wO → v.line.ready t = true)) := fun m hm => by
    cases m with
    | true =>
      have rd := hready hm
      have eA : stA { v with loud := v.loud.on } true = { v with loud := v.loud.on } := if_neg (by simp)
      rw [eA]
      by_cases h : v.word = wH
      · have eB : stB { v with loud := v.loud.on } true = { v with loud := v.loud.on, word := wR, steps := 0 } := if_pos ⟨h, rfl⟩
        rw [eB]
        exact ⟨rfl, rfl, .inr (.inl rfl), fun z => absurd z n5, fun _ => ⟨Int.le_refl 0, by show (0 : Int) < soft; omega⟩, fun _ => rd⟩
      · have eB : stB { v with loud := v.loud.on } true = { v with loud := v.loud.on } := if_neg fun z => h z.1
        rw [eB]
        exact ⟨rfl, rfl, hV.word, fun z => ⟨hV.height z, hV.stF z⟩, fun z => hV.stR z, fun _ => rd⟩
    | false =>
      by_cases h : v.word = wR ∨ v.word = wO
      · have eA : stA { v with loud := v.loud.on } false = { v with loud := v.loud.on, word := wF, steps := 0, height := v.part } := if_pos ⟨h, rfl⟩
        have eB : stB { v with loud := v.loud.on, word := wF, steps := 0, height := v.part } false = { v with loud := v.loud.on, word := wF, steps := 0, height := v.part } := if_neg (by simp)
        rw [eA, eB]
        exact ⟨rfl, rfl, .inr (.inr (.inr rfl)), fun _ => ⟨hV.partS h, Int.le_refl 0, by show (0 : Int) < soft; omega⟩, fun z => absurd z n5.symm, fun z => by rcases z with z | z; exact absurd z n5.symm; exact absurd z n6.symm⟩
      · have eA : stA { v with loud := v.loud.on } false = { v with loud := v.loud.on } := if_neg fun z => h z.1
        have eB : stB { v with loud := v.loud.on } false = { v with loud := v.loud.on } := if_neg (by simp)
        rw [eA, eB]
        exact ⟨rfl, rfl, hV.word, fun z => ⟨hV.height z, hV.stF z⟩, fun z => hV.stR z, fun z => absurd z h⟩
  exact key _ rfl
theorem ok_law_sound {f : Addr} {fd : FuncData} (F : Fun K "_law_sound" "_law_sound" s_law_sound f fd) (GL : OwnF P w K mg base "_law_led" 3 ["_law_v"] (sp_own_led K)) (GM : OwnF P w K mg base "_law_may" 4 ["_law_v", "_law_beat_here"] (sp_own_may K)) (GT : OwnF P w K mg base "_law_times" 2 ["_law_one", "_law_top", "_law_bottom"] (sp_timesW K)) (GV : OwnF P w K mg base "_law_value" 2 ["_law_v", "_law_beat_here"] (sp_own_value K)) : FnOk P w K mg base CX0 5 f fd ["_law_v", "_law_beat_here", "_law_soft"] (sp_own_sound K) := by
  refine F.ok sc_law_sound (fun vs H Q E h => ?_) (fun cdv A outer s H vs Q E hr h => ?_)
  · obtain ⟨d, c, v, n, t, soft, rfl, _⟩ := h
    rfl
  · obtain ⟨d, c, v, n, t, soft, rfl, hO, hV, so1, so2, n7, n1, k⟩ := h
    have nd := sc_law_sound.nd
    have hu := hu_of hr
    have r2 := hr.mono (show 2 ≤ 4 by decide)
    have r3 := hr.mono (show 3 ≤ 4 by decide)
    obtain ⟨tA, hA, qA⟩ := sA_ok (P := P) (w := w) (K := K) (mg := mg) (base := base) (outer := outer) (H := H) (E := E) hr
    obtain ⟨tB', hB, qB⟩ := sB_ok (P := P) (w := w) (K := K) (mg := mg) (base := base) (outer := outer) (H := H) (E := E) hr
    obtain ⟨tC', hC, qC⟩ := sC_ok (outer := outer) (H := H) (E := E) hr GT GV
    refine ⟨_, (pss_cons (ps_expr (p_call GL r3 (pa_cons (pv 0) pa_nil)))
      (pss_cons (ps_set (i := 3) nd rfl (.inl rfl) (p_call GM hr (pa_cons (pv 0) (pa_cons (pv 1) pa_nil))))
      (pss_cons hA
      (pss_cons hB
      (pss_one hC))))), ?_⟩
    walk_at "rd"
    refine ⟨d, c, v, n, rfl, hO, n7, n1, hV.loud, fun H1 hO1 s1 => ?_⟩
    walk_at "rd"
    refine ⟨d, c, _, n, t, rfl, hO1, hV.line, fun H2 s2 => ?_⟩
    obtain ⟨f1, f2, f3, f4, f5, f6⟩ := st_facts (t := t) hV so1
    refine qA _ H2 d c { v with loud := v.loud.on } n (v.may t) _ _ _ (hO1.st0 s2) fun H3 hO3 s3 => ?_
    refine qB _ H3 d c _ n (v.may t) _ _ _ hO3 fun H4 hO4 s4 => ?_
    have hlev : Rb n v.loud.on.level := by
      obtain ⟨D, a, b, hI, hD⟩ := hV.loud.on
      exact (hI.rb hD).1
    refine qC _ H4 d c _ n t soft _ _ hO4 (by rw [f1]; exact hV.line) f3 so1 so2 n7 n1 (by rw [f2]; exact hlev) f4 f5 (fun z => by rw [f1]; exact f6 z) fun H5 y4 hO5 s5 => ?_
    rw [f1, f2, ← give_st hV.word] at hO5
    exact k H5 hO5 ((s1.trans (s2.trans (s3.trans (s4.trans s5)))).sub (by simp))
end
end Mx

namespace Mx
open PySem L2
/-! ### a mixer, and beside it the law's own voices -/
abbrev WD := Int → Addr × Addr
def vkv (vs : List MV) (W : WD) : List (Key × V) := vs.map fun e => (Sum.inl e.1, V.ref (W e.1).1)
def OvC (H : Hp) (d c : Addr) (s : LineS) (B : Nat) : Prop := ∃ (kv kc : List (Key × V)) (tp : Addr), H d = some (.dK kv) ∧ valV kv (kS "pace") = some (.ref tp) ∧ H tp = some (.tup [.int s.pn, .int s.pb]) ∧ valV kv (kS "begin") = some (.int s.beg) ∧ valV kv (kS "came") = some (.ref c) ∧ H c = some (.dK kc) ∧
  (∀ i : Int, (valV kc (Sum.inl i : Key)).isSome = s.has i) ∧ valV kv (kS "many") = some (optV s.many) ∧ kc.length ≤ B ∧ kv.length ≤ 20
theorem OvC.ov {H : Hp} {d c : Addr} {s : LineS} {B : Nat} (h : OvC H d c s B) : OvL H d s := by
  obtain ⟨kv, kc, tp, h1, h2, h3, h4, h5, h6, h7, h8, _, _⟩ := h
  exact ⟨kv, kc, tp, c, h1, h2, h3, h4, h5, h6, h7, h8⟩
theorem OvC.st {F : List Addr} {H H' : Hp} {d c : Addr} {s : LineS} {B : Nat} (h : OvC H d c s B) (g : Stp F H H') (n1 : d ∉ F) (n2 : c ∉ F) : OvC H' d c s B := by
  obtain ⟨kv, kc, tp, h1, h2, h3, h4, h5, h6, h7, h8, h9, h10⟩ := h
  exact ⟨kv, kc, tp, g.keep _ _ h1 n1, h2, g.tup _ _ h3, h4, h5, g.keep _ _ h6 n2, h7, h8, h9, h10⟩
theorem OvC.up {H : Hp} {d c : Addr} {s : LineS} {B B' : Nat} (h : OvC H d c s B) (l : B ≤ B') : OvC H d c s B' := by
  obtain ⟨kv, kc, tp, h1, h2, h3, h4, h5, h6, h7, h8, h9, h10⟩ := h
  exact ⟨kv, kc, tp, h1, h2, h3, h4, h5, h6, h7, h8, Nat.le_trans h9 l, h10⟩
theorem OvC.ex {H : Hp} {d c : Addr} {s : LineS} {B : Nat} (h : OvC H d c s B) : H d ≠ none ∧ H c ≠ none := by
  obtain ⟨kv, kc, tp, h1, h2, h3, h4, h5, h6, h7, h8, h9, h10⟩ := h
  rw [h1, h6]
  exact ⟨nofun, nofun⟩
structure Bth (K : PySem.W.Frag) (cs : Cs) (H : Hp) (m d k : Addr) (s : MixS) (W : WD) (B : Nat) (X : List Addr) : Prop where
  mix : MixAt K cs H m d k s
  ov : ∀ e ∈ s.vs, OvC H (W e.1).1 (W e.1).2 e.2.2.line B
  ap : ∀ e ∈ s.vs, (W e.1).1 ∉ s.foot m d k ∧ (W e.1).2 ∉ s.foot m d k
  xa : ∀ b ∈ X, b ∉ s.foot m d k ∧ ∀ e ∈ s.vs, b ≠ (W e.1).1 ∧ b ≠ (W e.1).2
  dj : ∀ e ∈ s.vs, ∀ f ∈ s.vs, (W e.1).1 ≠ (W f.1).2 ∧ (e.1 ≠ f.1 → (W e.1).1 ≠ (W f.1).1 ∧ (W e.1).2 ≠ (W f.1).2)
  ok : ∀ e ∈ s.vs, VoiceOk 7 s.soft e.2.2 ∧ e.2.2.line.came.length ≤ B ∧ (∀ n, e.2.2.line.many = some n → 1 ≤ n ∧ n ≤ 60) ∧ 0 ≤ e.1 ∧ e.1 ≤ 5
  so : 1 ≤ s.soft ∧ s.soft ≤ 16
section
variable {K : PySem.W.Frag} {cs : Cs} {H H' : Hp} {m d k : Addr} {s : MixS} {W : WD} {B : Nat} {X F : List Addr}
theorem mem_foot {e : MV} (he : e ∈ s.vs) {b : Addr} (hb : b ∈ e.2.1.foot) : b ∈ s.foot m d k := by
  unfold MixS.foot
  exact List.mem_cons_of_mem _ (List.mem_cons_of_mem _ (List.mem_cons_of_mem _ (List.mem_flatMap.mpr ⟨e, he, hb⟩)))
theorem Bth.stX (h : Bth K cs H m d k s W B X) (g : Stp F H H') (hF : ∀ b ∈ F, b ∈ X) : Bth K cs H' m d k s W B X := by
  obtain ⟨h1, h2, h3, h4, h5, h6, h7⟩ := h
  refine ⟨h1.st g fun b hb z => (h4 b (hF b z)).1 hb, fun e he => (h2 e he).st g (fun z => ((h4 _ (hF _ z)).2 e he).1 rfl) (fun z => ((h4 _ (hF _ z)).2 e he).2 rfl), h3, h4, h5, h6, h7⟩
theorem Bth.st0 (h : Bth K cs H m d k s W B X) (g : Stp [] H H') : Bth K cs H' m d k s W B X := h.stX g (by simp)
theorem foot_set (m d k : Addr) (s : MixS) (n : Int) (v : VoiceS) : MixS.foot m d k { s with vs := setV s.vs n v } = MixS.foot m d k s := by
  unfold MixS.foot
  rw [setV_foot]
theorem Bth.turn (h : Bth K cs H m d k s W B X) {e : MV} (he : e ∈ s.vs) {v : VoiceS} {B' : Nat} (g : Stp F H H') (hF : ∀ b ∈ F, b ∈ e.2.1.foot ∨ b = (W e.1).1 ∨ b = (W e.1).2) (mix' : MixAt K cs H' m d k { s with vs := setV s.vs e.1 v })
    (ov' : OvC H' (W e.1).1 (W e.1).2 v.line B') (hB : B ≤ B') (o1 : VoiceOk 7 s.soft v) (o2 : v.line.came.length ≤ B') (o3 : ∀ n, v.line.many = some n → 1 ≤ n ∧ n ≤ 60) : Bth K cs H' m d k { s with vs := setV s.vs e.1 v } W B' X := by
  obtain ⟨h1, h2, h3, h4, h5, h6, h7⟩ := h
  have hnF : ∀ f ∈ s.vs, f.1 ≠ e.1 → (W f.1).1 ∉ F ∧ (W f.1).2 ∉ F := fun f hf hn => by
    refine ⟨fun z => ?_, fun z => ?_⟩
    · rcases hF _ z with q | q | q
      · exact (h3 f hf).1 (mem_foot he q)
      · exact ((h5 f hf e he).2 hn).1 q
      · exact (h5 f hf e he).1 q
    · rcases hF _ z with q | q | q
      · exact (h3 f hf).2 (mem_foot he q)
      · exact (h5 e he f hf).1 q.symm
      · exact ((h5 f hf e he).2 hn).2 q
  refine ⟨mix', fun f hf => ?_, fun f hf => ?_, fun b hb => ⟨?_, fun f hf => ?_⟩, fun f hf g' hg => ?_, fun f hf => ?_, h7⟩
  · obtain ⟨e', he', e1, e2, c⟩ := setV_mem hf
    rcases c with ⟨c1, c2⟩ | ⟨c1, c2⟩
    · rw [c1, c2]
      exact ov'
    · rw [c2]
      have hn := hnF e' he' (by rw [e1]; exact c1)
      exact ((h2 e' he').st g hn.1 hn.2).up hB
  · obtain ⟨e', he', e1, e2, _⟩ := setV_mem hf
    rw [foot_set, ← e1]
    exact h3 e' he'
  · rw [foot_set]
    exact (h4 b hb).1
  · obtain ⟨e', he', e1, e2, _⟩ := setV_mem hf
    rw [← e1]
    exact (h4 b hb).2 e' he'
  · obtain ⟨e', he', e1, _, _⟩ := setV_mem hf
    obtain ⟨e'', he'', e1', _, _⟩ := setV_mem hg
    rw [← e1, ← e1']
    exact h5 e' he' e'' he''
  · obtain ⟨e', he', e1, e2, c⟩ := setV_mem hf
    rcases c with ⟨c1, c2⟩ | ⟨c1, c2⟩
    · rw [c1, c2]
      exact ⟨o1, o2, o3, (h6 e he).2.2.2⟩
    · rw [c2]
      obtain ⟨q1, q2, q3⟩ := h6 e' he'
      exact ⟨q1, Nat.le_trans q2 hB, q3⟩
theorem foot_beat (m d k : Addr) (s : MixS) (ys : List Int) : MixS.foot m d k (s.beat ys) = MixS.foot m d k s := by
  unfold MixS.foot MixS.beat
  show m :: d :: k :: (s.vs.map s.step).flatMap _ = _
  rw [List.flatMap_map]
  rfl
theorem Bth.beat (h : Bth K cs H m d k s W B X) {ys : List Int} (g : Stp (s.foot m d k) H H') (mix' : MixAt K cs H' m d k (s.beat ys)) : Bth K cs H' m d k (s.beat ys) W B X := by
  obtain ⟨h1, h2, h3, h4, h5, h6, h7⟩ := h
  have hm : ∀ f ∈ (s.beat ys).vs, ∃ e ∈ s.vs, f = s.step e := fun f hf => by
    obtain ⟨e, he, q⟩ := List.mem_map.mp hf
    exact ⟨e, he, q.symm⟩
  refine ⟨mix', fun f hf => ?_, fun f hf => ?_, fun b hb => ⟨?_, fun f hf => ?_⟩, fun f hf g' hg => ?_, fun f hf => ?_, h7⟩
  · obtain ⟨e, he, rfl⟩ := hm f hf
    show OvC H' (W e.1).1 (W e.1).2 (e.2.2.give s.coming s.soft).line B
    rw [give_line]
    exact (h2 e he).st g (h3 e he).1 (h3 e he).2
  · obtain ⟨e, he, rfl⟩ := hm f hf
    rw [foot_beat]
    exact h3 e he
  · rw [foot_beat]
    exact (h4 b hb).1
  · obtain ⟨e, he, rfl⟩ := hm f hf
    exact (h4 b hb).2 e he
  · obtain ⟨e, he, rfl⟩ := hm f hf
    obtain ⟨e', he', rfl⟩ := hm g' hg
    exact h5 e he e' he'
  · obtain ⟨e, he, rfl⟩ := hm f hf
    obtain ⟨q1, q2, q3, q4⟩ := h6 e he
    have el : (s.step e).2.2.line = e.2.2.line := give_line _ _ _
    refine ⟨q1.give h7.1 h7.2 _, ?_, ?_, q4⟩
    · rw [el]; exact q2
    · rw [el]; exact q3
def WD.put (W : WD) (n : Int) (p : Addr × Addr) : WD := fun i => if i = n then p else W i
theorem foot_more (m d k : Addr) (s : MixS) (e : MV) : MixS.foot m d k { s with vs := s.vs ++ [e] } = MixS.foot m d k s ++ e.2.1.foot := by
  unfold MixS.foot
  show m :: d :: k :: (s.vs ++ [e]).flatMap _ = _
  rw [List.flatMap_append]
  simp
theorem Bth.add (h : Bth K cs H m d k s W B X) {n : Int} {A : VA} {v : VoiceS} {D C : Addr} (hn : n ∉ s.vs.map (·.1)) (g : Stp F H H') (hF : ∀ b ∈ F, b ∈ s.foot m d k ∨ b ∈ X) (mix' : MixAt K cs H' m d k { s with vs := s.vs ++ [(n, A, v)] }) (hA : ∀ b ∈ A.foot, H b = none)
    (hD : H D = none) (hC : H C = none) (hDA : D ∉ A.foot) (hCA : C ∉ A.foot) (hDC : D ≠ C) (ov' : OvC H' D C v.line B) (hX : ∀ b ∈ X, H b ≠ none)
    (o1 : VoiceOk 7 s.soft v) (o2 : v.line.came.length ≤ B) (o3 : ∀ n, v.line.many = some n → 1 ≤ n ∧ n ≤ 60) (o4 : 0 ≤ n ∧ n ≤ 5) : Bth K cs H' m d k { s with vs := s.vs ++ [(n, A, v)] } (W.put n (D, C)) B X := by
  obtain ⟨h1, h2, h3, h4, h5, h6, h7⟩ := h
  have hold : ∀ e ∈ s.vs, W.put n (D, C) e.1 = W e.1 := fun e he => if_neg fun z => hn (List.mem_map.mpr ⟨e, he, z⟩)
  have hnew : W.put n (D, C) n = (D, C) := if_pos rfl
  have hnF : ∀ e ∈ s.vs, (W e.1).1 ∉ F ∧ (W e.1).2 ∉ F := fun e he => by
    refine ⟨fun z => ?_, fun z => ?_⟩
    · rcases hF _ z with q | q
      · exact (h3 e he).1 q
      · exact ((h4 _ q).2 e he).1 rfl
    · rcases hF _ z with q | q
      · exact (h3 e he).2 q
      · exact ((h4 _ q).2 e he).2 rfl
  have hs := h1.some
  have hfr : ∀ b, H b = none → b ∉ s.foot m d k := fun b hb z => hs b z hb
  have hmm : ∀ f ∈ s.vs ++ [(n, A, v)], f ∈ s.vs ∨ f = (n, A, v) := fun f hf => by simpa using hf
  refine ⟨mix', fun f hf => ?_, fun f hf => ?_, fun b hb => ⟨?_, fun f hf => ?_⟩, fun f hf g' hg => ?_, fun f hf => ?_, h7⟩
  · rcases hmm f hf with q | rfl
    · rw [hold f q]
      exact (h2 f q).st g (hnF f q).1 (hnF f q).2
    · rw [show (n, A, v).1 = n from rfl, hnew]
      exact ov'
  · rw [foot_more]
    rcases hmm f hf with q | rfl
    · rw [hold f q]
      have hx := (h2 f q).ex
      refine ⟨fun z => ?_, fun z => ?_⟩
      · rcases List.mem_append.mp z with z | z
        · exact (h3 f q).1 z
        · exact hx.1 (hA _ z)
      · rcases List.mem_append.mp z with z | z
        · exact (h3 f q).2 z
        · exact hx.2 (hA _ z)
    · rw [show (n, A, v).1 = n from rfl, hnew]
      refine ⟨fun z => ?_, fun z => ?_⟩
      · rcases List.mem_append.mp z with z | z
        · exact hfr _ hD z
        · exact hDA z
      · rcases List.mem_append.mp z with z | z
        · exact hfr _ hC z
        · exact hCA z
  · rw [foot_more]
    intro z
    rcases List.mem_append.mp z with z | z
    · exact (h4 b hb).1 z
    · exact hX b hb (hA _ z)
  · rcases hmm f hf with q | rfl
    · rw [hold f q]
      exact (h4 b hb).2 f q
    · rw [show (n, A, v).1 = n from rfl, hnew]
      exact ⟨fun z => hX b hb (z ▸ hD), fun z => hX b hb (z ▸ hC)⟩
  · rcases hmm f hf with q | rfl <;> rcases hmm g' hg with q' | rfl
    · rw [hold f q, hold g' q']
      exact h5 f q g' q'
    · rw [hold f q, show (n, A, v).1 = n from rfl, hnew]
      have hx := (h2 f q).ex
      exact ⟨fun z => hx.1 (z ▸ hC), fun _ => ⟨fun z => hx.1 (z ▸ hD), fun z => hx.2 (z ▸ hC)⟩⟩
    · rw [hold g' q', show (n, A, v).1 = n from rfl, hnew]
      have hx := (h2 g' q').ex
      exact ⟨fun z => hx.2 (z ▸ hD), fun _ => ⟨fun z => hx.1 (z ▸ hD), fun z => hx.2 (z ▸ hC)⟩⟩
    · rw [show (n, A, v).1 = n from rfl, hnew]
      exact ⟨hDC, fun z => absurd rfl z⟩
  · rcases hmm f hf with q | rfl
    · exact h6 f q
    · exact ⟨o1, o2, o3, o4⟩
theorem vkv_put (vs : List MV) (W : WD) {n : Int} {A : VA} {v : VoiceS} {p : Addr × Addr} (hn : n ∉ vs.map (·.1)) : putK (vkv vs W) (Sum.inl n : Key) (V.ref p.1) = vkv (vs ++ [(n, A, v)]) (W.put n p) := by
  have e : valV (vkv vs W) (Sum.inl n : Key) = none := by
    unfold vkv
    induction vs with
    | nil => rfl
    | cons x r ih =>
      rw [List.map_cons, List.mem_cons, not_or] at hn
      rw [List.map_cons, valV_neg (by simpa using Ne.symm hn.1)]
      exact ih hn.2
  rw [putK_new _ e]
  unfold vkv
  rw [List.map_append]
  congr 1
  · refine List.map_congr_left fun x hx => ?_
    rw [show W.put n p x.1 = W x.1 from if_neg fun z => hn (List.mem_map.mpr ⟨x, hx, z⟩)]
  · show _ = [((Sum.inl n : Key), V.ref (W.put n p n).1)]
    rw [show W.put n p n = p from if_pos rfl]
theorem vkv_get {vs : List MV} (W : WD) {e : MV} (he : e ∈ vs) (hn : (vs.map (·.1)).Nodup) : valV (vkv vs W) (Sum.inl e.1 : Key) = some (.ref (W e.1).1) := by
  unfold vkv
  induction vs with
  | nil => cases he
  | cons x r ih =>
    rw [List.map_cons, List.nodup_cons] at hn
    rcases List.mem_cons.mp he with a | a
    · subst a
      rw [List.map_cons, valV_pos rfl]
    · have : x.1 ≠ e.1 := fun z => hn.1 (List.mem_map.mpr ⟨e, a, z.symm⟩)
      rw [List.map_cons, valV_neg (by simpa using this)]
      exact ih a hn.2
theorem vkv_set (vs : List MV) (W : WD) (n : Int) (v : VoiceS) : vkv (setV vs n v) W = vkv vs W := by
  unfold vkv setV
  rw [List.map_map]
  refine List.map_congr_left fun e _ => ?_
  show ((Sum.inl (if e.1 = n then (e.1, e.2.1, v) else e).1, V.ref (W (if e.1 = n then (e.1, e.2.1, v) else e).1).1) : Key × V) = _
  split <;> rfl
theorem vkv_beat (s : MixS) (W : WD) (ys : List Int) : vkv (s.beat ys).vs W = vkv s.vs W := by
  unfold vkv MixS.beat
  show (s.vs.map s.step).map _ = _
  rw [List.map_map]
  rfl
theorem names_sorted {xs ys : List Int} (p : ys.Perm xs) (h : ys.Pairwise (· ≤ ·)) (g : xs.Pairwise (· < ·)) : ys = xs :=
  List.Perm.eq_of_pairwise (fun a b _ _ h1 h2 => by omega) h (g.imp fun h => by omega) p
end
end Mx

namespace Mx
open PySem L2
/-! ### the law's own mixer -/
def MixS.names (s : MixS) : List Int := s.vs.map (·.1)
def own (W : WD) (ys : List Int) : List Addr := ys.flatMap fun n => [(W n).1, (W n).2]
theorem own_mem {W : WD} {ys : List Int} {n : Int} (h : n ∈ ys) : (W n).1 ∈ own W ys ∧ (W n).2 ∈ own W ys := ⟨List.mem_flatMap.mpr ⟨n, h, by simp⟩, List.mem_flatMap.mpr ⟨n, h, by simp⟩⟩
theorem own_or {W : WD} {ys : List Int} {b : Addr} (h : b ∈ own W ys) : ∃ n ∈ ys, b = (W n).1 ∨ b = (W n).2 := by
  obtain ⟨n, hn, hb⟩ := List.mem_flatMap.mp h
  exact ⟨n, hn, by simpa using hb⟩
theorem mem_names {s : MixS} {e : MV} (he : e ∈ s.vs) : e.1 ∈ s.names := List.mem_map.mpr ⟨e, he, rfl⟩
structure OMx (K : PySem.W.Frag) (H : Hp) (M dv lk : Addr) (s : MixS) (W : WD) (bv : Int → Nat) : Prop where
  ob : ∃ kv : List (Key × V), H M = some (.dK kv) ∧ valV kv (kS "soft") = some (.int s.soft) ∧ valV kv (kS "time") = some (.int s.coming) ∧ valV kv (kS "voices") = some (.ref dv) ∧ valV kv (kS "lacks") = some (.ref lk) ∧ kv.length ≤ 30
  hdv : H dv = some (.dK (vkv s.vs W))
  hlk : ∃ ls, H lk = some (.lst ls) ∧ Paired (IsPair H) ls s.lacked
  vo : ∀ e ∈ s.vs, OwnV K H (W e.1).1 (W e.1).2 e.2.2 (bv e.1)
  ap : ∀ e ∈ s.vs, ∀ b, b = (W e.1).1 ∨ b = (W e.1).2 → b ≠ M ∧ b ≠ dv ∧ b ≠ lk
  dj : ∀ e ∈ s.vs, ∀ f ∈ s.vs, (W e.1).1 ≠ (W f.1).2 ∧ (e.1 ≠ f.1 → (W e.1).1 ≠ (W f.1).1 ∧ (W e.1).2 ≠ (W f.1).2)
  nm : (s.vs.map (·.1)).Nodup
  mn : M ≠ dv
def ofoot (M dv lk : Addr) (s : MixS) (W : WD) : List Addr := M :: dv :: lk :: own W s.names
section
variable {K : PySem.W.Frag} {H H' : Hp} {M dv lk : Addr} {s : MixS} {W : WD} {bv : Int → Nat} {F : List Addr}
theorem ofoot_v {e : MV} (he : e ∈ s.vs) {b : Addr} (hb : b = (W e.1).1 ∨ b = (W e.1).2) : b ∈ ofoot M dv lk s W := by
  unfold ofoot
  refine List.mem_cons_of_mem _ (List.mem_cons_of_mem _ (List.mem_cons_of_mem _ ?_))
  rcases hb with rfl | rfl
  · exact (own_mem (mem_names he)).1
  · exact (own_mem (mem_names he)).2
theorem ofoot_or {b : Addr} (hb : b ∈ ofoot M dv lk s W) : b = M ∨ b = dv ∨ b = lk ∨ ∃ e ∈ s.vs, b = (W e.1).1 ∨ b = (W e.1).2 := by
  unfold ofoot at hb
  rcases List.mem_cons.mp hb with h | hb
  · exact .inl h
  rcases List.mem_cons.mp hb with h | hb
  · exact .inr (.inl h)
  rcases List.mem_cons.mp hb with h | hb
  · exact .inr (.inr (.inl h))
  obtain ⟨n, hn, q⟩ := own_or hb
  obtain ⟨e, he, rfl⟩ := List.mem_map.mp hn
  exact .inr (.inr (.inr ⟨e, he, q⟩))
theorem OMx.nel (h : OMx K H M dv lk s W bv) : M ≠ lk ∧ dv ≠ lk := by
  obtain ⟨⟨kv, h1, _⟩, h2, ⟨ls, h3, _⟩, _⟩ := h
  exact ⟨ne_of h1 h3 (fun z => nomatch z), ne_of h2 h3 (fun z => nomatch z)⟩
theorem OMx.st (h : OMx K H M dv lk s W bv) (g : Stp F H H') (n : ∀ b ∈ ofoot M dv lk s W, b ∉ F) : OMx K H' M dv lk s W bv := by
  obtain ⟨⟨kv, h1, h1'⟩, h2, ⟨ls, h3, h4⟩, h5, h6, h7, h8, h9⟩ := h
  exact ⟨⟨kv, g.keep _ _ h1 (n _ (by simp [ofoot])), h1'⟩, g.keep _ _ h2 (n _ (by simp [ofoot])), ⟨ls, g.keep _ _ h3 (n _ (by simp [ofoot])), pairs_st g h4⟩, fun e he => (h5 e he).st g (n _ (ofoot_v he (.inl rfl))) (n _ (ofoot_v he (.inr rfl))), h6, h7, h8, h9⟩
theorem OMx.st0 (h : OMx K H M dv lk s W bv) (g : Stp [] H H') : OMx K H' M dv lk s W bv := h.st g (by simp)
theorem OMx.there (h : OMx K H M dv lk s W bv) : ∀ b ∈ ofoot M dv lk s W, H b ≠ none := by
  obtain ⟨⟨kv, h1, _⟩, h2, ⟨ls, h3, _⟩, h5, _⟩ := h
  intro b hb
  rcases ofoot_or hb with rfl | rfl | rfl | ⟨e, he, rfl | rfl⟩
  · rw [h1]; exact nofun
  · rw [h2]; exact nofun
  · rw [h3]; exact nofun
  · exact (h5 e he).ne.1
  · exact (h5 e he).ne.2
theorem ofoot_set (M dv lk : Addr) (s : MixS) (n : Int) (v : VoiceS) (W : WD) : ofoot M dv lk { s with vs := setV s.vs n v } W = ofoot M dv lk s W := by
  unfold ofoot MixS.names
  show _ :: _ :: _ :: own W ((setV s.vs n v).map (·.1)) = _
  rw [setV_names]
theorem OMx.turn (h : OMx K H M dv lk s W bv) {e : MV} (he : e ∈ s.vs) {v : VoiceS} {bv' : Int → Nat} (hbv : ∀ n, n ≠ e.1 → bv' n = bv n) (g : Stp F H H') (hF : ∀ b ∈ F, b = (W e.1).1 ∨ b = (W e.1).2) (hv : OwnV K H' (W e.1).1 (W e.1).2 v (bv' e.1)) : OMx K H' M dv lk { s with vs := setV s.vs e.1 v } W bv' := by
  obtain ⟨⟨kv, h1, h1'⟩, h2, ⟨ls, h3, h4⟩, h5, h6, h7, h8, h9⟩ := h
  have q := h6 e he
  refine ⟨⟨kv, g.keep _ _ h1 fun z => (q _ (hF _ z)).1 rfl, h1'⟩, ?_, ⟨ls, g.keep _ _ h3 fun z => (q _ (hF _ z)).2.2 rfl, pairs_st g h4⟩, fun f hf => ?_, fun f hf => ?_, fun f hf f' hf' => ?_, ?_, h9⟩
  · show H' dv = some (.dK (vkv (setV s.vs e.1 v) W))
    rw [vkv_set]
    exact g.keep _ _ h2 fun z => (q _ (hF _ z)).2.1 rfl
  · obtain ⟨e', he', e1, e2, c⟩ := setV_mem hf
    rcases c with ⟨c1, c2⟩ | ⟨c1, c2⟩
    · rw [c1, c2]
      exact hv
    · rw [c2] at c1 ⊢
      rw [hbv _ c1]
      have hn := h7 e' he' e he
      have hn' := h7 e he e' he'
      refine (h5 e' he').st g (fun z => ?_) (fun z => ?_)
      · rcases hF _ z with w | w
        · exact (hn.2 c1).1 w
        · exact hn.1 w
      · rcases hF _ z with w | w
        · exact hn'.1 w.symm
        · exact (hn.2 c1).2 w
  · obtain ⟨e', he', e1, e2, _⟩ := setV_mem hf
    rw [← e1]
    exact h6 e' he'
  · obtain ⟨e', he', e1, _, _⟩ := setV_mem hf
    obtain ⟨e'', he'', e1', _, _⟩ := setV_mem hf'
    rw [← e1, ← e1']
    exact h7 e' he' e'' he''
  · show ((setV s.vs e.1 v).map (·.1)).Nodup
    rw [setV_names]
    exact h8
theorem OMx.lack (h : OMx K H M dv lk s W bv) {ls : List V} (hl : H lk = some (.lst ls)) {T : Addr} {n b : Int} (hT : H T = some (.tup [.int n, .int b])) :
    OMx K (upd H lk (.lst (ls ++ [.ref T]))) M dv lk { s with lacked := s.lacked ++ [(n, b)] } W bv := by
  have hne := h.nel
  obtain ⟨⟨kv, h1, h1'⟩, h2, ⟨ls', h3, h4⟩, h5, h6, h7, h8, h9⟩ := h
  rw [hl] at h3
  cases h3
  have g := Stp.put (o := .lst (ls ++ [.ref T])) hl (fun xs z => nomatch z)
  refine ⟨⟨kv, g.keep _ _ h1 (by simpa using hne.1), h1'⟩, g.keep _ _ h2 (by simpa using hne.2), ⟨_, upd_same, (pairs_st g h4).snoc ⟨T, rfl, g.tup _ _ hT⟩⟩, fun e he => (h5 e he).st g ?_ ?_, h6, h7, h8, h9⟩
  · simpa using (h6 e he _ (.inl rfl)).2.2
  · simpa using (h6 e he _ (.inr rfl)).2.2
theorem OMx.time (h : OMx K H M dv lk s W bv) {kv : List (Key × V)} (hk : H M = some (.dK kv)) {x : Int} : OMx K (upd H M (.dK (putK kv (kS "time") (.int x)))) M dv lk { s with coming := x } W bv := by
  have hne := h.nel
  obtain ⟨⟨kv', h1, h1a, h1b, h1c, h1d, h1e⟩, h2, ⟨ls, h3, h4⟩, h5, h6, h7, h8, h9⟩ := h
  rw [hk] at h1
  cases h1
  have g := Stp.put (o := .dK (putK kv (kS "time") (.int x))) hk (fun xs z => nomatch z)
  refine ⟨⟨_, upd_same, vp h1a (by decide), vs, vp h1c (by decide), vp h1d (by decide), by rw [put_len h1b]; exact h1e⟩, g.keep _ _ h2 (by simpa using h9.symm), ⟨ls, g.keep _ _ h3 (by simpa using hne.1.symm), pairs_st g h4⟩, fun e he => (h5 e he).st g ?_ ?_, h6, h7, h8, h9⟩
  · simpa using (h6 e he _ (.inl rfl)).1
  · simpa using (h6 e he _ (.inr rfl)).1
theorem OMx.low (h : OMx K H M dv lk s W bv) {ls : List V} (hl : H lk = some (.lst ls)) : ls.length = s.lacked.length := by
  obtain ⟨ls', h3, h4⟩ := h.hlk
  rw [hl] at h3
  cases h3
  exact h4.length
theorem vkv_fst (vs : List MV) (W : WD) : (vkv vs W).map (·.1) = (vs.map (·.1)).map Sum.inl := by
  unfold vkv
  rw [List.map_map, List.map_map]
  rfl
theorem vkv_keys (vs : List MV) (W : WD) : (vkv vs W).map (fun e => kV e.1) = (vs.map (·.1)).map V.int := by
  unfold vkv
  rw [List.map_map, List.map_map]
  rfl
end
end Mx

namespace Mx
open PySem L2
set_option hygiene false in
local macro_rules | `(tactic| walk_at "rd") => `(tactic| try simp only [L2.start, List.map_cons, List.map_nil, List.length_cons, List.length_nil, Nat.reduceAdd, Nat.reduceSub, Nat.reduceLT, Nat.reduceLeDiff, List.replicate_succ, List.replicate_zero, List.append_nil, List.nil_append, List.cons_append, List.set_cons_zero, List.set_cons_succ, List.getElem?_cons_zero, List.getElem?_cons_succ,
  Option.some.injEq, List.cons.injEq, and_true, true_and, and_assoc, reduceCtorEq, L2.V.int.injEq, L2.V.ref.injEq, L2.V.bl.injEq, L2.V.str.injEq, L2.V.ty.injEq, L2.HO.ins.injEq, L2.HO.lst.injEq, L2.HO.tup.injEq, L2.HO.dK.injEq, exists_eq_left', exists_eq_left, exists_eq_right, exists_eq', exists_eq, exists_and_left, exists_and_right, reduceIte, Bool.false_eq_true, Bool.not_true, Bool.not_false,
  L2.tSeq, L2.tIfS, L2.tRet, L2.tRetN, L2.tNext, L2.tAsg, L2.gName, L2.tVar, L2.tC, L2.tCons, L2.tNil, L2.tCB, L2.tOp, L2.tUn, L2.tTup, L2.tLst, L2.tB, L2.tOr, L2.tAnd, L2.tNot, L2.tAndV, L2.tOrV, L2.tNotV, L2.tIf, L2.tTest, L2.tChain, L2.rI, L2.rI0, L2.rU, L2.tDrop, L2.tNever, L2.tCall, L2.tMeth, L2.tMake, L2.rGcd, L2.tFld, L2.sFld, L2.sFldAug, Mx.sFldA, Mx.sFldAugA, L2.rAdd, L2.rSub, L2.rEq, L2.rNe, L2.tDGet, L2.tDIn, L2.tDNotIn, L2.sDPut,
  Mx.isi_int_bool, Mx.isi_int_int, Mx.isi_int_tuple, Mx.isi_int_list, Mx.isi_int_str, Mx.scal_int, Mx.scal_str, Mx.scal_bl, Mx.ofString_inj, Mx.ofString_beq, Mx.lk_cons, Mx.pf_nil, Mx.pf_cons, Mx.sz1, Mx.sz2, List.lookup_nil, String.reduceEq, decide_true, decide_false, decide_eq_true_eq, Int.natAbs_natCast, L2.upd_same, L2.upd_upd, L2.cxOf, L2.gSub, L2.tPar, L2.gCons, L2.gNil, Mx.optV, L2.sDPut])
set_option hygiene false in
local macro_rules | `(tactic| walk_at "rds") => `(tactic| try simp only [L2.start, List.map_cons, List.map_nil, List.length_cons, List.length_nil, Nat.reduceAdd, Nat.reduceSub, Nat.reduceLT, Nat.reduceLeDiff, List.replicate_succ, List.replicate_zero, List.append_nil, List.nil_append, List.cons_append, List.set_cons_zero, List.set_cons_succ, List.getElem?_cons_zero, List.getElem?_cons_succ,
  Option.some.injEq, List.cons.injEq, and_true, true_and, and_assoc, reduceCtorEq, L2.V.int.injEq, L2.V.ref.injEq, L2.V.bl.injEq, L2.V.str.injEq, L2.V.ty.injEq, L2.HO.ins.injEq, L2.HO.lst.injEq, L2.HO.tup.injEq, L2.HO.dK.injEq, exists_eq_left', exists_eq_left, exists_eq_right, exists_eq', exists_eq, exists_and_left, exists_and_right, reduceIte, Bool.false_eq_true, Bool.not_true, Bool.not_false,
  L2.tSeq, L2.tIfS, L2.tRet, L2.tRetN, L2.tNext, L2.tAsg, L2.gName, L2.tVar, L2.tC, L2.tCons, L2.tNil, L2.tCB, L2.tOp, L2.tUn, L2.tTup, L2.tLst, L2.tB, L2.tOr, L2.tAnd, L2.tNot, L2.tAndV, L2.tOrV, L2.tNotV, L2.tIf, L2.tTest, L2.tChain, L2.rI, L2.rI0, L2.rU, L2.tDrop, L2.tNever, L2.tCall, L2.tMeth, L2.tMake, L2.rGcd, L2.tFld, L2.sFld, L2.sFldAug, Mx.sFldA, Mx.sFldAugA, L2.rAdd, L2.rSub, L2.rEq, L2.rNe, L2.tDGet, L2.tDIn, L2.tDNotIn, L2.sDPut,
  Mx.isi_int_bool, Mx.isi_int_int, Mx.isi_int_tuple, Mx.isi_int_list, Mx.isi_int_str, Mx.scal_int, Mx.scal_str, Mx.scal_bl, Mx.ofString_inj, Mx.ofString_beq, Mx.lk_cons, Mx.pf_nil, Mx.pf_cons, Mx.sz1, Mx.sz2, List.lookup_nil, String.reduceEq, decide_true, decide_false, decide_eq_true_eq, Int.natAbs_natCast, L2.upd_same, L2.upd_upd, L2.cxOf, L2.gSub, L2.tPar, L2.gCons, L2.gNil, Mx.optV, L2.sDPut, *])

section
variable {P : Program} {w : World} {K : PySem.W.Frag} {mg : Str → Option Value} {base : Heap}
theorem sc_law_mixer : FnScope ["_law_soft"] ["_law_soft"] (defScope s_law_mixer) := ⟨rfl, rfl, rfl, by decide +kernel, rfl, by decide +kernel, by decide +kernel⟩
def sp_own_beat (K : PySem.W.Frag) : Sp := fun vs H Q _ => ∃ (M dv lk : Addr) (s : MixS) (W : WD) (bv : Int → Nat), vs = [.ref M] ∧ OMx K H M dv lk s W bv ∧ MixOkV bv s ∧ (∀ e ∈ s.vs, 7 ≤ bv e.1 ∧ bv e.1 ≤ 1000) ∧
  ∀ (r : V) (ys : List Int) (H' : Hp), ys.Perm s.names → ys.Pairwise (· ≤ ·) → IsQ K H' r (sumOf s ys) → OMx K H' M dv lk (s.beat ys) W bv → Stp (ofoot M dv lk s W) H H' → Q r H'
theorem sc_law_beat : FnScope ["_law_m", "_law_found", "_law_name", "_law_v"] ["_law_m"] (defScope s_law_beat) := ⟨rfl, rfl, rfl, by decide +kernel, rfl, by decide +kernel, by decide +kernel⟩
theorem ok_law_beat {f : Addr} {fd : FuncData} (F : Fun K "_law_beat" "_law_beat" s_law_beat f fd) (B : Blt mg) (GL : OwnF P w K mg base "_law_lacks" 3 ["_law_v", "_law_beat_here"] (sp_own_bool LineS.lacks)) (GS : OwnF P w K mg base "_law_sound" 5 ["_law_v", "_law_beat_here", "_law_soft"] (sp_own_sound K)) (GP : OwnF P w K mg base "_law_plus" 2 ["_law_one", "_law_other"] (sp_two (· + ·) K)) : FnOk P w K mg base CX0 6 f fd ["_law_m"] (sp_own_beat K) := by
  refine F.ok sc_law_beat (fun vs H Q E h => ?_) (fun cdv A outer sh H vs Q E hr h => ?_)
  · obtain ⟨M, dv, lk, s, W, bv, rfl, _⟩ := h
    rfl
  · obtain ⟨M, dv, lk, s, W, bv, rfl, hM, hO, hbv, q⟩ := h
    have nd := sc_law_beat.nd
    have hu := hu_of hr
    have r2 := hr.mono (show 2 ≤ 5 by decide)
    have r3 := hr.mono (show 3 ≤ 5 by decide)
    refine ⟨_, pss_cons (ps_set (i := 1) nd rfl (.inl rfl) (pe_tup (pa_cons pe_int (pa_cons pe_int pa_nil))))
      (pss_cons (ps_for PassesOwn.never rfl (pi_list (pe_callB (call_sortedDI rfl) (by rfl) B.sorted PyProof.Rows.boot_sorted (pa_cons (pe_dget hu (pv 0) pe_str (fun _ _ => rfl)) pa_nil))) (pg_name (i := 2) nd rfl (.inl rfl))
        (pss_cons (ps_set (i := 3) nd rfl (.inl rfl) (pe_dget hu (pe_dget hu (pv 0) pe_str (fun _ _ => rfl)) (pv 2) (fun _ _ => rfl)))
        (pss_cons (ps_if (pt_val (p_call GL r3 (pa_cons (pv 3) (pa_cons (pe_dget hu (pv 0) pe_str (fun _ _ => rfl)) pa_nil))))
          (pss_one (ps_expr (pe_bm PySem.F.plainAttrs_list PySem.F.slot_list_append PySem.F.type_list_append mt_append (pe_dget hu (pv 0) pe_str (fun _ _ => rfl)) (pa_cons (pe_tup (pa_cons (pv 2) (pa_cons (pe_dget hu (pv 0) pe_str (fun _ _ => rfl)) pa_nil))) pa_nil)))) pss_nil)
        (pss_cons (ps_expr (p_call GS hr (pa_cons (pv 3) (pa_cons (pe_dget hu (pv 0) pe_str (fun _ _ => rfl)) (pa_cons (pe_dget hu (pv 0) pe_str (fun _ _ => rfl)) pa_nil)))))
        (pss_one (ps_set (i := 1) nd rfl (.inl rfl) (p_call GP r2 (pa_cons (pv 1) (pa_cons (pe_dget hu (pv 3) pe_str (fun _ _ => rfl)) pa_nil)))))))))
      (pss_cons (ps_dput hu (pv 0) pe_str (pe_op op_add (pe_dget hu (pv 0) pe_str (fun _ _ => rfl)) pe_int) (by rfl)) (pss_one (ps_ret (pv 1))))), ?_⟩
    obtain ⟨kv, o1, oS, oT, oV, oL, ol⟩ := id hM.ob
    have hdv := hM.hdv
    have hlen6 : sB bv (s.vs.map (·.1)) < 4400 := hO.bits
    have hvl : s.vs.length < 64 := Nat.lt_of_le_of_lt hO.six (by decide)
    walk_at "rd"
    intro p0 hp0
    have s0 := Stp.new (o := .tup [.int 0, .int 1]) hp0
    have e0 : upd H p0 (.tup [.int 0, .int 1]) p0 = some (.tup [.int 0, .int 1]) := upd_same
    have hM0 := hM.st0 s0
    have o10 := s0.keep _ _ o1 (by simp)
    have hdv0 := s0.keep _ _ hdv (by simp)
    generalize upd H p0 (.tup [.int 0, .int 1]) = H0 at *
    refine ⟨_, rfl, M, _, rfl, dgs o10 oV, dv, rfl, _, .inl hdv0, s.vs.map (·.1), ?_, ?_, fun ys p hpm hpw hp0 => ⟨p, rfl, ⟨_, .inl (.inl upd_same)⟩, ?_⟩⟩
    · exact vkv_fst s.vs W
    · rw [List.length_map]
      exact hvl
    have hpf : p ∉ ofoot M dv lk s W := fun z => hM0.there p z hp0
    have s1 := Stp.new (o := .lst (ys.map V.int)) hp0
    have hndy : ys.Nodup := hpm.nodup_iff.mpr hM.nm
    have hsub : ∀ n ∈ ys, ∃ e ∈ s.vs, e.1 = n := fun n hn => by
      obtain ⟨e, he, q⟩ := List.mem_map.mp (hpm.mem_iff.mp hn)
      exact ⟨e, he, q⟩
    have hS : sB bv ys < 4400 := by rw [sB_perm hpm]; exact hlen6
    have hyl : ys.length = s.vs.length := by rw [hpm.length_eq, List.length_map]
    refine for_list (K := K) (a := p) (xs := ys.map V.int) (fun i σ H2 => ∃ tv v2 v3, σ = [some (.ref M), some tv, v2, v3] ∧ IsQ K H2 tv (sumOf s (ys.take i)) ∧ OMx K H2 M dv lk (s.some' (ys.take i)) W bv ∧ Stp (ofoot M dv lk s W) H H2 ∧ H2 p = some (.lst (ys.map V.int)))
      ⟨_, _, _, rfl, ⟨p0, rfl, .inl (s1.tup _ _ e0)⟩, by rw [List.take_zero, some_nil]; exact hM0.st0 s1, (s0.trans s1).sub (by simp), upd_same⟩ (fun i σ H2 _ h => ?_) (fun i x σ H2 hi h => ?_) (fun σ H2 h => ?_)
    · obtain ⟨_, _, _, _, _, _, _, hp2⟩ := h
      exact .inl (.inl hp2)
    · obtain ⟨tv, v2, v3, rfl, htv, hM2, st2, hp2⟩ := h
      rw [List.getElem?_map] at hi
      obtain ⟨n, hn, rfl⟩ := Option.map_eq_some_iff.mp hi
      have hil : i < ys.length := (List.getElem?_eq_some_iff.mp hn).1
      have hnm : n ∈ ys := List.mem_of_getElem? hn
      obtain ⟨e, he, rfl⟩ := hsub n hnm
      have htk : ys.take (i + 1) = ys.take i ++ [e.1] := by rw [List.take_add_one, hn]; rfl
      have hni : e.1 ∉ ys.take i := by
        intro z
        have h2 := hndy.sublist (List.take_sublist (i + 1) ys)
        rw [htk, List.nodup_append] at h2
        exact h2.2.2 _ z _ (by simp) rfl
      have he2 : e ∈ (s.some' (ys.take i)).vs := by
        refine List.mem_map.mpr ⟨e, he, ?_⟩
        rw [if_neg hni]
      have hib : sB bv (ys.take (i + 1)) ≤ sB bv ys := sB_take _ _ _
      have hib1 : sB bv (ys.take (i + 1)) = sB bv (ys.take i) + (bv e.1 + 25) := by rw [htk, sB_snoc]
      obtain ⟨kv2, u1, uS, uT, uV, uL, ul⟩ := id hM2.ob
      have gd := DGet.k (k := (Sum.inl e.1 : Key)) hM2.hdv
      rw [vkv_get W he2 hM2.nm] at gd
      have hv2 := hM2.vo e he2
      walk_at "rd"
      refine ⟨_, dgs u1 uV, dv, rfl, _, gd, _, dgs u1 uT, (W e.1).1, e.2.2.line, s.coming, rfl, hv2.ov, (hO.vo e he).line, fun H3 s3 => ⟨_, rfl, ?_⟩⟩
      have hM3 := hM2.st0 s3
      have hrb : Rb (1 + sB bv (ys.take i)) (sumOf s (ys.take i)) := sum_rbV hO hM.nm (ys.take i) fun n hn => hsub n (List.mem_of_mem_take hn)
      cases hlk : e.2.2.line.lacks s.coming with
      | false =>
        have hlk2 : e.2.2.line.lacks s.coming = true ∧ ([] : List (Int × Int)) = [(e.1, s.coming)] ∨ e.2.2.line.lacks s.coming = false ∧ ([] : List (Int × Int)) = [] := .inr ⟨hlk, rfl⟩
        rw [if_neg (by decide)]
        have hM4 : OMx K H3 M dv lk { s.some' (ys.take i) with lacked := (s.some' (ys.take i)).lacked ++ [] } W bv := by
          rw [List.append_nil]
          exact hM3
        have st4 := st2.trans s3
        have ht4 := htv.st s3
        have hp4 := s3.keep _ _ hp2 (by simp)
        obtain ⟨kv4, w1, wS, wT, wV, wL, wl⟩ := id hM4.ob
        refine ⟨_, dgs w1 wT, _, dgs w1 wS, (W e.1).1, (W e.1).2, e.2.2, bv e.1, s.coming, s.soft, rfl, hM4.vo e he2, hO.vo e he, hO.s1, hO.s2, (hbv e he).1, (hbv e he).2, fun H5 hv5 s5 => ?_⟩
        have hM5 := hM4.turn he2 (bv' := bv) (fun _ _ => rfl) s5 (by simp) hv5
        obtain ⟨kv5, kc5, k51, hK5, _⟩ := id hv5
        obtain ⟨pv5, pp1, pp2⟩ := hK5.part
        obtain ⟨ar, rfl, tr⟩ := id pp2
        obtain ⟨atv, rfl, ttv⟩ := ht4
        refine ⟨_, rfl, _, dgs k51 pp1, atv, ar, sumOf s (ys.take i), (e.2.2.give s.coming s.soft).part, 1 + sB bv (ys.take i), bv e.1 + 24, rfl, ttv.st s5, tr, hrb, ((hO.vo e he).give hO.s1 hO.s2 s.coming).part, by omega, by omega, by omega, fun r6 H6 hp6 s6 l6 => ?_⟩
        have hfe : ∀ x ∈ [(W e.1).1], x ∈ ofoot M dv lk s W := fun x hx => ofoot_v he (.inl (List.mem_singleton.mp hx))
        refine ⟨?_, ?_, ((st4.trans s5).trans s6).sub ?_, ?_⟩
        · rw [htk, sumOf_snoc, partOf_mem hM.nm he]
          exact isQ_of l6
        · have := hM5.st0 s6
          rw [some_step hM.nm he hni htk hlk2] at this
          exact this
        · intro x hx
          simp only [List.append_nil, List.mem_append] at hx
          exact hx.elim id (hfe x)
        · exact s6.keep _ _ (s5.keep _ _ hp4 fun z => hpf (hfe _ z)) (by simp)
      | true =>
        have hlk2 : e.2.2.line.lacks s.coming = true ∧ [(e.1, s.coming)] = [(e.1, s.coming)] ∨ e.2.2.line.lacks s.coming = false ∧ [(e.1, s.coming)] = [] := .inl ⟨hlk, rfl⟩
        rw [if_pos rfl]
        obtain ⟨ls, hl3, hpr3⟩ := hM3.hlk
        obtain ⟨kv3, u31, uS3, uT3, uV3, uL3, ul3⟩ := id hM3.ob
        refine ⟨_, rfl, M, _, rfl, dgs u31 uL3, .inl ⟨rfl, _, .inl (.inl hl3)⟩, ?_⟩
        refine ⟨_, rfl, _, rfl, M, _, rfl, dgs u31 uT3, by show 2 ≤ sizeLine; decide, fun T hT => ?_⟩
        have sT := Stp.new (o := .tup [.int e.1, .int (s.some' (ys.take i)).coming]) hT
        have hl4 := sT.keep _ _ hl3 (by simp)
        have hM4 : OMx K (upd (upd H3 T (.tup [.int e.1, .int (s.some' (ys.take i)).coming])) lk (.lst (ls ++ [.ref T]))) M dv lk { s.some' (ys.take i) with lacked := (s.some' (ys.take i)).lacked ++ [(e.1, s.coming)] } W bv := (hM3.st0 sT).lack hl4 (T := T) (n := e.1) (b := (s.some' (ys.take i)).coming) upd_same
        have sL := Stp.put (o := .lst (ls ++ [.ref T])) hl4 (fun xs z => nomatch z)
        have hll := hM3.low hl3
        refine ⟨lk, ls, .ref T, rfl, rfl, hl4, ?_, ?_⟩
        · rw [hll]
          have h1 : (s.some' (ys.take i)).lacked.length ≤ s.lacked.length + i := by
            show (s.lacked ++ ((ys.take i).filter (lackN s.vs s.coming)).map fun n => (n, s.coming)).length ≤ _
            rw [List.length_append, List.length_map]
            have := List.length_filter_le (lackN s.vs s.coming) (ys.take i)
            rw [List.length_take] at this
            omega
          have := hO.lk
          exact Nat.lt_of_le_of_lt (show _ ≤ 100000 by omega) (by decide)
        have st4 := ((st2.trans s3).trans sT).trans sL
        have ht4 := ((htv.st s3).st sT).st sL
        have hlf : lk ∈ ofoot M dv lk s W := by simp [ofoot]
        have hkp : p ≠ lk := fun z => hpf (by rw [z]; exact hlf)
        have hp4 := sL.keep _ _ (sT.keep _ _ (s3.keep _ _ hp2 (by simp)) (by simp)) (by simpa using hkp)
        have st4' := st4.sub (G := ofoot M dv lk s W) (by
          intro x hx
          simp only [List.append_nil, List.mem_append, List.mem_singleton] at hx
          exact hx.elim id fun z => z ▸ hlf)
        have st4 := st4'
        generalize upd (upd H3 T (.tup [.int e.1, .int (s.some' (ys.take i)).coming])) lk (.lst (ls ++ [.ref T])) = H4 at *
        walk_at "rd"
        obtain ⟨kv4, w1, wS, wT, wV, wL, wl⟩ := id hM4.ob
        refine ⟨_, dgs w1 wT, _, dgs w1 wS, (W e.1).1, (W e.1).2, e.2.2, bv e.1, s.coming, s.soft, rfl, hM4.vo e he2, hO.vo e he, hO.s1, hO.s2, (hbv e he).1, (hbv e he).2, fun H5 hv5 s5 => ?_⟩
        have hM5 := hM4.turn he2 (bv' := bv) (fun _ _ => rfl) s5 (by simp) hv5
        obtain ⟨kv5, kc5, k51, hK5, _⟩ := id hv5
        obtain ⟨pv5, pp1, pp2⟩ := hK5.part
        obtain ⟨ar, rfl, tr⟩ := id pp2
        obtain ⟨atv, rfl, ttv⟩ := ht4
        refine ⟨_, dgs k51 pp1, atv, ar, sumOf s (ys.take i), (e.2.2.give s.coming s.soft).part, 1 + sB bv (ys.take i), bv e.1 + 24, rfl, ttv.st s5, tr, hrb, ((hO.vo e he).give hO.s1 hO.s2 s.coming).part, by omega, by omega, by omega, fun r6 H6 hp6 s6 l6 => ?_⟩
        have hfe : ∀ x ∈ [(W e.1).1], x ∈ ofoot M dv lk s W := fun x hx => ofoot_v he (.inl (List.mem_singleton.mp hx))
        refine ⟨?_, ?_, ((st4.trans s5).trans s6).sub ?_, ?_⟩
        · rw [htk, sumOf_snoc, partOf_mem hM.nm he]
          exact isQ_of l6
        · have := hM5.st0 s6
          rw [some_step hM.nm he hni htk hlk2] at this
          exact this
        · intro x hx
          simp only [List.append_nil, List.mem_append] at hx
          exact hx.elim id (hfe x)
        · exact s6.keep _ _ (s5.keep _ _ hp4 fun z => hpf (hfe _ z)) (by simp)
    · obtain ⟨tv, v2, v3, rfl, htv, hM2, st2, hp2⟩ := h
      rw [List.length_map, List.take_length] at htv hM2
      obtain ⟨kv2, u1, uS, uT, uV, uL, ul⟩ := id hM2.ob
      walk_at "rd"
      refine ⟨_, dgs u1 uT, _, rfl, _, DPut.k (k := kS "time") u1 (Nat.lt_of_le_of_lt ul (by decide)), ?_⟩
      have s3 := Stp.put (o := .dK (putK kv2 (kS "time") (.int (s.coming + 1)))) u1 (fun xs z => nomatch z)
      have hfin := hM2.time (x := s.coming + 1) u1
      refine q tv ys _ hpm hpw (htv.st s3) ?_ ((st2.trans s3).sub ?_)
      · have ev : (s.some' ys).vs = (s.beat ys).vs := List.map_congr_left fun e he => by
          rw [if_pos (hpm.mem_iff.mpr (List.mem_map.mpr ⟨e, he, rfl⟩))]
        have e2 : { s.some' ys with coming := s.coming + 1 } = s.beat ys := by
          unfold MixS.beat
          rw [← show (s.some' ys).vs = s.vs.map s.step from ev]
          rfl
        rw [e2] at hfin
        exact hfin
      · intro x hx
        simp only [List.mem_append, List.mem_singleton] at hx
        exact hx.elim id fun z => by rw [z]; simp [ofoot]
end
end Mx

namespace Mx
open PySem L2
set_option hygiene false in
local macro_rules | `(tactic| walk_at "rd") => `(tactic| try simp only [L2.start, List.map_cons, List.map_nil, List.length_cons, List.length_nil, Nat.reduceAdd, Nat.reduceSub, Nat.reduceLT, Nat.reduceLeDiff, List.replicate_succ, List.replicate_zero, List.append_nil, List.nil_append, List.cons_append, List.set_cons_zero, List.set_cons_succ, List.getElem?_cons_zero, List.getElem?_cons_succ,
  Option.some.injEq, List.cons.injEq, and_true, true_and, and_assoc, reduceCtorEq, L2.V.int.injEq, L2.V.ref.injEq, L2.V.bl.injEq, L2.V.str.injEq, L2.V.ty.injEq, L2.HO.ins.injEq, L2.HO.lst.injEq, L2.HO.tup.injEq, L2.HO.dK.injEq, exists_eq_left', exists_eq_left, exists_eq_right, exists_eq', exists_eq, exists_and_left, exists_and_right, reduceIte, Bool.false_eq_true, Bool.not_true, Bool.not_false,
  L2.tSeq, L2.tIfS, L2.tRet, L2.tRetN, L2.tNext, L2.tAsg, L2.gName, L2.tVar, L2.tC, L2.tCons, L2.tNil, L2.tCB, L2.tOp, L2.tUn, L2.tTup, L2.tLst, L2.tB, L2.tOr, L2.tAnd, L2.tNot, L2.tAndV, L2.tOrV, L2.tNotV, L2.tIf, L2.tTest, L2.tChain, L2.rI, L2.rI0, L2.rU, L2.tDrop, L2.tNever, L2.tCall, L2.tMeth, L2.tMake, L2.rGcd, L2.tFld, L2.sFld, L2.sFldAug, Mx.sFldA, Mx.sFldAugA, L2.rAdd, L2.rSub, L2.rEq, L2.rNe, L2.tDGet, L2.tDIn, L2.tDNotIn, L2.sDPut,
  Mx.isi_int_bool, Mx.isi_int_int, Mx.isi_int_tuple, Mx.isi_int_list, Mx.isi_int_str, Mx.scal_int, Mx.scal_str, Mx.scal_bl, Mx.ofString_inj, Mx.ofString_beq, Mx.lk_cons, Mx.pf_nil, Mx.pf_cons, Mx.sz1, Mx.sz2, List.lookup_nil, String.reduceEq, decide_true, decide_false, decide_eq_true_eq, Int.natAbs_natCast, L2.upd_same, L2.upd_upd, L2.cxOf, L2.gSub, L2.tPar, L2.gCons, L2.gNil, Mx.optV, L2.sDPut, L2.tDisp, L2.tPairs, L2.tDNewK])
set_option hygiene false in
local macro_rules | `(tactic| walk_at "rds") => `(tactic| try simp only [L2.start, List.map_cons, List.map_nil, List.length_cons, List.length_nil, Nat.reduceAdd, Nat.reduceSub, Nat.reduceLT, Nat.reduceLeDiff, List.replicate_succ, List.replicate_zero, List.append_nil, List.nil_append, List.cons_append, List.set_cons_zero, List.set_cons_succ, List.getElem?_cons_zero, List.getElem?_cons_succ,
  Option.some.injEq, List.cons.injEq, and_true, true_and, and_assoc, reduceCtorEq, L2.V.int.injEq, L2.V.ref.injEq, L2.V.bl.injEq, L2.V.str.injEq, L2.V.ty.injEq, L2.HO.ins.injEq, L2.HO.lst.injEq, L2.HO.tup.injEq, L2.HO.dK.injEq, exists_eq_left', exists_eq_left, exists_eq_right, exists_eq', exists_eq, exists_and_left, exists_and_right, reduceIte, Bool.false_eq_true, Bool.not_true, Bool.not_false,
  L2.tSeq, L2.tIfS, L2.tRet, L2.tRetN, L2.tNext, L2.tAsg, L2.gName, L2.tVar, L2.tC, L2.tCons, L2.tNil, L2.tCB, L2.tOp, L2.tUn, L2.tTup, L2.tLst, L2.tB, L2.tOr, L2.tAnd, L2.tNot, L2.tAndV, L2.tOrV, L2.tNotV, L2.tIf, L2.tTest, L2.tChain, L2.rI, L2.rI0, L2.rU, L2.tDrop, L2.tNever, L2.tCall, L2.tMeth, L2.tMake, L2.rGcd, L2.tFld, L2.sFld, L2.sFldAug, Mx.sFldA, Mx.sFldAugA, L2.rAdd, L2.rSub, L2.rEq, L2.rNe, L2.tDGet, L2.tDIn, L2.tDNotIn, L2.sDPut,
  Mx.isi_int_bool, Mx.isi_int_int, Mx.isi_int_tuple, Mx.isi_int_list, Mx.isi_int_str, Mx.scal_int, Mx.scal_str, Mx.scal_bl, Mx.ofString_inj, Mx.ofString_beq, Mx.lk_cons, Mx.pf_nil, Mx.pf_cons, Mx.sz1, Mx.sz2, List.lookup_nil, String.reduceEq, decide_true, decide_false, decide_eq_true_eq, Int.natAbs_natCast, L2.upd_same, L2.upd_upd, L2.cxOf, L2.gSub, L2.tPar, L2.gCons, L2.gNil, Mx.optV, L2.sDPut, L2.tDisp, L2.tPairs, L2.tDNewK, *])

section
variable {P : Program} {w : World} {K : PySem.W.Frag} {mg : Str → Option Value} {base : Heap}
def sp_own_mixer (K : PySem.W.Frag) : Sp := fun vs H Q _ => ∃ (soft : Int), vs = [.int soft] ∧ ∀ M dv lk H', H M = none → H dv = none → H lk = none → (∀ W bv, OMx K H' M dv lk ⟨soft, 0, [], []⟩ W bv) → Stp [] H H' → Q (.ref M) H'
theorem ok_law_mixer {f : Addr} {fd : FuncData} (F : Fun K "_law_mixer" "_law_mixer" s_law_mixer f fd) : FnOk P w K mg base CX0 1 f fd ["_law_soft"] (sp_own_mixer K) := by
  refine F.ok sc_law_mixer (fun vs H Q E h => ?_) (fun cdv A outer sh H vs Q E hr h => ?_)
  · obtain ⟨soft, rfl, _⟩ := h
    rfl
  · obtain ⟨soft, rfl, q⟩ := h
    refine ⟨_, pss_one (ps_ret (pe_disp (pps_cons pe_str (pv 0) (pps_cons pe_str pe_int (pps_cons pe_str pe_dnewK (pps_cons pe_str (pe_lst pa_nil) pps_nil)))) (by rfl) (by rfl) (by simp) (by decide))), ?_⟩
    walk_at "rd"
    intro M hM
    have s1 := Stp.new (o := .dK []) hM
    have e1 : upd H M (.dK []) M = some (.dK []) := upd_same
    generalize upd H M (.dK []) = H1 at *
    intro dv hdv
    have s2 := Stp.new (o := .dK []) hdv
    have e2 : upd H1 dv (.dK []) dv = some (.dK []) := upd_same
    have e12 := s2.keep _ _ e1 (by simp)
    have n1 : M ≠ dv := fun z => by rw [← z, e1] at hdv; cases hdv
    generalize upd H1 dv (.dK []) = H2 at *
    refine ⟨Nat.zero_le _, fun lk hlk => ?_⟩
    have s3 := Stp.new (o := .lst []) hlk
    have e3 : upd H2 lk (.lst []) lk = some (.lst []) := upd_same
    have e13 := s3.keep _ _ e12 (by simp)
    have e23 := s3.keep _ _ e2 (by simp)
    have n2 : M ≠ lk := fun z => by rw [← z, e12] at hlk; cases hlk
    generalize upd H2 lk (.lst []) = H3 at *
    refine ⟨e13, [(kS "soft", V.int soft), (kS "time", V.int 0), (kS "voices", V.ref dv), (kS "lacks", V.ref lk)], rfl, (by show 4 ≤ 15; decide), ?_⟩
    have k1 : valV (mergeK [] [(kS "soft", V.int soft), (kS "time", V.int 0), (kS "voices", V.ref dv), (kS "lacks", V.ref lk)]) (kS "soft") = some (.int soft) := rfl
    have k2 : valV (mergeK [] [(kS "soft", V.int soft), (kS "time", V.int 0), (kS "voices", V.ref dv), (kS "lacks", V.ref lk)]) (kS "time") = some (.int 0) := rfl
    have k3 : valV (mergeK [] [(kS "soft", V.int soft), (kS "time", V.int 0), (kS "voices", V.ref dv), (kS "lacks", V.ref lk)]) (kS "voices") = some (.ref dv) := rfl
    have k4 : valV (mergeK [] [(kS "soft", V.int soft), (kS "time", V.int 0), (kS "voices", V.ref dv), (kS "lacks", V.ref lk)]) (kS "lacks") = some (.ref lk) := rfl
    have k5 : (mergeK [] [(kS "soft", V.int soft), (kS "time", V.int 0), (kS "voices", V.ref dv), (kS "lacks", V.ref lk)]).length ≤ 30 := Nat.le_trans (length_mergeK _ _) (by show 0 + 4 ≤ 30; decide)
    generalize mergeK [] [(kS "soft", V.int soft), (kS "time", V.int 0), (kS "voices", V.ref dv), (kS "lacks", V.ref lk)] = kv at *
    have s4 := Stp.put (o := .dK kv) e13 (fun xs z => nomatch z)
    have e4 : upd H3 M (.dK kv) M = some (.dK kv) := upd_same
    have e24 := s4.keep _ _ e23 (by simpa using n1.symm)
    have e34 := s4.keep _ _ e3 (by simpa using n2.symm)
    generalize upd H3 M (.dK kv) = H4 at *
    refine q M dv lk H4 hM (s1.free hdv (by simp)) (s1.free (s2.free hlk (by simp)) (by simp)) (fun W bv => ?_) ((s1.trans (s2.trans (s3.trans s4))).subN ?_)
    · exact ⟨⟨kv, e4, k1, k2, k3, k4, k5⟩, e24, ⟨[], e34, .nil⟩, (fun _ h => nomatch h), (fun _ h => nomatch h), (fun _ h => nomatch h), List.nodup_nil, n1⟩
    intro b hb
    simp only [List.mem_append, List.mem_singleton, List.not_mem_nil, false_or] at hb
    exact .inr (hb ▸ hM)
end
end Mx

namespace Mx
open PySem L2
/-! ### deeds -/
inductive VDeed where
  | par (pl : Int) (xs : List Int)
  | fin (mn : Int)
  | lead (l b : Int)
  | heard (b : Bool)
inductive Deed where
  | beat
  | add (n pn pb wt ld : Int)
  | vc (n : Int) (d : VDeed)
def VDeed.at (K : PySem.W.Frag) (H : Hp) (a : Addr) (n : Int) : VDeed → Prop
  | .par pl xs => ∃ t, TupAt K H a [.str "parcel", .int n, .int pl, .ref t] ∧ TupAt K H t (xs.map V.int)
  | .fin mn => TupAt K H a [.str "end", .int n, .int mn]
  | .lead l b => TupAt K H a [.str "lead", .int n, .int l, .int b]
  | .heard true => TupAt K H a [.str "wake", .int n]
  | .heard false => TupAt K H a [.str "hush", .int n]
def Deed.at (K : PySem.W.Frag) (H : Hp) (a : Addr) : Deed → Prop
  | .beat => TupAt K H a [.str "beat"]
  | .add n pn pb wt ld => TupAt K H a [.str "add", .int n, .int pn, .int pb, .int wt, .int ld]
  | .vc n d => d.at K H a n
theorem VDeed.at.st {K : PySem.W.Frag} {F : List Addr} {H H' : Hp} {a : Addr} {n : Int} {d : VDeed} (h : d.at K H a n) (s : Stp F H H') : d.at K H' a n := by
  cases d with
  | par pl xs => obtain ⟨t, h1, h2⟩ := h; exact ⟨t, h1.st s, h2.st s⟩
  | fin mn => exact TupAt.st h s
  | lead l b => exact TupAt.st h s
  | heard b => cases b <;> exact TupAt.st h s
theorem Deed.at.st {K : PySem.W.Frag} {F : List Addr} {H H' : Hp} {a : Addr} {d : Deed} (h : d.at K H a) (s : Stp F H H') : d.at K H' a := by
  cases d with
  | beat => exact TupAt.st h s
  | add => exact TupAt.st h s
  | vc n d => exact VDeed.at.st h s
def VDeed.go (v : VoiceS) : VDeed → VoiceS
  | .par pl xs => { v with line := v.line.take pl xs }
  | .fin mn => { v with line := { v.line with many := some mn } }
  | .lead l b => { v with loud := v.loud.to l b }
  | .heard b => { v with heard := b }
def VDeed.ok (v : VoiceS) : VDeed → Prop
  | .par pl xs => ParOk v.line pl xs
  | .fin mn => v.line.many = none ∧ 1 ≤ mn ∧ mn ≤ 1000 ∧ v.line.reach ≤ mn
  | .lead l b => 0 ≤ l ∧ l ≤ 64 ∧ 1 ≤ b ∧ b ≤ 64
  | .heard _ => True
theorem ixT {K : PySem.W.Frag} {H : Hp} {a : Addr} {xs : List V} {i : Int} {x : V} {Q : VK} (h : TupAt K H a xs) (ha : atI xs i = some x) (q : Q x H) : rIxT K (.ref a) (.int i) H Q := ⟨a, _, i, x, rfl, rfl, h.sq, ha, q⟩
theorem OwnV.put {K : PySem.W.Frag} {H H' : Hp} {d c : Addr} {v : VoiceS} {n : Nat} (h : OwnV K H d c v n) {cm : List (Int × Int)} (hc : H' c = some (.dK (cam cm))) (g : Stp [c] H H') : OwnV K H' d c { v with line := { v.line with came := cm } } n := by
  obtain ⟨kv, kc, h1, hK, h3, h4, h5, h6, hne⟩ := h
  have hK' := hK.st g
  exact ⟨kv, cam cm, g.keep _ _ h1 (by simpa using hne), ⟨hK'.pace, hK'.beg, hK'.came, hK'.many, hK'.goal, hK'.quiet, hK'.loud, hK'.word, hK'.k, hK'.part, hK'.held⟩, hc, fun i => cam_get _ _, rfl, h6, hne⟩
def ifThen : Stmt → List Stmt
  | .If _ b _ _ => b
  | _ => []
abbrev pass0d : Stmt := .Pass ⟨0, 0, 0, 0⟩
abbrev NDo : List Str := ["_law_m", "_law_deed_here", "_law_word", "_law_v", "_law_k"]
theorem sc_law_do : FnScope NDo ["_law_m", "_law_deed_here"] (defScope s_law_do) := ⟨rfl, rfl, rfl, by decide +kernel, rfl, by decide +kernel, by decide +kernel⟩
set_option hygiene false in
local macro_rules | `(tactic| walk_at "rd") => `(tactic| try simp only [L2.start, List.map_cons, List.map_nil, List.length_cons, List.length_nil, Nat.reduceAdd, Nat.reduceSub, Nat.reduceLT, Nat.reduceLeDiff, List.replicate_succ, List.replicate_zero, List.append_nil, List.nil_append, List.cons_append, List.set_cons_zero, List.set_cons_succ, List.getElem?_cons_zero, List.getElem?_cons_succ,
  Option.some.injEq, List.cons.injEq, and_true, true_and, and_assoc, reduceCtorEq, L2.V.int.injEq, L2.V.ref.injEq, L2.V.bl.injEq, L2.V.str.injEq, L2.V.ty.injEq, L2.HO.ins.injEq, L2.HO.lst.injEq, L2.HO.tup.injEq, L2.HO.dK.injEq, exists_eq_left', exists_eq_left, exists_eq_right, exists_eq', exists_eq, exists_and_left, exists_and_right, reduceIte, Bool.false_eq_true, Bool.not_true, Bool.not_false,
  L2.tSeq, L2.tIfS, L2.tRet, L2.tRetN, L2.tNext, L2.tAsg, L2.gName, L2.tVar, L2.tC, L2.tCons, L2.tNil, L2.tCB, L2.tOp, L2.tUn, L2.tTup, L2.tLst, L2.tB, L2.tOr, L2.tAnd, L2.tNot, L2.tAndV, L2.tOrV, L2.tNotV, L2.tIf, L2.tTest, L2.tChain, L2.rI, L2.rI0, L2.rU, L2.tDrop, L2.tNever, L2.tCall, L2.tMeth, L2.tMake, L2.rGcd, L2.tFld, L2.sFld, L2.sFldAug, Mx.sFldA, Mx.sFldAugA, L2.rAdd, L2.rSub, L2.rEq, L2.rNe, L2.tDGet, L2.tDIn, L2.tDNotIn, L2.sDPut,
  Mx.isi_int_bool, Mx.isi_int_int, Mx.isi_int_tuple, Mx.isi_int_list, Mx.isi_int_str, Mx.scal_int, Mx.scal_str, Mx.scal_bl, Mx.ofString_inj, Mx.ofString_beq, Mx.lk_cons, Mx.pf_nil, Mx.pf_cons, Mx.sz1, Mx.sz2, List.lookup_nil, String.reduceEq, decide_true, decide_false, decide_eq_true_eq, Int.natAbs_natCast, L2.upd_same, L2.upd_upd, L2.cxOf, L2.gSub, L2.tPar, L2.gCons, L2.gNil, Mx.optV, L2.sDPut, L2.tDisp, L2.tPairs, L2.tDNewK])
set_option hygiene false in
local macro_rules | `(tactic| walk_at "rds") => `(tactic| try simp only [L2.start, List.map_cons, List.map_nil, List.length_cons, List.length_nil, Nat.reduceAdd, Nat.reduceSub, Nat.reduceLT, Nat.reduceLeDiff, List.replicate_succ, List.replicate_zero, List.append_nil, List.nil_append, List.cons_append, List.set_cons_zero, List.set_cons_succ, List.getElem?_cons_zero, List.getElem?_cons_succ,
  Option.some.injEq, List.cons.injEq, and_true, true_and, and_assoc, reduceCtorEq, L2.V.int.injEq, L2.V.ref.injEq, L2.V.bl.injEq, L2.V.str.injEq, L2.V.ty.injEq, L2.HO.ins.injEq, L2.HO.lst.injEq, L2.HO.tup.injEq, L2.HO.dK.injEq, exists_eq_left', exists_eq_left, exists_eq_right, exists_eq', exists_eq, exists_and_left, exists_and_right, reduceIte, Bool.false_eq_true, Bool.not_true, Bool.not_false,
  L2.tSeq, L2.tIfS, L2.tRet, L2.tRetN, L2.tNext, L2.tAsg, L2.gName, L2.tVar, L2.tC, L2.tCons, L2.tNil, L2.tCB, L2.tOp, L2.tUn, L2.tTup, L2.tLst, L2.tB, L2.tOr, L2.tAnd, L2.tNot, L2.tAndV, L2.tOrV, L2.tNotV, L2.tIf, L2.tTest, L2.tChain, L2.rI, L2.rI0, L2.rU, L2.tDrop, L2.tNever, L2.tCall, L2.tMeth, L2.tMake, L2.rGcd, L2.tFld, L2.sFld, L2.sFldAug, Mx.sFldA, Mx.sFldAugA, L2.rAdd, L2.rSub, L2.rEq, L2.rNe, L2.tDGet, L2.tDIn, L2.tDNotIn, L2.sDPut,
  Mx.isi_int_bool, Mx.isi_int_int, Mx.isi_int_tuple, Mx.isi_int_list, Mx.isi_int_str, Mx.scal_int, Mx.scal_str, Mx.scal_bl, Mx.ofString_inj, Mx.ofString_beq, Mx.lk_cons, Mx.pf_nil, Mx.pf_cons, Mx.sz1, Mx.sz2, List.lookup_nil, String.reduceEq, decide_true, decide_false, decide_eq_true_eq, Int.natAbs_natCast, L2.upd_same, L2.upd_upd, L2.cxOf, L2.gSub, L2.tPar, L2.gCons, L2.gNil, Mx.optV, L2.sDPut, L2.tDisp, L2.tPairs, L2.tDNewK, *])

section
variable {P : Program} {w : World} {K : PySem.W.Frag} {mg : Str → Option Value} {base : Heap}
abbrev XDo (P : Program) (w : World) (K : PySem.W.Frag) (mg : Str → Option Value) (base : Heap) (f : Addr) (cdv : Value) (A : Around) (outer : List Env) (s : Shared) (H : Hp) (E : XK) : Cx := (cxOf CX0 P w K mg base NDo "_law_do" (defScope s_law_do) f cdv A outer s H E).nox
theorem dPar_ok (B : Blt mg) {f : Addr} {cdv : Value} {A : Around} {outer : List Env} {s : Shared} {H : Hp} {E : XK} (hr : Room 6 (A.deeper (PyProof.Rows.envOfC "_law_do" (defScope s_law_do) s.heap.objs.size f cdv))) :
    ∃ t, PS (XDo P w K mg base f cdv A outer s H E) ((ifThen ((defBody s_law_do).getD 4 pass0d)).getD 0 pass0d) t ∧ ∀ (D : Ends) (H1 : Hp) (a tt d c : Addr) (v : VoiceS) (n : Nat) (nm pl : Int) (xs : List Int) (x0 x2 x4 : Option V),
      TupAt K H1 a [.str "parcel", .int nm, .int pl, .ref tt] → TupAt K H1 tt (xs.map V.int) → xs.length ≤ 32 → v.line.came.length ≤ 90000 → OwnV K H1 d c v n →
      (∀ H2 y4, OwnV K H2 d c { v with line := v.line.take pl xs } n → Stp [c] H1 H2 → D.nx [x0, some (.ref a), x2, some (.ref d), y4] H2) → t D [x0, some (.ref a), x2, some (.ref d), x4] H1 := by
  have nd := sc_law_do.nd
  have hu := hu_of hr
  refine ⟨_, ps_for PassesOwn.never rfl (pi_range1 (by rfl) B.range (pa_cons (pe_callB call_len_seq (by rfl) B.len PySem.boot_len (pa_cons (pe_ix ix_tup (pv 1) pe_int (fun _ _ => rfl)) pa_nil)) pa_nil)) (pg_name (i := 4) nd rfl (.inl rfl))
    (pss_one (ps_if (pt_cmp (pc_dnotin hu (pe_op op_add (pe_ix ix_tup (pv 1) pe_int (fun _ _ => rfl)) (pv 4)) (pe_dget hu (pv 3) pe_str (fun _ _ => rfl))))
      (pss_one (ps_dput hu (pe_dget hu (pv 3) pe_str (fun _ _ => rfl)) (pe_op op_add (pe_ix ix_tup (pv 1) pe_int (fun _ _ => rfl)) (pv 4)) (pe_ix ix_tup (pe_ix ix_tup (pv 1) pe_int (fun _ _ => rfl)) (pv 4) (fun _ _ => rfl)) (by rfl))) pss_nil)), ?_⟩
  intro D H1 a tt d c v n nm pl xs x0 x2 x4 ha ht hl hc hO q
  refine ⟨_, rfl, ixT ha (x := .ref tt) rfl ⟨tt, _, rfl, .inr ht.sq, ⟨((xs.map V.int).length : Int), rfl, by omega, by rw [List.length_map]; omega, ?_⟩⟩⟩
  have h32 : (xs.map V.int).length = xs.length := List.length_map _
  refine for_range (lo := 0) (n := (((xs.map V.int).length : Int)).toNat) (fun i σ H2 => ∃ y4, σ = [x0, some (.ref a), x2, some (.ref d), y4] ∧ OwnV K H2 d c { v with line := { v.line with came := putAll v.line.came pl (xs.take i) } } n ∧ Stp [c] H1 H2)
    ⟨_, rfl, by rw [List.take_zero]; exact hO, Stp.refl.sub (by simp)⟩ (fun i σ H2 hi h => ?_) (fun σ H2 h => ?_)
  · obtain ⟨y4, rfl, hO2, s2⟩ := h
    rw [h32, Int.toNat_natCast] at hi
    obtain ⟨kv, kc, k1, hK, k3, k4, k5, k6, hne⟩ := id hO2
    have htk : xs.take (i + 1) = xs.take i ++ [xs[i]] := by rw [List.take_add_one, List.getElem?_eq_getElem hi]; rfl
    have hpl : putAll v.line.came pl (xs.take (i + 1)) = put1 (putAll v.line.came pl (xs.take i)) (pl + (i : Int)) xs[i] := by
      rw [htk, putAll_snoc, List.length_take, Nat.min_eq_left (by omega)]
    have hlen := putAll_len (xs.take i) v.line.came pl
    rw [List.length_take] at hlen
    have ha2 := ha.st s2
    have ht2 := ht.st s2
    walk_at "rd"
    refine ixT ha2 rfl ⟨_, rfl, ?_⟩
    have gC := dgs k1 hK.came
    refine ⟨_, gC, ?_⟩
    have g1 := DGet.k (k := (Sum.inl (pl + (0 + (i : Int))) : Key)) k3
    rw [k4, show pl + (0 + (i : Int)) = pl + (i : Int) by omega] at g1
    refine ⟨c, rfl, _, by rw [show pl + (0 + (i : Int)) = pl + (i : Int) by omega]; exact g1, ?_⟩
    have hc90 : (putAll v.line.came pl (xs.take i)).length ≤ 90032 := by omega
    cases el : look (putAll v.line.came pl (xs.take i)) (pl + (i : Int)) with
    | some y =>
      have e : put1 (putAll v.line.came pl (xs.take i)) (pl + (i : Int)) xs[i] = putAll v.line.came pl (xs.take i) := by
        unfold put1
        rw [el]
        rfl
      rw [if_neg (by simp)]
      rw [e] at hpl
      rw [hpl]
      exact ⟨hO2, s2⟩
    | none =>
      rw [if_pos (show (!(Option.map V.int (none : Option Int)).isSome) = true from rfl)]
      refine ixT ha2 (x := .ref tt) rfl (ixT ht2 (x := .int xs[i]) ?_ ⟨_, gC, ixT ha2 (x := .int pl) rfl ⟨pl, rfl, c, rfl, upd H2 c (.dK (putK kc (Sum.inl (pl + (0 + (i : Int))) : Key) (.int xs[i]))), ?_, ?_⟩⟩)
      · exact at_pos (by rw [List.getElem?_map, List.getElem?_eq_getElem hi]; rfl)
      · refine DPut.k (k := (Sum.inl (pl + (0 + (i : Int))) : Key)) k3 ?_
        rw [k5]
        have : (cam (putAll v.line.came pl (xs.take i))).length = (putAll v.line.came pl (xs.take i)).length := by simp [cam]
        show (cam (putAll v.line.came pl (xs.take i))).length < sizeLine
        rw [this]
        exact Nat.lt_of_le_of_lt hc90 (by decide)
      · have e : putK kc (Sum.inl (pl + (0 + (i : Int))) : Key) (.int xs[i]) = cam (putAll v.line.came pl (xs.take (i + 1))) := by
          rw [k5, hpl, show pl + (0 + (i : Int)) = pl + (i : Int) by omega]
          exact cam_put el
        rw [e]
        have sP := Stp.put (o := .dK (cam (putAll v.line.came pl (xs.take (i + 1))))) k3 (fun xs z => nomatch z)
        exact ⟨hO2.put (cm := putAll v.line.came pl (xs.take (i + 1))) upd_same sP, (s2.trans sP).sub (by simp)⟩
  · obtain ⟨y4, rfl, hO2, s2⟩ := h
    rw [h32, Int.toNat_natCast, List.take_of_length_le (Nat.le_refl _)] at hO2
    refine q H2 y4 ?_ s2
    obtain ⟨kv, kc, k1, hK, k⟩ := id hO2
    exact ⟨kv, kc, k1, ⟨hK.pace, hK.beg, hK.came, hK.many, hK.goal, hK.quiet, hK.loud, hK.word, hK.k, hK.part, hK.held⟩, k⟩
end
end Mx

namespace Mx
open PySem L2
def d11 (a b c d e f g h i j k : V) : List (Key × V) := [(kS "pace", a), (kS "begin", b), (kS "came", c), (kS "many", d), (kS "goal", e), (kS "quiet", f), (kS "loud", g), (kS "word", h), (kS "k", i), (kS "part", j), (kS "held", k)]
theorem d11_merge (a b c d e f g h i j k : V) : mergeK (mergeK [] [(kS "pace", a), (kS "begin", b), (kS "came", c), (kS "many", d), (kS "goal", e), (kS "quiet", f)]) (mergeK [] [(kS "loud", g), (kS "word", h), (kS "k", i), (kS "part", j), (kS "held", k)]) = d11 a b c d e f g h i j k := by
  unfold d11
  simp only [mergeK, List.foldl_cons, List.foldl_nil, putK]
  simp [kS, ofString_inj]
theorem d11_pace (a b c d e f g h i j k : V) : valV (d11 a b c d e f g h i j k) (kS "pace") = some a := by
  unfold d11
  simp [valV, kS, ofString_inj]
theorem d11_begin (a b c d e f g h i j k : V) : valV (d11 a b c d e f g h i j k) (kS "begin") = some b := by
  unfold d11
  simp [valV, kS, ofString_inj]
theorem d11_came (a b c d e f g h i j k : V) : valV (d11 a b c d e f g h i j k) (kS "came") = some c := by
  unfold d11
  simp [valV, kS, ofString_inj]
theorem d11_many (a b c d e f g h i j k : V) : valV (d11 a b c d e f g h i j k) (kS "many") = some d := by
  unfold d11
  simp [valV, kS, ofString_inj]
theorem d11_goal (a b c d e f g h i j k : V) : valV (d11 a b c d e f g h i j k) (kS "goal") = some e := by
  unfold d11
  simp [valV, kS, ofString_inj]
theorem d11_quiet (a b c d e f g h i j k : V) : valV (d11 a b c d e f g h i j k) (kS "quiet") = some f := by
  unfold d11
  simp [valV, kS, ofString_inj]
theorem d11_loud (a b c d e f g h i j k : V) : valV (d11 a b c d e f g h i j k) (kS "loud") = some g := by
  unfold d11
  simp [valV, kS, ofString_inj]
theorem d11_word (a b c d e f g h i j k : V) : valV (d11 a b c d e f g h i j k) (kS "word") = some h := by
  unfold d11
  simp [valV, kS, ofString_inj]
theorem d11_k (a b c d e f g h i j k : V) : valV (d11 a b c d e f g h i j k) (kS "k") = some i := by
  unfold d11
  simp [valV, kS, ofString_inj]
theorem d11_part (a b c d e f g h i j k : V) : valV (d11 a b c d e f g h i j k) (kS "part") = some j := by
  unfold d11
  simp [valV, kS, ofString_inj]
theorem d11_held (a b c d e f g h i j k : V) : valV (d11 a b c d e f g h i j k) (kS "held") = some k := by
  unfold d11
  simp [valV, kS, ofString_inj]
theorem OMx.add {K : PySem.W.Frag} {H H' : Hp} {M dv lk : Addr} {s : MixS} {W : WD} {bv : Int → Nat} {F : List Addr} (h : OMx K H M dv lk s W bv) {n : Int} {A : VA} {v : VoiceS} {D C : Addr} (hn : n ∉ s.vs.map (·.1)) (g : Stp F H H') (hF : ∀ b ∈ F, b = dv) (hd : H' dv = some (.dK (vkv (s.vs ++ [(n, A, v)]) (W.put n (D, C)))))
    (hD : H D = none) (hC : H C = none) (ov : OwnV K H' D C v (bv n)) : OMx K H' M dv lk { s with vs := s.vs ++ [(n, A, v)] } (W.put n (D, C)) bv := by
  have hth := h.there
  have hnl := h.nel
  obtain ⟨⟨kv, h1, h1'⟩, h2, ⟨ls, h3, h4⟩, h5, h6, h7, h8, h9⟩ := h
  have hold : ∀ e ∈ s.vs, W.put n (D, C) e.1 = W e.1 := fun e he => if_neg fun z => hn (List.mem_map.mpr ⟨e, he, z⟩)
  have hnew : W.put n (D, C) n = (D, C) := if_pos rfl
  have hmm : ∀ f ∈ s.vs ++ [(n, A, v)], f ∈ s.vs ∨ f = (n, A, v) := fun f hf => by simpa using hf
  have hDf : D ∉ ofoot M dv lk s W := fun z => hth D z hD
  have hCf : C ∉ ofoot M dv lk s W := fun z => hth C z hC
  have hDC : D ≠ C := by obtain ⟨_, _, _, _, _, _, _, _, q⟩ := ov; exact q
  have hx : ∀ {e : MV}, e ∈ s.vs → (W e.1).1 ≠ D ∧ (W e.1).1 ≠ C ∧ (W e.1).2 ≠ D ∧ (W e.1).2 ≠ C := fun he => ⟨fun z => hDf (z ▸ ofoot_v he (.inl rfl)), fun z => hCf (z ▸ ofoot_v he (.inl rfl)), fun z => hDf (z ▸ ofoot_v he (.inr rfl)), fun z => hCf (z ▸ ofoot_v he (.inr rfl))⟩
  have inM : ∀ {b : Addr}, b ∉ ofoot M dv lk s W → b ≠ M ∧ b ≠ dv ∧ b ≠ lk := fun hb => ⟨fun z => hb (by rw [z]; simp [ofoot]), fun z => hb (by rw [z]; simp [ofoot]), fun z => hb (by rw [z]; simp [ofoot])⟩
  refine ⟨⟨kv, g.keep _ _ h1 fun z => h9 (hF _ z), h1'⟩, hd, ⟨ls, g.keep _ _ h3 fun z => hnl.2 (hF _ z).symm, pairs_st g h4⟩, fun f hf => ?_, fun f hf => ?_, fun f hf f' hf' => ?_, ?_, h9⟩
  · rcases hmm f hf with q | rfl
    · rw [hold f q]
      exact (h5 f q).st g (fun z => (h6 f q _ (.inl rfl)).2.1 (hF _ z)) (fun z => (h6 f q _ (.inr rfl)).2.1 (hF _ z))
    · show OwnV K H' (W.put n (D, C) n).1 (W.put n (D, C) n).2 v (bv n)
      rw [hnew]
      exact ov
  · rcases hmm f hf with q | rfl
    · rw [hold f q]
      exact h6 f q
    · show ∀ b, b = (W.put n (D, C) n).1 ∨ b = (W.put n (D, C) n).2 → _
      rw [hnew]
      intro b hb
      rcases hb with rfl | rfl
      · exact inM hDf
      · exact inM hCf
  · rcases hmm f hf with q | rfl <;> rcases hmm f' hf' with q' | rfl
    · rw [hold f q, hold f' q']
      exact h7 f q f' q'
    · show (W.put n (D, C) f.1).1 ≠ (W.put n (D, C) n).2 ∧ (f.1 ≠ n → (W.put n (D, C) f.1).1 ≠ (W.put n (D, C) n).1 ∧ (W.put n (D, C) f.1).2 ≠ (W.put n (D, C) n).2)
      rw [hold f q, hnew]
      exact ⟨(hx q).2.1, fun _ => ⟨(hx q).1, (hx q).2.2.2⟩⟩
    · show (W.put n (D, C) n).1 ≠ (W.put n (D, C) f'.1).2 ∧ (n ≠ f'.1 → (W.put n (D, C) n).1 ≠ (W.put n (D, C) f'.1).1 ∧ (W.put n (D, C) n).2 ≠ (W.put n (D, C) f'.1).2)
      rw [hold f' q', hnew]
      exact ⟨(hx q').2.2.1.symm, fun _ => ⟨(hx q').1.symm, (hx q').2.2.2.symm⟩⟩
    · show (W.put n (D, C) n).1 ≠ (W.put n (D, C) n).2 ∧ _
      rw [hnew]
      exact ⟨hDC, fun z => absurd rfl z⟩
  · show ((s.vs ++ [(n, A, v)]).map (·.1)).Nodup
    rw [List.map_append, List.nodup_append]
    exact ⟨h8, by simp, fun a ha b hb z => hn (by simp at hb; rw [← hb, ← z]; exact ha)⟩
set_option hygiene false in
local macro_rules | `(tactic| walk_at "rd") => `(tactic| try simp only [L2.start, List.map_cons, List.map_nil, List.length_cons, List.length_nil, Nat.reduceAdd, Nat.reduceSub, Nat.reduceLT, Nat.reduceLeDiff, List.replicate_succ, List.replicate_zero, List.append_nil, List.nil_append, List.cons_append, List.set_cons_zero, List.set_cons_succ, List.getElem?_cons_zero, List.getElem?_cons_succ,
  Option.some.injEq, List.cons.injEq, and_true, true_and, and_assoc, reduceCtorEq, L2.V.int.injEq, L2.V.ref.injEq, L2.V.bl.injEq, L2.V.str.injEq, L2.V.ty.injEq, L2.HO.ins.injEq, L2.HO.lst.injEq, L2.HO.tup.injEq, L2.HO.dK.injEq, exists_eq_left', exists_eq_left, exists_eq_right, exists_eq', exists_eq, exists_and_left, exists_and_right, reduceIte, Bool.false_eq_true, Bool.not_true, Bool.not_false,
  L2.tSeq, L2.tIfS, L2.tRet, L2.tRetN, L2.tNext, L2.tAsg, L2.gName, L2.tVar, L2.tC, L2.tCons, L2.tNil, L2.tCB, L2.tOp, L2.tUn, L2.tTup, L2.tLst, L2.tB, L2.tOr, L2.tAnd, L2.tNot, L2.tAndV, L2.tOrV, L2.tNotV, L2.tIf, L2.tTest, L2.tChain, L2.rI, L2.rI0, L2.rU, L2.tDrop, L2.tNever, L2.tCall, L2.tMeth, L2.tMake, L2.rGcd, L2.tFld, L2.sFld, L2.sFldAug, Mx.sFldA, Mx.sFldAugA, L2.rAdd, L2.rSub, L2.rEq, L2.rNe, L2.tDGet, L2.tDIn, L2.tDNotIn, L2.sDPut,
  Mx.isi_int_bool, Mx.isi_int_int, Mx.isi_int_tuple, Mx.isi_int_list, Mx.isi_int_str, Mx.scal_int, Mx.scal_str, Mx.scal_bl, Mx.ofString_inj, Mx.ofString_beq, Mx.lk_cons, Mx.pf_nil, Mx.pf_cons, Mx.sz1, Mx.sz2, List.lookup_nil, String.reduceEq, decide_true, decide_false, decide_eq_true_eq, Int.natAbs_natCast, L2.upd_same, L2.upd_upd, L2.cxOf, L2.gSub, L2.tPar, L2.gCons, L2.gNil, Mx.optV, L2.sDPut, L2.tDisp, L2.tPairs, L2.tDNewK, L2.tSl, L2.tPart])
set_option hygiene false in
local macro_rules | `(tactic| walk_at "rds") => `(tactic| try simp only [L2.start, List.map_cons, List.map_nil, List.length_cons, List.length_nil, Nat.reduceAdd, Nat.reduceSub, Nat.reduceLT, Nat.reduceLeDiff, List.replicate_succ, List.replicate_zero, List.append_nil, List.nil_append, List.cons_append, List.set_cons_zero, List.set_cons_succ, List.getElem?_cons_zero, List.getElem?_cons_succ,
  Option.some.injEq, List.cons.injEq, and_true, true_and, and_assoc, reduceCtorEq, L2.V.int.injEq, L2.V.ref.injEq, L2.V.bl.injEq, L2.V.str.injEq, L2.V.ty.injEq, L2.HO.ins.injEq, L2.HO.lst.injEq, L2.HO.tup.injEq, L2.HO.dK.injEq, exists_eq_left', exists_eq_left, exists_eq_right, exists_eq', exists_eq, exists_and_left, exists_and_right, reduceIte, Bool.false_eq_true, Bool.not_true, Bool.not_false,
  L2.tSeq, L2.tIfS, L2.tRet, L2.tRetN, L2.tNext, L2.tAsg, L2.gName, L2.tVar, L2.tC, L2.tCons, L2.tNil, L2.tCB, L2.tOp, L2.tUn, L2.tTup, L2.tLst, L2.tB, L2.tOr, L2.tAnd, L2.tNot, L2.tAndV, L2.tOrV, L2.tNotV, L2.tIf, L2.tTest, L2.tChain, L2.rI, L2.rI0, L2.rU, L2.tDrop, L2.tNever, L2.tCall, L2.tMeth, L2.tMake, L2.rGcd, L2.tFld, L2.sFld, L2.sFldAug, Mx.sFldA, Mx.sFldAugA, L2.rAdd, L2.rSub, L2.rEq, L2.rNe, L2.tDGet, L2.tDIn, L2.tDNotIn, L2.sDPut,
  Mx.isi_int_bool, Mx.isi_int_int, Mx.isi_int_tuple, Mx.isi_int_list, Mx.isi_int_str, Mx.scal_int, Mx.scal_str, Mx.scal_bl, Mx.ofString_inj, Mx.ofString_beq, Mx.lk_cons, Mx.pf_nil, Mx.pf_cons, Mx.sz1, Mx.sz2, List.lookup_nil, String.reduceEq, decide_true, decide_false, decide_eq_true_eq, Int.natAbs_natCast, L2.upd_same, L2.upd_upd, L2.cxOf, L2.gSub, L2.tPar, L2.gCons, L2.gNil, Mx.optV, L2.sDPut, L2.tDisp, L2.tPairs, L2.tDNewK, L2.tSl, L2.tPart, *])

section
variable {P : Program} {w : World} {K : PySem.W.Frag} {mg : Str → Option Value} {base : Heap}
theorem dAdd_ok (GS : OwnF P w K mg base "_law_share" 1 ["_law_top", "_law_bottom"] sp_ratio) {f : Addr} {cdv : Value} {A : Around} {outer : List Env} {s0 : Shared} {H : Hp} {E : XK} (hr : Room 6 (A.deeper (PyProof.Rows.envOfC "_law_do" (defScope s_law_do) s0.heap.objs.size f cdv))) :
    ∃ t, PSs (XDo P w K mg base f cdv A outer s0 H E) (ifThen ((defBody s_law_do).getD 2 pass0d)) t ∧ ∀ (D : Ends) (H1 : Hp) (M dv lk a : Addr) (s : MixS) (W : WD) (bv : Int → Nat) (n pn pb wt ld : Int) (x2 x3 x4 : Option V),
      TupAt K H1 a [.str "add", .int n, .int pn, .int pb, .int wt, .int ld] → OMx K H1 M dv lk s W bv → n ∉ s.vs.map (·.1) → s.vs.length ≤ 100 → 0 ≤ ld → ld ≤ 64 →
      (∀ D0 C0 H2, H1 D0 = none → H1 C0 = none → D0 ≠ C0 → (∀ A, OMx K H2 M dv lk { s with vs := s.vs ++ [(n, A, VoiceS.new pn pb (s.coming + wt) ld)] } (W.put n (D0, C0)) bv) → Stp [dv] H1 H2 → D.rt .non H2) → t D [some (.ref M), some (.ref a), x2, x3, x4] H1 := by
  have nd := sc_law_do.nd
  have hu := hu_of hr
  have r1 := hr.mono (show 1 ≤ 6 by decide)
  refine ⟨_, (pss_cons (ps_set (i := 3) nd rfl (.inl rfl) (pe_disp (pps_cons pe_str (pe_slice sl_tup (pv 1) (po_some pe_int) (po_some pe_int)) (pps_cons pe_str (pe_op op_add (pe_dget hu (pv 0) pe_str (fun _ _ => rfl)) (pe_ix ix_tup (pv 1) pe_int (fun _ _ => rfl))) (pps_cons pe_str pe_dnewK (pps_cons pe_str pe_non (pps_cons pe_str pe_non (pps_cons pe_str pe_bl pps_nil)))))) (by rfl) (by rfl) (by simp) (by decide)))
    (pss_cons (ps_expr (pe_bm PySem.F.plainAttrs_dict PySem.F.slot_dict_update PySem.F.type_dict_update mt_updD (pv 3) (pa_cons (pe_disp (pps_cons pe_str (p_call GS r1 (pa_cons (pe_ix ix_tup (pv 1) pe_int (fun _ _ => rfl)) (pa_cons pe_int pa_nil))) (pps_cons pe_str pe_str (pps_cons pe_str pe_int (pps_cons pe_str (pe_tup (pa_cons pe_int (pa_cons pe_int pa_nil))) (pps_cons pe_str (pe_tup (pa_cons pe_int (pa_cons pe_int pa_nil))) pps_nil))))) (by rfl) (by rfl) (by simp) (by decide)) pa_nil)))
    (pss_cons (ps_dput hu (pe_dget hu (pv 0) pe_str (fun _ _ => rfl)) (pe_ix ix_tup (pv 1) pe_int (fun _ _ => rfl)) (pv 3) (by rfl))
    (pss_one (ps_ret pe_non))))), ?_⟩
  intro D H1 M dv lk a s W bv n pn pb wt ld x2 x3 x4 ha hM hn hv6 l0 l1 q
  walk_at "rd"
  obtain ⟨kv, o1, oS, oT, oV, oL, ol⟩ := id hM.ob
  have hdv := hM.hdv
  intro D0 hD0
  have s1 := Stp.new (o := .dK []) hD0
  have e1 : upd H1 D0 (.dK []) D0 = some (.dK []) := upd_same
  have ha1 := ha.st s1
  generalize upd H1 D0 (.dK []) = H2 at *
  refine ⟨a, _, rfl, ha1.sq, (by show ¬ (HT.sIx 6 0 (some 2) = 0 ∧ HT.sIx 6 6 (some 4) = 6); decide), fun tp htp => ?_⟩
  have s2 := Stp.new (o := .tup (cutV [.str "add", .int n, .int pn, .int pb, .int wt, .int ld] (some 2) (some 4))) htp
  have e2 : upd H2 tp (.tup (cutV [.str "add", .int n, .int pn, .int pb, .int wt, .int ld] (some 2) (some 4))) tp = some (.tup [.int pn, .int pb]) := upd_same
  have e12 := s2.keep _ _ e1 (by simp)
  generalize upd H2 tp _ = H3 at *
  have s13 := s1.trans s2
  refine ⟨_, dgs (s13.keep _ _ o1 (by simp)) oT, ixT (ha.st s13) (x := .int wt) rfl ⟨_, rfl, _, rfl, fun C0 hC0 => ?_⟩⟩
  have s3 := Stp.new (o := .dK []) hC0
  have e3 : upd H3 C0 (.dK []) C0 = some (.dK []) := upd_same
  have e13 := s3.keep _ _ e12 (by simp)
  have hDC : D0 ≠ C0 := fun z => by rw [← z, e12] at hC0; cases hC0
  generalize upd H3 C0 (.dK []) = H4 at *
  refine ⟨e13, [(kS "pace", V.ref tp), (kS "begin", V.int (s.coming + wt)), (kS "came", V.ref C0), (kS "many", V.non), (kS "goal", V.non), (kS "quiet", V.bl false)], rfl, (by show 6 ≤ 15; decide), ?_⟩
  have s4 := Stp.put (o := .dK (mergeK [] [(kS "pace", V.ref tp), (kS "begin", V.int (s.coming + wt)), (kS "came", V.ref C0), (kS "many", V.non), (kS "goal", V.non), (kS "quiet", V.bl false)])) e13 (fun xs z => nomatch z)
  have e4 : upd H4 D0 (.dK (mergeK [] [(kS "pace", V.ref tp), (kS "begin", V.int (s.coming + wt)), (kS "came", V.ref C0), (kS "many", V.non), (kS "goal", V.non), (kS "quiet", V.bl false)])) D0 = some (.dK (mergeK [] [(kS "pace", V.ref tp), (kS "begin", V.int (s.coming + wt)), (kS "came", V.ref C0), (kS "many", V.non), (kS "goal", V.non), (kS "quiet", V.bl false)])) := upd_same
  have e34 := s4.keep _ _ e3 (by simpa using hDC.symm)
  have s14 : Stp [D0] H1 _ := (s13.trans (s3.trans s4)).sub (by simp)
  have e24 := (s3.trans s4).tup _ _ e2
  generalize upd H4 D0 _ = H5 at *
  refine ⟨_, rfl, .inr (.inr (.inl ⟨rfl, .inl ⟨_, e4⟩⟩)), fun U hU => ?_⟩
  have s5 := Stp.new (o := .dK []) hU
  have e5 : upd H5 U (.dK []) U = some (.dK []) := upd_same
  have hUD : D0 ≠ U := fun z => by rw [← z, e4] at hU; cases hU
  have hUC : C0 ≠ U := fun z => by rw [← z, e34] at hU; cases hU
  generalize upd H5 U (.dK []) = H6 at *
  walk_at "rd"
  have s15 := s14.trans s5
  have e46 := s5.keep _ _ e4 (by simp)
  refine ixT (ha.st s15) (x := .int ld) rfl ⟨ld, 64, rfl, by decide, Nat.lt_of_lt_of_le (show (64 : Int).natAbs < 2 ^ 7 by decide) (Nat.pow_le_pow_right (by decide) (by decide)), fun lp H7 hlp s6 l6 => ?_⟩
  intro p1 hp1
  have s7 := Stp.new (o := .tup [.int 0, .int 1]) hp1
  have e7 : upd H7 p1 (.tup [.int 0, .int 1]) p1 = some (.tup [.int 0, .int 1]) := upd_same
  generalize upd H7 p1 (.tup [.int 0, .int 1]) = H8 at *
  intro p2 hp2
  have s8 := Stp.new (o := .tup [.int 0, .int 1]) hp2
  have e8 : upd H8 p2 (.tup [.int 0, .int 1]) p2 = some (.tup [.int 0, .int 1]) := upd_same
  generalize upd H8 p2 (.tup [.int 0, .int 1]) = H9 at *
  have s69 := s6.trans (s7.trans s8)
  have e59 := s69.keep _ _ e5 (by simp)
  refine ⟨e59, [(kS "loud", V.ref lp), (kS "word", V.str wH), (kS "k", V.int 0), (kS "part", V.ref p1), (kS "held", V.ref p2)], rfl, (by show 5 ≤ 15; decide), ?_⟩
  have s9 := Stp.put (o := .dK (mergeK [] [(kS "loud", V.ref lp), (kS "word", V.str wH), (kS "k", V.int 0), (kS "part", V.ref p1), (kS "held", V.ref p2)])) e59 (fun xs z => nomatch z)
  have e9 : upd H9 U (.dK (mergeK [] [(kS "loud", V.ref lp), (kS "word", V.str wH), (kS "k", V.int 0), (kS "part", V.ref p1), (kS "held", V.ref p2)])) U = some (.dK (mergeK [] [(kS "loud", V.ref lp), (kS "word", V.str wH), (kS "k", V.int 0), (kS "part", V.ref p1), (kS "held", V.ref p2)])) := upd_same
  have e4a := s9.keep _ _ (s69.keep _ _ e46 (by simp)) (by simpa using hUD)
  generalize upd H9 U _ = H10 at *
  refine ⟨D0, U, _, _, rfl, rfl, hUD, e4a, e9, ?_, ?_⟩
  · refine Nat.le_trans (Nat.add_le_add (length_mergeK _ _) (length_mergeK _ _)) ?_
    show 0 + 6 + (0 + 5) ≤ sizeLine
    decide
  have k1 := d11_merge (V.ref tp) (V.int (s.coming + wt)) (V.ref C0) V.non V.non (V.bl false) (V.ref lp) (V.str wH) (V.int 0) (V.ref p1) (V.ref p2)
  rw [k1]
  have sA := Stp.put (o := .dK (d11 (V.ref tp) (V.int (s.coming + wt)) (V.ref C0) V.non V.non (V.bl false) (V.ref lp) (V.str wH) (V.int 0) (V.ref p1) (V.ref p2))) e4a (fun xs z => nomatch z)
  have eA : upd H10 D0 (.dK (d11 (V.ref tp) (V.int (s.coming + wt)) (V.ref C0) V.non V.non (V.bl false) (V.ref lp) (V.str wH) (V.int 0) (V.ref p1) (V.ref p2))) D0 = some (.dK (d11 (V.ref tp) (V.int (s.coming + wt)) (V.ref C0) V.non V.non (V.bl false) (V.ref lp) (V.str wH) (V.int 0) (V.ref p1) (V.ref p2))) := upd_same
  have s6A : Stp [U, D0] H6 _ := (s69.trans (s9.trans sA)).sub (by simp)
  have l6A := ((s7.trans s8).trans (s9.trans sA)).tup _ _ l6
  have e7A := (s8.trans (s9.trans sA)).tup _ _ e7
  have e8A := (s9.trans sA).tup _ _ e8
  have e3A := s6A.keep _ _ (s5.keep _ _ e34 (by simp)) (by simp [hDC.symm, hUC])
  have e2A := (s5.trans s6A).tup _ _ e24
  generalize upd H10 D0 _ = H11 at *
  have s1A : Stp [D0, U] H1 H11 := (s15.trans s6A).sub (by simp)
  have dM : M ≠ D0 ∧ dv ≠ D0 := ⟨fun z => (by rw [← z, o1] at hD0; cases hD0), fun z => (by rw [← z, hdv] at hD0; cases hD0)⟩
  have hU1 : H1 U = none := s14.free hU (by simpa using hUD.symm)
  have dU : M ≠ U ∧ dv ≠ U := ⟨fun z => (by rw [← z, o1] at hU1; cases hU1), fun z => (by rw [← z, hdv] at hU1; cases hU1)⟩
  have oA := s1A.keep _ _ o1 (by simp [dM.1, dU.1])
  have hdvA := s1A.keep _ _ hdv (by simp [dM.2, dU.2])
  refine ⟨_, dgs oA oV, ixT (ha.st s1A) (x := .int n) rfl ⟨dv, rfl, _, DPut.k (k := (Sum.inl n : Key)) hdvA ?_, ?_⟩⟩
  · unfold vkv
    rw [List.length_map]
    exact Nat.lt_of_le_of_lt hv6 (by decide)
  have eP := fun A : VA => vkv_put (A := A) (v := VoiceS.new pn pb (s.coming + wt) ld) (p := (D0, C0)) s.vs W hn
  have hC1 : H1 C0 = none := s13.free hC0 (by simp)
  have sB := Stp.put (o := .dK (putK (vkv s.vs W) (Sum.inl n : Key) (V.ref D0))) hdvA (fun xs z => nomatch z)
  refine q D0 C0 _ hD0 hC1 hDC (fun A => hM.add hn ((s1A.trans sB).subN (G := [dv]) ?_) (by simp) ?_ hD0 hC1 ?_) ((s1A.trans sB).subN ?_)
  · intro b hb
    simp only [List.mem_append, List.mem_cons, List.not_mem_nil, or_false] at hb
    rcases hb with (h | h) | h
    · exact .inr (h ▸ hD0)
    · exact .inr (h ▸ hU1)
    · exact .inl (by simp [h])
  · rw [← eP A]
    exact upd_same
  · have ne1 : D0 ≠ dv := dM.2.symm
    have ne2 : C0 ≠ dv := fun z => by rw [z, hdv] at hC1; cases hC1
    have lB := sB.tup _ _ l6A
    have b7 := sB.tup _ _ e7A
    have b8 := sB.tup _ _ e8A
    refine ⟨_, [], sB.keep _ _ eA (by simpa using ne1), ?_, sB.keep _ _ e3A (by simpa using ne2), fun i => rfl, rfl, by show 11 ≤ 30; decide, hDC⟩
    exact ⟨⟨tp, d11_pace .., sB.tup _ _ e2A⟩, d11_begin .., d11_came .., d11_many .., ⟨_, d11_goal .., .inl ⟨rfl, rfl⟩⟩, d11_quiet .., ⟨_, d11_loud .., isQ_of lB⟩, d11_word .., ⟨0, d11_k .., fun _ => rfl⟩, ⟨_, d11_part .., ⟨p1, rfl, .inl b7⟩⟩, ⟨_, d11_held .., fun z => absurd (show wH = wF from z) (by decide)⟩⟩
  · intro b hb
    simp only [List.mem_append, List.mem_cons, List.not_mem_nil, or_false] at hb
    rcases hb with (h | h) | h
    · exact .inr (h ▸ hD0)
    · exact .inr (h ▸ hU1)
    · exact .inl (by simp [h])
end
end Mx

namespace Mx
open PySem L2
def bvd (bv : Int → Nat) (n : Int) : VDeed → (Int → Nat)
  | .lead _ _ => fun i => if i = n then bv i + 6 else bv i
  | _ => bv
def OwnDone (K : PySem.W.Frag) (M dv lk : Addr) (s : MixS) (W : WD) (bv : Int → Nat) (H : Hp) (Q : VK) : Deed → Prop
  | .beat => MixOkV bv s ∧ (∀ e ∈ s.vs, 7 ≤ bv e.1 ∧ bv e.1 ≤ 1000) ∧ ∀ (r : V) (ys : List Int) (H' : Hp), ys.Perm s.names → ys.Pairwise (· ≤ ·) → IsQ K H' r (sumOf s ys) → OMx K H' M dv lk (s.beat ys) W bv → Stp (ofoot M dv lk s W) H H' → Q r H'
  | .add n pn pb wt ld => n ∉ s.vs.map (·.1) ∧ s.vs.length ≤ 100 ∧ 0 ≤ ld ∧ ld ≤ 64 ∧ ∀ D0 C0 H', H D0 = none → H C0 = none → D0 ≠ C0 → (∀ A, OMx K H' M dv lk { s with vs := s.vs ++ [(n, A, VoiceS.new pn pb (s.coming + wt) ld)] } (W.put n (D0, C0)) bv) → Stp [dv] H H' → Q .non H'
  | .vc n d => ∃ e ∈ s.vs, e.1 = n ∧ d.ok e.2.2 ∧ e.2.2.line.came.length ≤ 90000 ∧ VoiceOk (bv n) s.soft e.2.2 ∧ ∀ H', OMx K H' M dv lk { s with vs := setV s.vs n (d.go e.2.2) } W (bvd bv n d) → Stp [(W n).1, (W n).2] H H' → Q .non H'
def sp_own_do (K : PySem.W.Frag) : Sp := fun vs H Q _ => ∃ (M dv lk a : Addr) (s : MixS) (W : WD) (bv : Int → Nat) (dd : Deed), vs = [.ref M, .ref a] ∧ dd.at K H a ∧ OMx K H M dv lk s W bv ∧ OwnDone K M dv lk s W bv H Q dd
section
variable {K : PySem.W.Frag} {H H' : Hp} {d c : Addr} {v : VoiceS} {n : Nat}
/-- a put at one of the three keys -/
theorem OwnV.many (h : OwnV K H d c v n) {kv : List (Key × V)} (hk : H d = some (.dK kv)) {mn : Int} : OwnV K (upd H d (.dK (putK kv (kS "many") (.int mn)))) d c { v with line := { v.line with many := some mn } } n := by
  obtain ⟨kv', kc, h1, hK, h3, h4, h5, h6, hne⟩ := h
  rw [hk] at h1
  cases h1
  have g := Stp.put (o := .dK (putK kv (kS "many") (.int mn))) hk (fun xs z => nomatch z)
  have hlen : (putK kv (kS "many") (V.int mn)).length = kv.length := put_len hK.many
  have hK' := hK.st g
  obtain ⟨⟨tp, a1, a2⟩, b2, b3, b4, ⟨gv, g1, g2⟩, b6, ⟨lv, l1, l2⟩, b8, ⟨ik, k1, k2⟩, ⟨pv, q1, q2⟩, ⟨hv, r1, r2⟩⟩ := hK'
  have ne : ∀ {a : Str} {y : Option V}, valV kv (kS a) = y → kS a ≠ kS "many" → valV (putK kv (kS "many") (.int mn)) (kS a) = y := fun h n => vp h n
  exact ⟨_, kc, upd_same, ⟨⟨tp, ne a1 (by decide), a2⟩, ne b2 (by decide), ne b3 (by decide), vs, ⟨gv, ne g1 (by decide), g2⟩, ne b6 (by decide), ⟨lv, ne l1 (by decide), l2⟩, ne b8 (by decide), ⟨ik, ne k1 (by decide), k2⟩, ⟨pv, ne q1 (by decide), q2⟩, ⟨hv, ne r1 (by decide), r2⟩⟩, g.keep _ _ h3 (by simpa using hne.symm), h4, h5, by rw [hlen]; exact h6, hne⟩
theorem OwnV.quiet (h : OwnV K H d c v n) {kv : List (Key × V)} (hk : H d = some (.dK kv)) {b : Bool} : OwnV K (upd H d (.dK (putK kv (kS "quiet") (.bl (!b))))) d c { v with heard := b } n := by
  obtain ⟨kv', kc, h1, hK, h3, h4, h5, h6, hne⟩ := h
  rw [hk] at h1
  cases h1
  have g := Stp.put (o := .dK (putK kv (kS "quiet") (.bl (!b)))) hk (fun xs z => nomatch z)
  have hlen : (putK kv (kS "quiet") (V.bl (!b))).length = kv.length := put_len hK.quiet
  have hK' := hK.st g
  obtain ⟨⟨tp, a1, a2⟩, b2, b3, b4, ⟨gv, g1, g2⟩, b6, ⟨lv, l1, l2⟩, b8, ⟨ik, k1, k2⟩, ⟨pv, q1, q2⟩, ⟨hv, r1, r2⟩⟩ := hK'
  have ne : ∀ {a : Str} {y : Option V}, valV kv (kS a) = y → kS a ≠ kS "quiet" → valV (putK kv (kS "quiet") (.bl (!b))) (kS a) = y := fun h n => vp h n
  exact ⟨_, kc, upd_same, ⟨⟨tp, ne a1 (by decide), a2⟩, ne b2 (by decide), ne b3 (by decide), ne b4 (by decide), ⟨gv, ne g1 (by decide), g2⟩, vs, ⟨lv, ne l1 (by decide), l2⟩, ne b8 (by decide), ⟨ik, ne k1 (by decide), k2⟩, ⟨pv, ne q1 (by decide), q2⟩, ⟨hv, ne r1 (by decide), r2⟩⟩, g.keep _ _ h3 (by simpa using hne.symm), h4, h5, by rw [hlen]; exact h6, hne⟩
theorem OwnV.goal (h : OwnV K H d c v n) {kv : List (Key × V)} (hk : H d = some (.dK kv)) {x : V} {l b : Int} {m : Nat} (hG : GoalIs K H m x (v.loud.to l b)) : OwnV K (upd H d (.dK (putK kv (kS "goal") x))) d c { v with loud := v.loud.to l b } m := by
  obtain ⟨kv', kc, h1, hK, h3, h4, h5, h6, hne⟩ := h
  rw [hk] at h1
  cases h1
  have g := Stp.put (o := .dK (putK kv (kS "goal") x)) hk (fun xs z => nomatch z)
  obtain ⟨gv0, g01, g02⟩ := hK.goal
  have hlen : (putK kv (kS "goal") x).length = kv.length := put_len g01
  have hK' := hK.st g
  obtain ⟨⟨tp, a1, a2⟩, b2, b3, b4, _, b6, ⟨lv, l1, l2⟩, b8, ⟨ik, k1, k2⟩, ⟨pv, q1, q2⟩, ⟨hv, r1, r2⟩⟩ := hK'
  have ne : ∀ {a : Str} {y : Option V}, valV kv (kS a) = y → kS a ≠ kS "goal" → valV (putK kv (kS "goal") x) (kS a) = y := fun h n => vp h n
  exact ⟨_, kc, upd_same, ⟨⟨tp, ne a1 (by decide), a2⟩, ne b2 (by decide), ne b3 (by decide), ne b4 (by decide), ⟨x, vs, hG.st g⟩, ne b6 (by decide), ⟨lv, ne l1 (by decide), l2⟩, ne b8 (by decide), ⟨ik, ne k1 (by decide), k2⟩, ⟨pv, ne q1 (by decide), q2⟩, ⟨hv, ne r1 (by decide), r2⟩⟩, g.keep _ _ h3 (by simpa using hne.symm), h4, h5, by rw [hlen]; exact h6, hne⟩
end
set_option hygiene false in
local macro_rules | `(tactic| walk_at "rd") => `(tactic| try simp only [L2.start, List.map_cons, List.map_nil, List.length_cons, List.length_nil, Nat.reduceAdd, Nat.reduceSub, Nat.reduceLT, Nat.reduceLeDiff, List.replicate_succ, List.replicate_zero, List.append_nil, List.nil_append, List.cons_append, List.set_cons_zero, List.set_cons_succ, List.getElem?_cons_zero, List.getElem?_cons_succ,
  Option.some.injEq, List.cons.injEq, and_true, true_and, and_assoc, reduceCtorEq, L2.V.int.injEq, L2.V.ref.injEq, L2.V.bl.injEq, L2.V.str.injEq, L2.V.ty.injEq, L2.HO.ins.injEq, L2.HO.lst.injEq, L2.HO.tup.injEq, L2.HO.dK.injEq, exists_eq_left', exists_eq_left, exists_eq_right, exists_eq', exists_eq, exists_and_left, exists_and_right, reduceIte, Bool.false_eq_true, Bool.not_true, Bool.not_false,
  L2.tSeq, L2.tIfS, L2.tRet, L2.tRetN, L2.tNext, L2.tAsg, L2.gName, L2.tVar, L2.tC, L2.tCons, L2.tNil, L2.tCB, L2.tOp, L2.tUn, L2.tTup, L2.tLst, L2.tB, L2.tOr, L2.tAnd, L2.tNot, L2.tAndV, L2.tOrV, L2.tNotV, L2.tIf, L2.tTest, L2.tChain, L2.rI, L2.rI0, L2.rU, L2.tDrop, L2.tNever, L2.tCall, L2.tMeth, L2.tMake, L2.rGcd, L2.tFld, L2.sFld, L2.sFldAug, Mx.sFldA, Mx.sFldAugA, L2.rAdd, L2.rSub, L2.rEq, L2.rNe, L2.tDGet, L2.tDIn, L2.tDNotIn, L2.sDPut,
  Mx.isi_int_bool, Mx.isi_int_int, Mx.isi_int_tuple, Mx.isi_int_list, Mx.isi_int_str, Mx.scal_int, Mx.scal_str, Mx.scal_bl, Mx.ofString_inj, Mx.ofString_beq, Mx.lk_cons, Mx.pf_nil, Mx.pf_cons, Mx.sz1, Mx.sz2, List.lookup_nil, String.reduceEq, decide_true, decide_false, decide_eq_true_eq, Int.natAbs_natCast, L2.upd_same, L2.upd_upd, L2.cxOf, L2.gSub, L2.tPar, L2.gCons, L2.gNil, Mx.optV, L2.sDPut, L2.tDisp, L2.tPairs, L2.tDNewK, L2.tSl, L2.tPart])
set_option hygiene false in
local macro_rules | `(tactic| walk_at "rds") => `(tactic| try simp only [L2.start, List.map_cons, List.map_nil, List.length_cons, List.length_nil, Nat.reduceAdd, Nat.reduceSub, Nat.reduceLT, Nat.reduceLeDiff, List.replicate_succ, List.replicate_zero, List.append_nil, List.nil_append, List.cons_append, List.set_cons_zero, List.set_cons_succ, List.getElem?_cons_zero, List.getElem?_cons_succ,
  Option.some.injEq, List.cons.injEq, and_true, true_and, and_assoc, reduceCtorEq, L2.V.int.injEq, L2.V.ref.injEq, L2.V.bl.injEq, L2.V.str.injEq, L2.V.ty.injEq, L2.HO.ins.injEq, L2.HO.lst.injEq, L2.HO.tup.injEq, L2.HO.dK.injEq, exists_eq_left', exists_eq_left, exists_eq_right, exists_eq', exists_eq, exists_and_left, exists_and_right, reduceIte, Bool.false_eq_true, Bool.not_true, Bool.not_false,
  L2.tSeq, L2.tIfS, L2.tRet, L2.tRetN, L2.tNext, L2.tAsg, L2.gName, L2.tVar, L2.tC, L2.tCons, L2.tNil, L2.tCB, L2.tOp, L2.tUn, L2.tTup, L2.tLst, L2.tB, L2.tOr, L2.tAnd, L2.tNot, L2.tAndV, L2.tOrV, L2.tNotV, L2.tIf, L2.tTest, L2.tChain, L2.rI, L2.rI0, L2.rU, L2.tDrop, L2.tNever, L2.tCall, L2.tMeth, L2.tMake, L2.rGcd, L2.tFld, L2.sFld, L2.sFldAug, Mx.sFldA, Mx.sFldAugA, L2.rAdd, L2.rSub, L2.rEq, L2.rNe, L2.tDGet, L2.tDIn, L2.tDNotIn, L2.sDPut,
  Mx.isi_int_bool, Mx.isi_int_int, Mx.isi_int_tuple, Mx.isi_int_list, Mx.isi_int_str, Mx.scal_int, Mx.scal_str, Mx.scal_bl, Mx.ofString_inj, Mx.ofString_beq, Mx.lk_cons, Mx.pf_nil, Mx.pf_cons, Mx.sz1, Mx.sz2, List.lookup_nil, String.reduceEq, decide_true, decide_false, decide_eq_true_eq, Int.natAbs_natCast, L2.upd_same, L2.upd_upd, L2.cxOf, L2.gSub, L2.tPar, L2.gCons, L2.gNil, Mx.optV, L2.sDPut, L2.tDisp, L2.tPairs, L2.tDNewK, L2.tSl, L2.tPart, *])

section
variable {P : Program} {w : World} {K : PySem.W.Frag} {mg : Str → Option Value} {base : Heap}
theorem ok_law_do {f : Addr} {fd : FuncData} (F : Fun K "_law_do" "_law_do" s_law_do f fd) (B : Blt mg) (GB : OwnF P w K mg base "_law_beat" 6 ["_law_m"] (sp_own_beat K)) (GS : OwnF P w K mg base "_law_share" 1 ["_law_top", "_law_bottom"] sp_ratio) : FnOk P w K mg base CX0 7 f fd ["_law_m", "_law_deed_here"] (sp_own_do K) := by
  refine F.ok sc_law_do (fun vs H Q E h => ?_) (fun cdv A outer sh H vs Q E hr h => ?_)
  · obtain ⟨M, dv, lk, a, s, W, bv, dd, rfl, _⟩ := h
    rfl
  · obtain ⟨M, dv, lk, a, s, W, bv, dd, rfl, ha, hM, h⟩ := h
    have nd := sc_law_do.nd
    have hu := hu_of hr
    have r1 := hr.mono (show 1 ≤ 6 by decide)
    obtain ⟨tA, hA, qA⟩ := dAdd_ok GS (outer := outer) (H := H) (E := E) hr
    obtain ⟨tP, hP, qP⟩ := dPar_ok (P := P) (w := w) (K := K) (mg := mg) (base := base) B (outer := outer) (H := H) (E := E) hr
    refine ⟨_, (pss_cons (ps_set (i := 2) nd rfl (.inl rfl) (pe_ix ix_tup (pv 1) pe_int (fun _ _ => rfl)))
      (pss_cons (ps_if (pt_cmpR op_eq (pv 2) pe_str (nomark _)) (pss_one (ps_ret (p_call GB hr (pa_cons (pv 0) pa_nil)))) pss_nil)
      (pss_cons (ps_if (pt_cmpR op_eq (pv 2) pe_str (nomark _)) hA pss_nil)
      (pss_cons (ps_set (i := 3) nd rfl (.inl rfl) (pe_dget hu (pe_dget hu (pv 0) pe_str (fun _ _ => rfl)) (pe_ix ix_tup (pv 1) pe_int (fun _ _ => rfl)) (fun _ _ => rfl)))
      (pss_cons (ps_if (pt_cmpR op_eq (pv 2) pe_str (nomark _)) (pss_one hP)
        (pss_one (ps_if (pt_cmpR op_eq (pv 2) pe_str (nomark _)) (pss_one (ps_dput hu (pv 3) pe_str (pe_ix ix_tup (pv 1) pe_int (fun _ _ => rfl)) (by rfl)))
        (pss_one (ps_if (pt_cmpR op_eq (pv 2) pe_str (nomark _)) (pss_one (ps_dput hu (pv 3) pe_str (pe_tup (pa_cons (pe_dget hu (pv 3) pe_str (fun _ _ => rfl)) (pa_cons (p_call GS r1 (pa_cons (pe_ix ix_tup (pv 1) pe_int (fun _ _ => rfl)) (pa_cons pe_int pa_nil))) (pa_cons (pe_ix ix_tup (pv 1) pe_int (fun _ _ => rfl)) (pa_cons pe_int pa_nil))))) (by rfl)))
        (pss_one (ps_dput hu (pv 3) pe_str (pe_cmpR op_eq (pv 2) pe_str (nomark _)) (by rfl))))))))
      (pss_one (ps_ret pe_non))))))), ?_⟩
    walk_at "rd"
    cases dd with
    | beat =>
      obtain ⟨hO, hb, k⟩ := h
      refine ixT ha (x := .str "beat") rfl ?_
      walk_at "rd"
      exact ⟨M, dv, lk, s, W, bv, rfl, hM, hO, hb, k⟩
    | add n pn pb wt ld =>
      obtain ⟨hn, h6, l0, l1, k⟩ := h
      refine ixT ha (x := .str "add") rfl ?_
      walk_at "rd"
      exact qA _ H M dv lk a s W bv n pn pb wt ld _ _ _ ha hM hn h6 l0 l1 k
    | vc n d =>
      obtain ⟨e, he, rfl, hok, hlen, hV, k⟩ := h
      obtain ⟨kv, o1, oS, oT, oV, oL, ol⟩ := id hM.ob
      have gd := DGet.k (k := (Sum.inl e.1 : Key)) hM.hdv
      rw [vkv_get W he hM.nm] at gd
      have hO := hM.vo e he
      obtain ⟨kvo, kc, k1, hK, k3, k4, k5, k6, hne⟩ := id hO
      have hsz : kvo.length < sizeLine := Nat.lt_of_le_of_lt k6 (by decide)
      cases d with
      | par pl xs =>
        obtain ⟨tt, h1, h2⟩ := ha
        refine ixT h1 (x := .str "parcel") rfl ?_
        walk_at "rd"
        refine ⟨_, dgs o1 oV, ixT h1 (x := .int e.1) rfl ⟨dv, rfl, _, gd, ?_⟩⟩
        refine qP _ H a tt _ _ e.2.2 (bv e.1) e.1 pl xs _ _ _ h1 h2 hok.n1 hlen hO fun H2 y4 hO2 s2 => ?_
        exact k H2 (hM.turn (bv' := bvd bv e.1 (.par pl xs)) he (fun _ _ => rfl) s2 (by simp) hO2) (s2.sub (by simp))
      | fin mn =>
        refine ixT (xs := [.str "end", .int e.1, .int mn]) ha (x := .str "end") rfl ?_
        walk_at "rd"
        refine ⟨_, dgs o1 oV, ixT (xs := [.str "end", .int e.1, .int mn]) ha (x := .int e.1) rfl ⟨dv, rfl, _, gd, ixT (xs := [.str "end", .int e.1, .int mn]) ha (x := .int mn) rfl ⟨(W e.1).1, rfl, _, DPut.k (k := kS "many") k1 hsz, ?_⟩⟩⟩
        have g := Stp.put (o := .dK (putK kvo (kS "many") (.int mn))) k1 (fun xs z => nomatch z)
        exact k _ (hM.turn (bv' := bvd bv e.1 (.fin mn)) he (fun _ _ => rfl) g (by simp) (hO.many k1)) (g.sub (by simp))
      | lead l b =>
        refine ixT (xs := [.str "lead", .int e.1, .int l, .int b]) ha (x := .str "lead") rfl ?_
        walk_at "rd"
        obtain ⟨l0, l1, b0, b1⟩ := hok
        obtain ⟨lv, lv1, lv2⟩ := hK.loud
        obtain ⟨la, rfl, tla⟩ := id lv2
        refine ⟨_, dgs o1 oV, ixT (xs := [.str "lead", .int e.1, .int l, .int b]) ha (x := .int e.1) rfl ⟨dv, rfl, _, gd, (W e.1).1, rfl, _, dgs k1 lv1, ixT (xs := [.str "lead", .int e.1, .int l, .int b]) ha (x := .int l) rfl ⟨l, 64, rfl, by decide, Nat.lt_of_lt_of_le (show (64 : Int).natAbs < 2 ^ 7 by decide) (Nat.pow_le_pow_right (by decide) (by decide)), fun lp H7 hlp s6 l6 => ?_⟩⟩⟩
        have ha7 := TupAt.st (xs := [.str "lead", .int e.1, .int l, .int b]) ha s6
        refine ixT ha7 (x := .int b) rfl ⟨by decide, fun p hp => ⟨(W e.1).1, rfl, ?_⟩⟩
        have k17 := s6.keep _ _ k1 (by simp)
        have s7 := Stp.new (o := .tup [.ref la, .ref lp, .int b, .int 0]) hp
        have e7 : upd H7 p (.tup [.ref la, .ref lp, .int b, .int 0]) p = some (.tup (frac4 la lp b 0)) := upd_same
        have k18 := s7.keep _ _ k17 (by simp)
        have hO8 := (hO.st0 s6).st0 s7
        have tl8 := (tla.st s6).st s7
        have l68 := s7.tup _ _ l6
        generalize upd H7 p (.tup [.ref la, .ref lp, .int b, .int 0]) = H8 at *
        refine ⟨_, DPut.k (k := kS "goal") k18 hsz, ?_⟩
        have g := Stp.put (o := .dK (putK kvo (kS "goal") (.ref p))) k18 (fun xs z => nomatch z)
        have hlev : Rb (bv e.1) e.2.2.loud.level := by
          obtain ⟨D, a, b, hI, hD⟩ := hV.loud
          exact (hI.rb hD).1
        have hG : GoalIs K H8 (bvd bv e.1 (.lead l b) e.1) (.ref p) (e.2.2.loud.to l b) := by
          refine .inr ⟨p, la, lp, e.2.2.loud.level, mkRat l 64, b, 0, rfl, e7, tl8, .inl l68, b0, b1, Int.le_refl 0, by omega, by show b = b - 0; omega, rfl, ?_, hlev.mono ?_, Rb.of (by decide) (by omega) (by decide)⟩
          · show e.2.2.loud.level = e.2.2.loud.level + _
            rw [Rat.zero_mkRat]
            grind
          · show bv e.1 ≤ if e.1 = e.1 then bv e.1 + 6 else bv e.1
            rw [if_pos rfl]
            omega
        exact k _ (hM.turn (bv' := bvd bv e.1 (.lead l b)) he (fun i hi => if_neg hi) ((s6.trans (s7.trans g)).sub (G := [(W e.1).1]) (by simp)) (by simp) (hO8.goal k18 hG)) ((s6.trans (s7.trans g)).sub (by simp))
      | heard b =>
        cases b with
        | true =>
          refine ixT (xs := [.str "wake", .int e.1]) ha (x := .str "wake") rfl ?_
          walk_at "rd"
          refine ⟨_, dgs o1 oV, ixT (xs := [.str "wake", .int e.1]) ha (x := .int e.1) rfl ⟨dv, rfl, _, gd, (W e.1).1, rfl, _, DPut.k (k := kS "quiet") k1 hsz, ?_⟩⟩
          have g := Stp.put (o := .dK (putK kvo (kS "quiet") (.bl false))) k1 (fun xs z => nomatch z)
          exact k _ (hM.turn (bv' := bvd bv e.1 (.heard true)) he (fun _ _ => rfl) g (by simp) (hO.quiet (b := true) k1)) (g.sub (by simp))
        | false =>
          refine ixT (xs := [.str "hush", .int e.1]) ha (x := .str "hush") rfl ?_
          walk_at "rd"
          refine ⟨_, dgs o1 oV, ixT (xs := [.str "hush", .int e.1]) ha (x := .int e.1) rfl ⟨dv, rfl, _, gd, (W e.1).1, rfl, _, DPut.k (k := kS "quiet") k1 hsz, ?_⟩⟩
          have g := Stp.put (o := .dK (putK kvo (kS "quiet") (.bl true))) k1 (fun xs z => nomatch z)
          exact k _ (hM.turn (bv' := bvd bv e.1 (.heard false)) he (fun _ _ => rfl) g (by simp) (hO.quiet (b := false) k1)) (g.sub (by simp))
end
end Mx

namespace Mx
open PySem L2
theorem lc_rel {J : It} {n : Nat} {G : Hp → Prop} {Y : Nat → Hp → V → Hp → Prop} (w : Walk J n G Y) {F : List Addr} {H1 H9 : Hp} {i : Nat} {tt : TT} {te : TE} {σ : L2.St} {Q : VK} (Z : Hp → Prop) (R : Hp → Nat → V → Prop) (p : Nat → Bool) (YX : Nat → V → Prop)
    (z1 : Z H1) (hF : ∀ b ∈ F, H1 b ≠ none) (hz : ∀ D H H', H1 D = none → Z H → Stp [D] H H' → Stp F H1 H' → Z H') (hG : ∀ H, Z H → Stp F H1 H → G H) (hR : ∀ F' H H' j y, R H j y → Stp F' H H' → R H' j y) (hn : n ≤ 100000)
    (hY : ∀ j H x H', j < n → Y j H x H' → H' = H ∧ YX j x)
    (ht : ∀ j x H, j < n → YX j x → Z H → Stp F H1 H → ∀ Q' : Bool → Hp → Prop, (∀ H', Z H' → Stp F H1 H' → Stp F H H' → Q' (p j) H') → tt ((wipe σ [i]).set i (some x)) H Q')
    (he : ∀ j x H, j < n → YX j x → p j = true → Z H → Stp F H1 H → ∀ Q' : VK, (∀ y H', R H' j y → Z H' → Stp F H1 H' → Stp F H H' → Q' y H') → te ((wipe σ [i]).set i (some x)) H Q')
    (k : ∀ D H' ys, H1 D = none → Z H' → Stp F H1 H' → H' D = some (.lst ys) → Paired (R H') ((List.range n).filter p) ys → Q (.ref D) H') :
    tLc (fun _ _ R => R J H1) (gName i) tt te [i] σ H9 Q := by
  intro D hD
  have hDF : D ∉ F := fun z => hF D z hD
  refine lc_it w (fun m H => Z H ∧ Stp F H1 H ∧ ∃ ys, H D = some (.lst ys) ∧ Paired (R H) ((List.range m).filter p) ys) ⟨hz D _ _ hD z1 ((Stp.new hD).sub (by simp)) ((Stp.new hD).sub (by simp)), (Stp.new hD).sub (by simp), [], upd_same, .nil⟩ (fun m H _ h => hG H h.1 h.2.1) (fun m x H H' hm h hy => ?_) (fun H h => ?_)
  · obtain ⟨rfl, hx⟩ := hY m H x H' hm hy
    obtain ⟨z, sm, ys, hD2, hp⟩ := h
    refine ⟨wipe1, ?_⟩
    have ef : (List.range (m + 1)).filter p = (List.range m).filter p ++ if p m = true then [m] else [] := by
      rw [List.range_succ, List.filter_append]
      congr 1
      rw [List.filter_cons, List.filter_nil]
    refine ht m x _ hm hx z sm _ fun H2 z2 s2 s2' => ?_
    have hD3 := s2'.keep _ _ hD2 hDF
    have hp2 : Paired (R H2) ((List.range m).filter p) ys := pr_map (fun _ _ q => hR _ _ _ _ _ q s2') hp
    cases e : p m with
    | false =>
      rw [if_neg (by simp)]
      rw [e] at ef
      exact ⟨z2, s2, ys, hD3, by rw [ef]; simpa using hp2⟩
    | true =>
      rw [if_pos rfl]
      rw [e] at ef
      refine he m x _ hm hx e z2 s2 _ fun y H3 hy3 z3 s3 s3' => ?_
      have hD4 := s3'.keep _ _ hD3 hDF
      have sP := Stp.put (o := .lst (ys ++ [y])) hD4 (fun xs z => nomatch z)
      have sA : Stp F H1 (upd H3 D (.lst (ys ++ [y]))) := (s3.trans sP).subN fun b hb => by
        rcases List.mem_append.mp hb with q | q
        · exact .inl q
        · exact .inr (List.mem_singleton.mp q ▸ hD)
      refine ⟨ys, hD4, ?_, hz D _ _ hD z3 sP sA, sA, ys ++ [y], upd_same, ?_⟩
      · rw [← hp.length]
        exact Nat.lt_of_le_of_lt (Nat.le_trans (List.length_filter_le _ _) (by rw [List.length_range]; exact show m ≤ 100000 by omega)) (by decide)
      · rw [ef]
        exact (pr_map (fun _ _ q => hR _ _ _ _ _ q (s3'.trans sP)) hp2).snoc (hR _ _ _ _ _ hy3 sP)
  · obtain ⟨z, sm, ys, hD2, hp⟩ := h
    exact k D H ys hD z sm hD2 hp
/-- a comprehension that draws whole numbers, so many as a range tells -/
theorem lc_rowI {K : PySem.W.Frag} {r sc : Addr} {ns : List Int} {H1 : Hp} {n : Nat} {ta : TA} {i : Nat} {te : TE} {σ : L2.St} {Q : VK} (lo hi : Int) (hR : RowAt K H1 r sc ns) (hn : n ≤ 100000) (hta : ∀ R : List V → Hp → Prop, R [.int (n : Int)] H1 → ta σ H1 R)
    (he : ∀ x H, RowAt K H r sc ns → ∀ Q' : VK, (∀ v H', lo ≤ v → v ≤ hi → RowAt K H' r sc ns → Stp [r] H H' → Q' (.int v) H') → te ((wipe σ [i]).set i (some x)) H Q')
    (k : ∀ D H' (xs : List Int), H1 D = none → RowAt K H' r sc ns → Stp [r] H1 H' → H' D = some (.lst (xs.map V.int)) → xs.length = n → (∀ v ∈ xs, lo ≤ v ∧ v ≤ hi) → Q (.ref D) H') :
    tLc (iRng1 ta) (gName i) tYes te [i] σ H1 Q := by
  refine hta _ ⟨_, rfl, by omega, by omega, ?_⟩
  refine lc_rel (H9 := H1) (walk_range (lo := 0) (n := n)) (F := [r]) (Z := fun H => RowAt K H r sc ns) (R := fun _ _ y => ∃ v : Int, y = .int v ∧ lo ≤ v ∧ v ≤ hi) (p := fun _ => true) (YX := fun _ _ => True) hR ?_ ?_ (fun _ _ _ => trivial) (fun _ _ _ _ _ h _ => h) hn (fun j H x H' _ h => ⟨h.1, trivial⟩) (fun j x H _ _ z s Q' q => q H z s (Stp.refl.sub (by simp))) (fun j x H _ _ _ z s Q' q => ?_) fun D H' ys hD z s hl hp => ?_
  · intro b hb
    rw [List.mem_singleton.mp hb]
    obtain ⟨_, _, _, _, _, z, _⟩ := hR
    rw [z]
    exact nofun
  · intro D H H' hD z s s0
    exact row_mv hR z s (by simpa using (row_ne hR hD).symm) s0
  · exact he x H z Q' fun v H' v0 v1 hR' s' => q _ H' ⟨v, rfl, v0, v1⟩ hR' ((s.trans s').sub (by simp)) s'
  · have : ∀ {js : List Nat} {ys : List V}, Paired (fun (_ : Nat) y => ∃ v : Int, y = .int v ∧ lo ≤ v ∧ v ≤ hi) js ys → ∃ xs : List Int, ys = xs.map V.int ∧ xs.length = js.length ∧ ∀ v ∈ xs, lo ≤ v ∧ v ≤ hi := by
      intro js ys h
      induction h with
      | nil => exact ⟨[], rfl, rfl, by simp⟩
      | cons h _ ih =>
        obtain ⟨v, rfl, v0, v1⟩ := h
        obtain ⟨xs, rfl, e, q⟩ := ih
        refine ⟨v :: xs, rfl, by simp [e], fun u hu => ?_⟩
        rcases List.mem_cons.mp hu with rfl | hu
        · exact ⟨v0, v1⟩
        · exact q u hu
    obtain ⟨xs, rfl, e, q⟩ := this hp
    refine k D H' xs hD z s hl ?_ q
    rw [e, List.filter_eq_self.mpr (fun _ _ => rfl), List.length_range]
/-- pairs of whole numbers over a range -/
theorem lc_pairs {H1 : Hp} {n : Nat} {ta : TA} {i : Nat} {te : TE} {σ : L2.St} {Q : VK} (f g : Nat → Int) (hn : n ≤ 100000) (hta : ∀ R : List V → Hp → Prop, R [.int (n : Int)] H1 → ta σ H1 R)
    (he : ∀ (j : Nat) H, j < n → ∀ Q' : VK, (∀ t H', H' t = some (.tup [.int (f j), .int (g j)]) → Stp [] H H' → Q' (.ref t) H') → te ((wipe σ [i]).set i (some (.int (0 + (j : Int))))) H Q')
    (k : ∀ D H' (ts : List Addr), H1 D = none → Stp [] H1 H' → H' D = some (.lst (ts.map V.ref)) → Paired (fun (j : Nat) t => H' t = some (.tup [.int (f j), .int (g j)])) (List.range n) ts → Q (.ref D) H') :
    tLc (iRng1 ta) (gName i) tYes te [i] σ H1 Q := by
  refine hta _ ⟨_, rfl, by omega, by omega, ?_⟩
  refine lc_rel (H9 := H1) (walk_range (lo := 0) (n := n)) (F := []) (Z := fun _ => True) (R := fun H j y => ∃ t, y = .ref t ∧ H t = some (.tup [.int (f j), .int (g j)])) (p := fun _ => true) (YX := fun j x => x = .int (0 + (j : Int))) trivial (by simp) (fun _ _ _ _ _ _ _ => trivial) (fun _ _ _ => trivial) (fun F' H H' j y h s => ?_) hn (fun j H x H' _ h => h) (fun j x H _ _ z s Q' q => q H trivial s Stp.refl) (fun j x H hj hx _ z s Q' q => ?_) fun D H' ys hD z s hl hp => ?_
  · obtain ⟨t, rfl, h⟩ := h
    exact ⟨t, rfl, s.tup _ _ h⟩
  · subst hx
    exact he j H hj Q' fun t H' h s' => q _ H' ⟨t, rfl, h⟩ trivial (s.trans s') s'
  · rw [List.filter_eq_self.mpr (fun _ _ => rfl)] at hp
    have : ∀ {js : List Nat} {ys : List V}, Paired (fun (j : Nat) y => ∃ t, y = .ref t ∧ H' t = some (.tup [.int (f j), .int (g j)])) js ys → ∃ ts : List Addr, ys = ts.map V.ref ∧ Paired (fun (j : Nat) t => H' t = some (.tup [.int (f j), .int (g j)])) js ts := by
      intro js ys h
      induction h with
      | nil => exact ⟨[], rfl, .nil⟩
      | cons h _ ih =>
        obtain ⟨t, rfl, h⟩ := h
        obtain ⟨ts, rfl, q⟩ := ih
        exact ⟨t :: ts, rfl, .cons h q⟩
    obtain ⟨ts, rfl, q⟩ := this hp
    exact k D H' ts hD s hl q
end Mx
namespace Mx
open PySem L2
/-- a comprehension over a dict's keys -/
theorem lc_keysR {d : Addr} {o : Obj} {kvs : List (Key × V)} {F : List Addr} {H1 : Hp} {i v : Nat} {tt : TT} {te : TE} {σ : L2.St} {Q : VK} (hv : σ[v]? = some (some (.ref d))) (hd : H1 d = some (.frz o (.dK kvs))) (hdF : d ∉ F) (Z : Hp → Prop) (R : Hp → Nat → V → Prop) (p : Nat → Bool)
    (z1 : Z H1) (hF : ∀ b ∈ F, H1 b ≠ none) (hz : ∀ D H H', H1 D = none → Z H → Stp [D] H H' → Stp F H1 H' → Z H') (hR : ∀ F' H H' j y, R H j y → Stp F' H H' → R H' j y) (hn : kvs.length ≤ 100000)
    (ht : ∀ j k w H, kvs[j]? = some (k, w) → Z H → Stp F H1 H → ∀ Q' : Bool → Hp → Prop, (∀ H', Z H' → Stp F H1 H' → Stp F H H' → Q' (p j) H') → tt ((wipe σ [i]).set i (some (kV k))) H Q')
    (he : ∀ j k w H, kvs[j]? = some (k, w) → p j = true → Z H → Stp F H1 H → ∀ Q' : VK, (∀ y H', R H' j y → Z H' → Stp F H1 H' → Stp F H H' → Q' y H') → te ((wipe σ [i]).set i (some (kV k))) H Q')
    (k : ∀ D H' ys, H1 D = none → Z H' → Stp F H1 H' → H' D = some (.lst ys) → Paired (R H') ((List.range kvs.length).filter p) ys → Q (.ref D) H') :
    tLc (iKeys (tVar v)) (gName i) tt te [i] σ H1 Q := by
  refine ⟨_, hv, d, o, rfl, .inl ⟨kvs, hd, ?_⟩⟩
  refine lc_rel (H9 := H1) (Q := Q) walk_keys (F := F) Z R p (fun j x => ∃ k w, kvs[j]? = some (k, w) ∧ x = kV k) z1 hF hz (fun H _ s => s.keep _ _ hd hdF) hR hn (fun j H x H' _ hy => ?_) (fun j x H _ hx z s Q' qq => ?_) (fun j x H _ hx hp z s Q' qq => ?_) k
  · obtain ⟨e, kk, w, hk, hx⟩ := hy
    exact ⟨e, kk, w, hk, hx⟩
  · obtain ⟨kk, w, hk, rfl⟩ := hx
    exact ht j kk w H hk z s Q' qq
  · obtain ⟨kk, w, hk, rfl⟩ := hx
    exact he j kk w H hk hp z s Q' qq
end Mx

namespace Mx
open PySem L2
/-- the same but for what the voices hold -/
structure Lk (m d k : Addr) (s s' : MixS) : Prop where
  nm : s'.names = s.names
  ft : s'.foot m d k = s.foot m d k
  co : s'.coming = s.coming
  la : s'.lacked = s.lacked
  so : s'.soft = s.soft
theorem Lk.refl {m d k : Addr} {s : MixS} : Lk m d k s s := ⟨rfl, rfl, rfl, rfl, rfl⟩
theorem Lk.trans {m d k : Addr} {s s' s'' : MixS} (a : Lk m d k s s') (b : Lk m d k s' s'') : Lk m d k s s'' := ⟨b.nm.trans a.nm, b.ft.trans a.ft, b.co.trans a.co, b.la.trans a.la, b.so.trans a.so⟩
theorem Lk.set (m d k : Addr) (s : MixS) (n : Int) (v : VoiceS) : Lk m d k s { s with vs := setV s.vs n v } := ⟨setV_names _ _ _, foot_set _ _ _ _ _ _, rfl, rfl, rfl⟩
theorem vkv_names {vs vs' : List MV} (W : WD) (h : vs'.map (·.1) = vs.map (·.1)) : vkv vs' W = vkv vs W := by
  have e : ∀ l : List MV, vkv l W = (l.map (·.1)).map fun n => ((Sum.inl n : Key), V.ref (W n).1) := fun l => by
    unfold vkv
    rw [List.map_map]
    rfl
  rw [e, e, h]
def Rw (K : PySem.W.Frag) (Hb : Hp) (r sc : Addr) (ns : List Int) (H : Hp) : Prop := RowAt K H r sc ns ∧ Stp [r] Hb H
theorem row_there {K : PySem.W.Frag} {H : Hp} {r sc : Addr} {ns : List Int} (h : RowAt K H r sc ns) : H r ≠ none := by
  obtain ⟨_, _, _, _, _, z, _⟩ := h
  rw [z]
  exact nofun
theorem Rw.mv {K : PySem.W.Frag} {Hb H H' : Hp} {r sc : Addr} {ns : List Int} {F : List Addr} (h : Rw K Hb r sc ns H) (hb : RowAt K Hb r sc ns) (s : Stp F H H') (hF : ∀ b ∈ F, Hb b = none) : Rw K Hb r sc ns H' := by
  have sF : Stp [r] Hb H' := (h.2.trans s).subN fun b hb' => by
    rcases List.mem_append.mp hb' with z | z
    · exact .inl z
    · exact .inr (hF b z)
  exact ⟨row_mv hb h.1 s (fun z => row_there hb (hF r z)) sF, sF⟩
theorem Rw.st0 {K : PySem.W.Frag} {Hb H H' : Hp} {r sc : Addr} {ns : List Int} (h : Rw K Hb r sc ns H) (hb : RowAt K Hb r sc ns) (s : Stp [] H H') : Rw K Hb r sc ns H' := h.mv hb s (by simp)
theorem Rw.go {K : PySem.W.Frag} {Hb H H' : Hp} {r sc : Addr} {ns : List Int} (h : Rw K Hb r sc ns H) (h' : RowAt K H' r sc ns) (s : Stp [r] H H') : Rw K Hb r sc ns H' := ⟨h', (h.2.trans s).sub (by simp)⟩
theorem Rw.fr {K : PySem.W.Frag} {Hb H : Hp} {r sc : Addr} {ns : List Int} (h : Rw K Hb r sc ns H) {b : Addr} (hb : H b = none) : Hb b = none := by
  refine h.2.free hb fun z => ?_
  rw [List.mem_singleton.mp z] at hb
  exact row_there h.1 hb
/-- nothing of the mixer and of the law's voices was there at the begin -/
structure Fr (Hb : Hp) (m d k : Addr) (s : MixS) (W : WD) : Prop where
  ft : ∀ b ∈ s.foot m d k, Hb b = none
  ow : ∀ b ∈ own W s.names, Hb b = none
theorem Fr.lk {Hb : Hp} {m d k : Addr} {s s' : MixS} {W : WD} (h : Fr Hb m d k s W) (l : Lk m d k s s') : Fr Hb m d k s' W := ⟨by rw [l.ft]; exact h.ft, by rw [l.nm]; exact h.ow⟩
section
variable {K : PySem.W.Frag} {cs : Cs} {H H' : Hp} {m d k : Addr} {s : MixS} {W : WD} {B : Nat} {X F : List Addr}
theorem Bth.up (h : Bth K cs H m d k s W B X) {B' : Nat} (l : B ≤ B') : Bth K cs H m d k s W B' X := by
  obtain ⟨h1, h2, h3, h4, h5, h6, h7⟩ := h
  exact ⟨h1, fun e he => (h2 e he).up l, h3, h4, h5, fun e he => ⟨(h6 e he).1, Nat.le_trans (h6 e he).2.1 l, (h6 e he).2.2⟩, h7⟩
theorem Bth.xo (h : Bth K cs H m d k s W B X) {b : Addr} (hb : b ∈ X) : b ∉ s.foot m d k ∧ b ∉ own W s.names := by
  refine ⟨(h.xa b hb).1, fun z => ?_⟩
  obtain ⟨n, hn, q⟩ := own_or z
  obtain ⟨e, he, rfl⟩ := List.mem_map.mp hn
  rcases q with q | q
  · exact ((h.xa b hb).2 e he).1 q
  · exact ((h.xa b hb).2 e he).2 q
end
/-- a comprehension over a range -/
theorem lc_rng {n : Int} {F : List Addr} {H1 : Hp} {ta : TA} {i : Nat} {tt : TT} {te : TE} {σ : L2.St} {Q : VK} (Z : Hp → Prop) (R : Hp → Nat → V → Prop) (p : Nat → Bool) (hn0 : -100000 ≤ n) (hn : n ≤ 100000) (hta : ∀ R : List V → Hp → Prop, R [.int n] H1 → ta σ H1 R)
    (z1 : Z H1) (hF : ∀ b ∈ F, H1 b ≠ none) (hz : ∀ D H H', H1 D = none → Z H → Stp [D] H H' → Stp F H1 H' → Z H') (hR : ∀ F' H H' j y, R H j y → Stp F' H H' → R H' j y)
    (ht : ∀ (j : Nat) H, j < n.toNat → Z H → Stp F H1 H → ∀ Q' : Bool → Hp → Prop, (∀ H', Z H' → Stp F H1 H' → Stp F H H' → Q' (p j) H') → tt ((wipe σ [i]).set i (some (.int (0 + (j : Int))))) H Q')
    (he : ∀ (j : Nat) H, j < n.toNat → p j = true → Z H → Stp F H1 H → ∀ Q' : VK, (∀ y H', R H' j y → Z H' → Stp F H1 H' → Stp F H H' → Q' y H') → te ((wipe σ [i]).set i (some (.int (0 + (j : Int))))) H Q')
    (k : ∀ D H' ys, H1 D = none → Z H' → Stp F H1 H' → H' D = some (.lst ys) → Paired (R H') ((List.range n.toNat).filter p) ys → Q (.ref D) H') :
    tLc (iRng1 ta) (gName i) tt te [i] σ H1 Q := by
  refine hta _ ⟨n, rfl, by omega, by omega, ?_⟩
  refine lc_rel (H9 := H1) (walk_range (lo := 0) (n := n.toNat)) (F := F) Z R p (fun j x => x = .int (0 + (j : Int))) z1 hF hz (fun _ _ _ => trivial) hR (by omega) (fun j H x H' _ h => h) (fun j x H hj hx z s Q' q => ?_) (fun j x H hj hx hp z s Q' q => ?_) k
  · subst hx
    exact ht j H hj z s Q' q
  · subst hx
    exact he j H hj hp z s Q' q
/-- a comprehension over a dict's keys, the dict being what an expression tells -/
theorem lc_keysE {d : Addr} {o : Obj} {kvs : List (Key × V)} {F : List Addr} {H1 : Hp} {i : Nat} {td : TE} {tt : TT} {te : TE} {σ : L2.St} {Q : VK} (hv : ∀ R : VK, R (.ref d) H1 → td σ H1 R) (hd : H1 d = some (.frz o (.dK kvs))) (hdF : d ∉ F) (Z : Hp → Prop) (R : Hp → Nat → V → Prop) (p : Nat → Bool)
    (z1 : Z H1) (hF : ∀ b ∈ F, H1 b ≠ none) (hz : ∀ D H H', H1 D = none → Z H → Stp [D] H H' → Stp F H1 H' → Z H') (hR : ∀ F' H H' j y, R H j y → Stp F' H H' → R H' j y) (hn : kvs.length ≤ 100000)
    (ht : ∀ j k w H, kvs[j]? = some (k, w) → Z H → Stp F H1 H → ∀ Q' : Bool → Hp → Prop, (∀ H', Z H' → Stp F H1 H' → Stp F H H' → Q' (p j) H') → tt ((wipe σ [i]).set i (some (kV k))) H Q')
    (he : ∀ j k w H, kvs[j]? = some (k, w) → p j = true → Z H → Stp F H1 H → ∀ Q' : VK, (∀ y H', R H' j y → Z H' → Stp F H1 H' → Stp F H H' → Q' y H') → te ((wipe σ [i]).set i (some (kV k))) H Q')
    (k : ∀ D H' ys, H1 D = none → Z H' → Stp F H1 H' → H' D = some (.lst ys) → Paired (R H') ((List.range kvs.length).filter p) ys → Q (.ref D) H') :
    tLc (iKeys td) (gName i) tt te [i] σ H1 Q := by
  refine hv _ ⟨d, o, rfl, .inl ⟨kvs, hd, ?_⟩⟩
  refine lc_rel (H9 := H1) (Q := Q) walk_keys (F := F) Z R p (fun j x => ∃ k w, kvs[j]? = some (k, w) ∧ x = kV k) z1 hF hz (fun H _ s => s.keep _ _ hd hdF) hR hn (fun j H x H' _ hy => ?_) (fun j x H _ hx z s Q' qq => ?_) (fun j x H _ hx hp z s Q' qq => ?_) k
  · obtain ⟨e, kk, w, hk, hx⟩ := hy
    exact ⟨e, kk, w, hk, hx⟩
  · obtain ⟨kk, w, hk, rfl⟩ := hx
    exact ht j kk w H hk z s Q' qq
  · obtain ⟨kk, w, hk, rfl⟩ := hx
    exact he j kk w H hk hp z s Q' qq
/-- a comprehension that draws whole numbers, so many as a range tells, none if below nothing -/
theorem lc_rowZ {K : PySem.W.Frag} {r sc : Addr} {ns : List Int} {H1 : Hp} {n : Int} {ta : TA} {i : Nat} {te : TE} {σ : L2.St} {Q : VK} (lo hi : Int) (hR : RowAt K H1 r sc ns) (hn0 : -100000 ≤ n) (hn : n ≤ 100000) (hta : ∀ R : List V → Hp → Prop, R [.int n] H1 → ta σ H1 R)
    (he : ∀ x H, RowAt K H r sc ns → ∀ Q' : VK, (∀ v H', lo ≤ v → v ≤ hi → RowAt K H' r sc ns → Stp [r] H H' → Q' (.int v) H') → te ((wipe σ [i]).set i (some x)) H Q')
    (k : ∀ D H' (xs : List Int), H1 D = none → RowAt K H' r sc ns → Stp [r] H1 H' → H' D = some (.lst (xs.map V.int)) → xs.length = n.toNat → (∀ v ∈ xs, lo ≤ v ∧ v ≤ hi) → Q (.ref D) H') :
    tLc (iRng1 ta) (gName i) tYes te [i] σ H1 Q := by
  refine lc_rng (F := [r]) (fun H => RowAt K H r sc ns) (fun _ _ y => ∃ v : Int, y = .int v ∧ lo ≤ v ∧ v ≤ hi) (fun _ => true) hn0 hn hta hR ?_ ?_ (fun _ _ _ _ _ h _ => h) (fun j H _ z s Q' q => q H z s (Stp.refl.sub (by simp))) (fun j H _ _ z s Q' q => ?_) fun D H' ys hD z s hl hp => ?_
  · intro b hb
    rw [List.mem_singleton.mp hb]
    obtain ⟨_, _, _, _, _, z, _⟩ := hR
    rw [z]
    exact nofun
  · intro D H H' hD z s s0
    exact row_mv hR z s (by simpa using (row_ne hR hD).symm) s0
  · exact he _ H z Q' fun v H' v0 v1 hR' s' => q _ H' ⟨v, rfl, v0, v1⟩ hR' ((s.trans s').sub (by simp)) s'
  · have : ∀ {js : List Nat} {ys : List V}, Paired (fun (_ : Nat) y => ∃ v : Int, y = .int v ∧ lo ≤ v ∧ v ≤ hi) js ys → ∃ xs : List Int, ys = xs.map V.int ∧ xs.length = js.length ∧ ∀ v ∈ xs, lo ≤ v ∧ v ≤ hi := by
      intro js ys h
      induction h with
      | nil => exact ⟨[], rfl, rfl, by simp⟩
      | cons h _ ih =>
        obtain ⟨v, rfl, v0, v1⟩ := h
        obtain ⟨xs, rfl, e, q⟩ := ih
        refine ⟨v :: xs, rfl, by simp [e], fun u hu => ?_⟩
        rcases List.mem_cons.mp hu with rfl | hu
        · exact ⟨v0, v1⟩
        · exact q u hu
    obtain ⟨xs, rfl, e, q⟩ := this hp
    refine k D H' xs hD z s hl ?_ q
    rw [e, List.filter_eq_self.mpr (fun _ _ => rfl), List.length_range]
end Mx

namespace Mx
open PySem L2
def Legal (s : MixS) : Deed → Prop
  | .beat => True
  | .add n pn pb wt ld => n ∉ s.vs.map (·.1) ∧ 0 ≤ n ∧ n ≤ 5 ∧ 1 ≤ pn ∧ pn ≤ 8 ∧ 1 ≤ pb ∧ pb ≤ 8 ∧ 0 ≤ wt ∧ wt ≤ 64 ∧ 0 ≤ ld ∧ ld ≤ 64
  | .vc n d => ∃ e ∈ s.vs, e.1 = n ∧ d.ok e.2.2
theorem sorted_eq {xs ys zs : List Int} (p : xs.Perm zs) (h : xs.Pairwise (· ≤ ·)) (p' : ys.Perm zs) (h' : ys.Pairwise (· ≤ ·)) : xs = ys := List.Perm.eq_of_pairwise (fun a b _ _ h1 h2 => by omega) h h' (p.trans p'.symm)
def freeN (s : MixS) : List Int := ((List.range 6).filter fun j : Nat => !decide ((j : Int) ∈ s.vs.map (·.1))).map fun j : Nat => (j : Int)
theorem nd_len : ∀ {xs ys : List Int}, xs.Nodup → (∀ x ∈ xs, x ∈ ys) → xs.length ≤ ys.length
  | [], _, _, _ => Nat.zero_le _
  | x :: r, ys, h, q => by
    rw [List.nodup_cons] at h
    have hx := q x List.mem_cons_self
    have := nd_len (ys := ys.erase x) h.2 fun y hy => (List.mem_erase_of_ne (a := y) (b := x) fun z => h.1 (by rw [← z]; exact hy)).mpr (q y (List.mem_cons_of_mem _ hy))
    rw [List.length_erase_of_mem hx] at this
    have := List.length_pos_of_mem hx
    rw [List.length_cons]
    omega
theorem freeN_mem {s : MixS} {n : Int} (h : n ∈ freeN s) : n ∉ s.vs.map (·.1) ∧ 0 ≤ n ∧ n ≤ 5 := by
  obtain ⟨j, hj, rfl⟩ := List.mem_map.mp h
  obtain ⟨h1, h2⟩ := List.mem_filter.mp hj
  have := List.mem_range.mp h1
  refine ⟨by simpa using h2, by omega, by omega⟩
theorem freeN_pos {s : MixS} (h : s.vs.length < 6) : 1 ≤ (freeN s).length := by
  refine Nat.pos_of_ne_zero fun z => ?_
  have e : freeN s = [] := List.length_eq_zero_iff.mp z
  have hall : ∀ j, j ∈ List.range 6 → (j : Int) ∈ s.vs.map (·.1) := fun j hj => by
    refine Classical.byContradiction fun hn => ?_
    have : (j : Int) ∈ freeN s := List.mem_map.mpr ⟨j, List.mem_filter.mpr ⟨hj, by rw [decide_eq_false hn]; rfl⟩, rfl⟩
    rw [e] at this
    cases this
  have hsub : ∀ x ∈ ((List.range 6).map fun j : Nat => (j : Int)), x ∈ s.vs.map (·.1) := fun x hx => by
    obtain ⟨j, hj, rfl⟩ := List.mem_map.mp hx
    exact hall j hj
  have hnd : ((List.range 6).map fun j : Nat => (j : Int)).Nodup := by decide
  have := nd_len hnd hsub
  rw [List.length_map, List.length_map, List.length_range] at this
  omega
theorem freeN_len (s : MixS) : (freeN s).length ≤ 6 := by
  unfold freeN
  rw [List.length_map]
  exact List.length_filter_le _ (List.range 6)
theorem pr_ints {js : List Nat} {ys : List V} (h : Paired (fun (j : Nat) y => y = V.int (j : Int)) js ys) : ys = (js.map fun j : Nat => (j : Int)).map V.int := by
  induction h with
  | nil => rfl
  | cons h _ ih => rw [h, ih]; rfl
theorem vkv_has (vs : List MV) (W : WD) (n : Int) : (valV (vkv vs W) (Sum.inl n : Key)).isSome = decide (n ∈ vs.map (·.1)) := by
  unfold vkv
  induction vs with
  | nil => rfl
  | cons x r ih =>
    by_cases h : x.1 = n
    · rw [List.map_cons, valV_pos (by rw [h])]
      simp [h]
    · rw [List.map_cons, valV_neg (by simpa using h), ih, List.map_cons]
      simp [Ne.symm h]
abbrev NAd : List Str := ["_law_row", "_law_m", "_law_free", "_law_wait", "_law_name"]
theorem sc_law_added : FnScope ["_law_row", "_law_m", "_law_free", "_law_wait", "_law_name"] ["_law_row", "_law_m"] (defScope s_law_added) := ⟨rfl, rfl, rfl, by decide +kernel, rfl, by decide +kernel, by decide +kernel⟩
set_option hygiene false in
local macro_rules | `(tactic| walk_at "rd") => `(tactic| try simp only [L2.start, List.map_cons, List.map_nil, List.length_cons, List.length_nil, Nat.reduceAdd, Nat.reduceSub, Nat.reduceLT, Nat.reduceLeDiff, List.replicate_succ, List.replicate_zero, List.append_nil, List.nil_append, List.cons_append, List.set_cons_zero, List.set_cons_succ, List.getElem?_cons_zero, List.getElem?_cons_succ,
  Option.some.injEq, List.cons.injEq, and_true, true_and, and_assoc, reduceCtorEq, L2.V.int.injEq, L2.V.ref.injEq, L2.V.bl.injEq, L2.V.str.injEq, L2.V.ty.injEq, L2.HO.ins.injEq, L2.HO.lst.injEq, L2.HO.tup.injEq, L2.HO.dK.injEq, exists_eq_left', exists_eq_left, exists_eq_right, exists_eq', exists_eq, exists_and_left, exists_and_right, reduceIte, Bool.false_eq_true, Bool.not_true, Bool.not_false,
  L2.tSeq, L2.tIfS, L2.tRet, L2.tRetN, L2.tNext, L2.tAsg, L2.gName, L2.tVar, L2.tC, L2.tCons, L2.tNil, L2.tCB, L2.tOp, L2.tUn, L2.tTup, L2.tLst, L2.tB, L2.tOr, L2.tAnd, L2.tNot, L2.tAndV, L2.tOrV, L2.tNotV, L2.tIf, L2.tTest, L2.tChain, L2.rI, L2.rI0, L2.rU, L2.tDrop, L2.tNever, L2.tCall, L2.tMeth, L2.tMake, L2.rGcd, L2.tFld, L2.sFld, L2.sFldAug, Mx.sFldA, Mx.sFldAugA, L2.rAdd, L2.rSub, L2.rEq, L2.rNe, L2.tDGet, L2.tDIn, L2.tDNotIn, L2.sDPut,
  Mx.isi_int_bool, Mx.isi_int_int, Mx.isi_int_tuple, Mx.isi_int_list, Mx.isi_int_str, Mx.scal_int, Mx.scal_str, Mx.scal_bl, Mx.ofString_inj, Mx.ofString_beq, Mx.lk_cons, Mx.pf_nil, Mx.pf_cons, Mx.sz1, Mx.sz2, List.lookup_nil, String.reduceEq, decide_true, decide_false, decide_eq_true_eq, Int.natAbs_natCast, L2.upd_same, L2.upd_upd, L2.cxOf, L2.gSub, L2.tPar, L2.gCons, L2.gNil, Mx.optV, L2.sDPut])
set_option hygiene false in
local macro_rules | `(tactic| walk_at "rds") => `(tactic| try simp only [L2.start, List.map_cons, List.map_nil, List.length_cons, List.length_nil, Nat.reduceAdd, Nat.reduceSub, Nat.reduceLT, Nat.reduceLeDiff, List.replicate_succ, List.replicate_zero, List.append_nil, List.nil_append, List.cons_append, List.set_cons_zero, List.set_cons_succ, List.getElem?_cons_zero, List.getElem?_cons_succ,
  Option.some.injEq, List.cons.injEq, and_true, true_and, and_assoc, reduceCtorEq, L2.V.int.injEq, L2.V.ref.injEq, L2.V.bl.injEq, L2.V.str.injEq, L2.V.ty.injEq, L2.HO.ins.injEq, L2.HO.lst.injEq, L2.HO.tup.injEq, L2.HO.dK.injEq, exists_eq_left', exists_eq_left, exists_eq_right, exists_eq', exists_eq, exists_and_left, exists_and_right, reduceIte, Bool.false_eq_true, Bool.not_true, Bool.not_false,
  L2.tSeq, L2.tIfS, L2.tRet, L2.tRetN, L2.tNext, L2.tAsg, L2.gName, L2.tVar, L2.tC, L2.tCons, L2.tNil, L2.tCB, L2.tOp, L2.tUn, L2.tTup, L2.tLst, L2.tB, L2.tOr, L2.tAnd, L2.tNot, L2.tAndV, L2.tOrV, L2.tNotV, L2.tIf, L2.tTest, L2.tChain, L2.rI, L2.rI0, L2.rU, L2.tDrop, L2.tNever, L2.tCall, L2.tMeth, L2.tMake, L2.rGcd, L2.tFld, L2.sFld, L2.sFldAug, Mx.sFldA, Mx.sFldAugA, L2.rAdd, L2.rSub, L2.rEq, L2.rNe, L2.tDGet, L2.tDIn, L2.tDNotIn, L2.sDPut,
  Mx.isi_int_bool, Mx.isi_int_int, Mx.isi_int_tuple, Mx.isi_int_list, Mx.isi_int_str, Mx.scal_int, Mx.scal_str, Mx.scal_bl, Mx.ofString_inj, Mx.ofString_beq, Mx.lk_cons, Mx.pf_nil, Mx.pf_cons, Mx.sz1, Mx.sz2, List.lookup_nil, String.reduceEq, decide_true, decide_false, decide_eq_true_eq, Int.natAbs_natCast, L2.upd_same, L2.upd_upd, L2.cxOf, L2.gSub, L2.tPar, L2.gCons, L2.gNil, Mx.optV, L2.sDPut, *])

section
variable {P : Program} {w : World} {K : PySem.W.Frag} {mg : Str → Option Value} {base : Heap}
def sp_law_added (K : PySem.W.Frag) : Sp := fun vs H Q _ => ∃ (r sc M dv lk : Addr) (ns : List Int) (s : MixS) (W : WD) (bv : Int → Nat), vs = [.ref r, .ref M] ∧ RowAt K H r sc ns ∧ OMx K H M dv lk s W bv ∧ r ∉ ofoot M dv lk s W ∧ s.vs.length < 6 ∧
  ∀ a H' n pn pb wt ld, Legal s (.add n pn pb wt ld) → RowAt K H' r sc ns → Stp [r] H H' → TupAt K H' a [.str "add", .int n, .int pn, .int pb, .int wt, .int ld] → Q (.ref a) H'
theorem ok_law_added {f : Addr} {fd : FuncData} (F : Fun K "_law_added" "_law_added" s_law_added f fd) (B : Blt mg) (GT : OwnF P w K mg base "_law_taken" 1 ["_law_row", "_law_many"] (sp_taken K)) (GP : OwnF P w K mg base "_law_pace" 2 ["_law_row"] (sp_law_pace K)) (GL : OwnF P w K mg base "_law_loud" 2 ["_law_row"] (sp_drawn K 0 64)) : FnOk P w K mg base CX0 3 f fd ["_law_row", "_law_m"] (sp_law_added K) := by
  refine F.ok sc_law_added (fun vs H Q E h => ?_) (fun cdv A outer s0 H vs Q E hr h => ?_)
  · obtain ⟨r, sc, M, dv, lk, ns, s, W, bv, rfl, _⟩ := h
    rfl
  · obtain ⟨r, sc, M, dv, lk, ns, s, W, bv, rfl, hR, hM, hrf, h6, k⟩ := h
    have nd := sc_law_added.nd
    have hu := hu_of hr
    have r1 := hr.mono (show 1 ≤ 2 by decide)
    refine ⟨_, (pss_cons (ps_setLc (i := 2) (own := [("_law_name", 4)]) (tt := tB (tDNotIn (tVar 4) (tDGet (tVar 1) (tC (.str "voices"))))) (te := tVar 4) rfl nd rfl rfl (sw_true rfl rfl rfl (by decide +kernel)) (pi_range1 (by rfl) B.range (pa_cons pe_int pa_nil)) (blkOk_by (N := NAd) (sc := defScope s_law_added) (by decide +kernel)) (fun _ _ _ _ _ => pg_name (i := 4) nd rfl (.inl rfl)) (fun _ _ _ _ _ => pts_one (pt_cmp (pc_dnotin hu (pv 4) (pe_dget hu (pv 1) pe_str (fun _ _ => rfl))))) (fun _ _ _ _ _ => pv 4))
      (pss_cons (ps_set (i := 3) nd rfl (.inl rfl) (pe_ix ix_list (pe_lst (pa_cons pe_int (pa_cons (p_call GT r1 (pa_cons (pv 0) (pa_cons pe_int pa_nil))) (pa_cons (p_call GT r1 (pa_cons (pv 0) (pa_cons pe_int pa_nil))) pa_nil)))) (p_call GT r1 (pa_cons (pv 0) (pa_cons pe_int pa_nil))) (fun _ _ => rfl)))
      (pss_one (ps_ret (pe_op op_catT (pe_op op_catT (pe_tup (pa_cons pe_str (pa_cons (pe_ix ix_list (pv 2) (p_call GT r1 (pa_cons (pv 0) (pa_cons (pe_callB call_len_seq (by rfl) B.len PySem.boot_len (pa_cons (pv 2) pa_nil)) pa_nil))) (fun _ _ => rfl)) pa_nil))) (p_call GP hr (pa_cons (pv 0) pa_nil))) (pe_tup (pa_cons (pv 3) (pa_cons (p_call GL hr (pa_cons (pv 0) pa_nil)) pa_nil)))))))), ?_⟩
    obtain ⟨kv, o1, oS, oT, oV, oL, ol⟩ := id hM.ob
    have hdv := hM.hdv
    walk_at "rd"
    refine lc_rng (n := 6) (F := []) (fun _ => True) (fun _ j y => y = .int (j : Int)) (fun j => !decide ((j : Int) ∈ s.vs.map (·.1))) (by decide) (by decide) (fun R hR => hR) trivial (by simp) (fun _ _ _ _ _ _ _ => trivial) (fun _ _ _ _ _ h _ => h) (fun j H2 _ _ st Q' qq => ?_) (fun j H2 _ _ _ st Q' qq => ?_) fun D H2 ys hD _ st hl hp => ?_
    · refine ⟨_, rfl, ⟨_, rfl, M, _, rfl, dgs (st.keep _ _ o1 (by simp)) oV, dv, _, rfl, DGet.k (k := (Sum.inl (0 + (j : Int)) : Key)) (st.keep _ _ hdv (by simp)), _, rfl, ?_⟩⟩
      rw [vkv_has, Int.zero_add]
      exact qq H2 trivial st Stp.refl
    · exact ⟨_, rfl, qq _ H2 (by rw [Int.zero_add]) trivial st Stp.refl⟩
    have ey : ys = (freeN s).map V.int := pr_ints hp
    subst ey
    have hR2 := hR.st0 st
    walk_at "rd"
    refine ⟨r, sc, ns, 9, rfl, hR2, by decide, fun x1 H3 x10 x11 hR3 s3 => ?_⟩
    refine ⟨r, sc, ns, 65, rfl, hR3, by decide, fun x2 H4 x20 x21 hR4 s4 => ⟨by decide, fun p4 hp4 => ?_⟩⟩
    have s5 := Stp.new (o := .lst [.int 0, .int x1, .int x2]) hp4
    have hR5 := hR4.st0 s5
    have e5 : upd H4 p4 (.lst [.int 0, .int x1, .int x2]) p4 = some (.lst [.int 0, .int x1, .int x2]) := upd_same
    generalize upd H4 p4 (.lst [.int 0, .int x1, .int x2]) = H5 at *
    have hl5 := (s3.trans (s4.trans s5)).keep _ _ hl (by simpa using row_ne hR hD)
    refine ⟨r, sc, ns, 3, rfl, hR5, by decide, fun x3 H6 x30 x31 hR6 s6 => ?_⟩
    have e6 := s6.keep _ _ e5 (by simpa using row_ne hR4 hp4)
    have hl6 := s6.keep _ _ hl5 (by simpa using row_ne hR hD)
    obtain ⟨wt, wt0, wt1, hat⟩ : ∃ wt : Int, 0 ≤ wt ∧ wt ≤ 64 ∧ atI [V.int 0, V.int x1, V.int x2] x3 = some (.int wt) := by
      rcases (show x3 = 0 ∨ x3 = 1 ∨ x3 = 2 by omega) with rfl | rfl | rfl
      · exact ⟨0, by decide, by decide, rfl⟩
      · exact ⟨x1, x10, by omega, rfl⟩
      · exact ⟨x2, x20, by omega, rfl⟩
    refine ixL (.inl (.inl e6)) hat ⟨_, .inl (.inl (.inl hl6)), ?_⟩
    have hpos := freeN_pos h6
    have hle6 := freeN_len s
    rw [List.length_map]
    refine ⟨r, sc, ns, _, rfl, hR6, by omega, fun x7 H7 x70 x71 hR7 s7 => ?_⟩
    have hl7 := s7.keep _ _ hl6 (by simpa using row_ne hR hD)
    obtain ⟨n, hn, hat7⟩ := at_nat (ns := freeN s) x70 x71
    refine ixL (.inl (.inl hl7)) hat7 fun p8 hp8 => ?_
    have s8 := Stp.new (o := .tup [.str "add", .int n]) hp8
    have e8 : upd H7 p8 (.tup [.str "add", .int n]) p8 = some (.tup [.str "add", .int n]) := upd_same
    have hR8 := hR7.st0 s8
    generalize upd H7 p8 (.tup [.str "add", .int n]) = H8 at *
    refine ⟨r, sc, ns, rfl, hR8, fun pp H9 pn pb hpp n0 n1 b0 b1 hR9 s9 e9 => ?_⟩
    refine ⟨p8, pp, _, _, rfl, rfl, .inl (.inl (s9.tup _ _ e8)), .inl (.inl e9), by simp, by show 2 + 2 ≤ sizeLine; decide, (fun z => nomatch z), fun _ p10 hp10 => ?_⟩
    have s10 := Stp.new (o := .tup ([.str "add", .int n] ++ [.int pn, .int pb])) hp10
    have e10 : upd H9 p10 (.tup ([.str "add", .int n] ++ [.int pn, .int pb])) p10 = some (.tup [.str "add", .int n, .int pn, .int pb]) := upd_same
    have hR10 := hR9.st0 s10
    generalize upd H9 p10 _ = H10 at *
    refine ⟨r, sc, ns, rfl, hR10, fun ld H11 ld0 ld1 hR11 s11 p12 hp12 => ?_⟩
    have s12 := Stp.new (o := .tup [.int wt, .int ld]) hp12
    have e12 : upd H11 p12 (.tup [.int wt, .int ld]) p12 = some (.tup [.int wt, .int ld]) := upd_same
    have e102 := (s11.trans s12).tup _ _ e10
    have hR12 := hR11.st0 s12
    generalize upd H11 p12 (.tup [.int wt, .int ld]) = H12 at *
    refine ⟨p10, p12, _, _, rfl, rfl, .inl (.inl e102), .inl (.inl e12), by simp, by show 4 + 2 ≤ sizeLine; decide, (fun z => nomatch z), fun _ p13 hp13 => ?_⟩
    have s13 := Stp.new (o := .tup ([.str "add", .int n, .int pn, .int pb] ++ [.int wt, .int ld])) hp13
    obtain ⟨m1, m2, m3⟩ := freeN_mem hn
    refine k p13 _ n pn pb wt ld ⟨m1, m2, m3, n0, n1, b0, b1, wt0, wt1, ld0, ld1⟩ (hR12.st0 s13) ?_ (.inl upd_same)
    exact (st.trans (s3.trans (s4.trans (s5.trans (s6.trans (s7.trans (s8.trans (s9.trans (s10.trans (s11.trans (s12.trans s13))))))))))).sub (by simp)
end
end Mx

namespace Mx
open PySem L2
theorem pr_nums {cm : List (Int × Int)} : ∀ {n : Nat} {ys : List V}, n = cm.length → Paired (fun (j : Nat) y => ∃ p, cm[j]? = some p ∧ y = V.int (p.1 + 1)) (List.range n) ys → ys = (cm.map fun p => p.1 + 1).map V.int := by
  intro n ys e h
  subst e
  refine List.ext_getElem? fun i => ?_
  have hl := h.length
  rw [List.length_range] at hl
  by_cases hi : i < cm.length
  · obtain ⟨x, y, e1, e2, p, e3, e4⟩ := pr_get h i (by rw [List.length_range]; exact hi) (by omega)
    rw [List.getElem?_range hi] at e1
    cases e1
    rw [e2, List.getElem?_map, List.getElem?_map, e3, e4]
    rfl
  · rw [List.getElem?_eq_none (by omega), List.getElem?_eq_none (by simp; omega)]
/-- the keys of what came, one more each -/
theorem lc_came {c : Addr} {H : Hp} {cm : List (Int × Int)} {i : Nat} {td : TE} {σ : L2.St} {Q : VK} (hc : H c = some (.dK (cam cm))) (hlen : cm.length ≤ 90000) (hi : i < σ.length)
    (htd : ∀ (R : VK) H' od, H' c = some (.frz od (.dK (cam cm))) → Stp [c] H H' → R (.ref c) H' → td σ H' R)
    (k : ∀ D H', H D = none → H' D = some (.lst ((cm.map fun p => p.1 + 1).map V.int)) → Stp [] H H' → Q (.ref D) H') :
    tLockE (tLc (iKeys td) (gName i) tYes (tOp (rI0 fun i j => .int (i + j)) (tVar i) (tC (.int 1))) [i]) σ H Q := by
  refine ⟨c, _, hc, trivial, fun od => ?_⟩
  have sL := Stp.put (o := .frz od (.dK (cam cm))) hc (fun xs z => nomatch z)
  have eL : upd H c (.frz od (.dK (cam cm))) c = some (.frz od (.dK (cam cm))) := upd_same
  have hDn : ∀ {D : Addr}, upd H c (.frz od (.dK (cam cm))) D = none → D ≠ c := fun h z => by rw [z, upd_same] at h; cases h
  have hfr : ∀ {D : Addr}, upd H c (.frz od (.dK (cam cm))) D = none → H D = none := fun {D} h => by rw [upd_ne (hDn h)] at h; exact h
  have hkeep : ∀ b o, H b = some o → b ≠ c → upd H c (.frz od (.dK (cam cm))) b = some o := fun b o e n => by rw [upd_ne n]; exact e
  generalize upd H c (.frz od (.dK (cam cm))) = HL at *
  have hcl : (cam cm).length = cm.length := by simp [cam]
  refine lc_keysE (F := []) (fun R hR => htd R HL od eL sL hR) eL (by simp) (fun _ => True) (fun _ j y => ∃ p, cm[j]? = some p ∧ y = V.int (p.1 + 1)) (fun _ => true) trivial (by simp) (fun _ _ _ _ _ _ _ => trivial) (fun _ _ _ _ _ h _ => h) (by omega) (fun j kk w H2 hk _ s Q' q => q H2 trivial s Stp.refl) (fun j kk w H2 hk _ _ s Q' q => ?_) fun D H' ys hD _ s hl hp => ?_
  · have e : ∃ p, cm[j]? = some p ∧ kk = Sum.inl p.1 := by
      unfold cam at hk
      rw [List.getElem?_map] at hk
      cases ee : cm[j]? with
      | none => rw [ee] at hk; cases hk
      | some p => rw [ee] at hk; cases hk; exact ⟨p, rfl, rfl⟩
    obtain ⟨p, hp, rfl⟩ := e
    refine ⟨.int p.1, by rw [List.getElem?_set_self (by rw [wipe_length]; exact hi)]; rfl, p.1, 1, rfl, rfl, q _ H2 ⟨p, hp, rfl⟩ trivial s Stp.refl⟩
  · have hp2 : ys = (cm.map fun p => p.1 + 1).map V.int := by
      rw [List.filter_eq_self.mpr (fun _ _ => rfl)] at hp
      exact pr_nums hcl hp
    subst hp2
    have eU := s.keep _ _ eL (by simp)
    have sU := Stp.put (o := .dK (cam cm)) eU (fun xs z => nomatch z)
    have nD := hDn hD
    refine ⟨eU, k D _ (hfr hD) (by rw [upd_ne nD]; exact hl) (.of fun b o e => ?_)⟩
    by_cases hb : b = c
    · subst hb
      rw [e] at hc
      cases hc
      exact upd_same
    · rw [upd_ne hb]
      exact s.keep _ _ (hkeep b o e hb) (by simp)
/-- what a line holds of places -/
structure LInv (l : LineS) : Prop where
  lk : ∀ p ∈ l.came, 0 ≤ p.1 ∧ p.1 + 1 ≤ l.reach
  r0 : 0 ≤ l.reach
  r1 : l.reach ≤ 1000
  rk : l.reach = 0 ∨ ∃ p ∈ l.came, p.1 + 1 = l.reach
  mn : ∀ m, l.many = some m → 1 ≤ m ∧ m ≤ 1000 ∧ l.reach ≤ m
theorem LInv.max {l : LineS} (h : LInv l) {b m : Int} (hb : 0 ≤ b) (hb1 : b ≤ 1) (h1 : m ∈ b :: (l.came.map fun p => p.1 + 1)) (h2 : ∀ y ∈ b :: (l.came.map fun p => p.1 + 1), y ≤ m) : m = if l.reach = 0 then b else l.reach := by
  have hbm := h2 b List.mem_cons_self
  rcases List.mem_cons.mp h1 with e | h1
  · rcases h.rk with z | ⟨p, hp, e2⟩
    · rw [if_pos z, e]
    · have := h2 (p.1 + 1) (List.mem_cons_of_mem _ (List.mem_map.mpr ⟨p, hp, rfl⟩))
      have := h.lk p hp
      split <;> omega
  · obtain ⟨p, hp, e⟩ := List.mem_map.mp h1
    have := h.lk p hp
    rcases h.rk with z | ⟨p', hp', e2⟩
    · omega
    · have := h2 (p'.1 + 1) (List.mem_cons_of_mem _ (List.mem_map.mpr ⟨p', hp', rfl⟩))
      rw [if_neg (by omega)]
      omega
end Mx

namespace Mx
open PySem L2
abbrev NPa : List Str := ["_law_row", "_law_m", "_law_name", "_law_v", "_law_place", "_law_many", "_law_most", "_law_numbers", "_law_one", "_law_k"]
theorem sc_law_parcel : FnScope ["_law_row", "_law_m", "_law_name", "_law_v", "_law_place", "_law_many", "_law_most", "_law_numbers", "_law_one", "_law_k"] ["_law_row", "_law_m", "_law_name"] (defScope s_law_parcel) := ⟨rfl, rfl, rfl, by decide +kernel, rfl, by decide +kernel, by decide +kernel⟩
theorem ne_nilT {K : PySem.W.Frag} {H : Hp} {a b : Addr} {ns : List Int} {Q : VK} (ha : SqT K H a (ns.map V.int)) (hb : SqT K H b []) (k : Q (.bl (!ns.isEmpty)) H) : rNeD K (.ref a) (.ref b) H Q := by
  obtain ⟨ds, b1, _, b3, b4, _⟩ := all_dp (EqT.dp 0) (ints_refl (K := K) (H := H) (n := 0) ns)
  have hs : SeqAt.shaped (.tuple ds) = true := by
    have : (PyData.tuple ds).depth ≤ 64 := by simp only [PyData.depth]; omega
    simp [SeqAt.shaped, PyData.canLay0, b3, this]
  refine ⟨.tuple ds, .tuple [], .tup ha b1, .tup hb .nil, hs, rfl, ?_⟩
  have e : PyData.eqv (.tuple ds) (.tuple []) = ns.isEmpty := by
    have := dpAll_len b1
    rw [List.length_map] at this
    cases ds with
    | nil =>
      have : ns = [] := List.length_eq_zero_iff.mp this
      rw [this]
      rfl
    | cons d r =>
      cases ns with
      | nil => simp at this
      | cons v t => rfl
  rw [e]
  exact k
set_option hygiene false in
local macro_rules | `(tactic| walk_at "rd") => `(tactic| try simp only [L2.start, List.map_cons, List.map_nil, List.length_cons, List.length_nil, Nat.reduceAdd, Nat.reduceSub, Nat.reduceLT, Nat.reduceLeDiff, List.replicate_succ, List.replicate_zero, List.append_nil, List.nil_append, List.cons_append, List.set_cons_zero, List.set_cons_succ, List.getElem?_cons_zero, List.getElem?_cons_succ,
  Option.some.injEq, List.cons.injEq, and_true, true_and, and_assoc, reduceCtorEq, L2.V.int.injEq, L2.V.ref.injEq, L2.V.bl.injEq, L2.V.str.injEq, L2.V.ty.injEq, L2.HO.ins.injEq, L2.HO.lst.injEq, L2.HO.tup.injEq, L2.HO.dK.injEq, exists_eq_left', exists_eq_left, exists_eq_right, exists_eq', exists_eq, exists_and_left, exists_and_right, reduceIte, Bool.false_eq_true, Bool.not_true, Bool.not_false,
  L2.tSeq, L2.tIfS, L2.tRet, L2.tRetN, L2.tNext, L2.tAsg, L2.gName, L2.tVar, L2.tC, L2.tCons, L2.tNil, L2.tCB, L2.tOp, L2.tUn, L2.tTup, L2.tLst, L2.tB, L2.tOr, L2.tAnd, L2.tNot, L2.tAndV, L2.tOrV, L2.tNotV, L2.tIf, L2.tTest, L2.tChain, L2.rI, L2.rI0, L2.rU, L2.tDrop, L2.tNever, L2.tCall, L2.tMeth, L2.tMake, L2.rGcd, L2.tFld, L2.sFld, L2.sFldAug, Mx.sFldA, Mx.sFldAugA, L2.rAdd, L2.rSub, L2.rEq, L2.rNe, L2.tDGet, L2.tDIn, L2.tDNotIn, L2.sDPut,
  Mx.isi_int_bool, Mx.isi_int_int, Mx.isi_int_tuple, Mx.isi_int_list, Mx.isi_int_str, Mx.scal_int, Mx.scal_str, Mx.scal_bl, Mx.ofString_inj, Mx.ofString_beq, Mx.lk_cons, Mx.pf_nil, Mx.pf_cons, Mx.sz1, Mx.sz2, List.lookup_nil, String.reduceEq, decide_true, decide_false, decide_eq_true_eq, Int.natAbs_natCast, L2.upd_same, L2.upd_upd, L2.cxOf, L2.gSub, L2.tPar, L2.gCons, L2.gNil, Mx.optV, L2.sDPut, L2.tThen])
set_option hygiene false in
local macro_rules | `(tactic| walk_at "rds") => `(tactic| try simp only [L2.start, List.map_cons, List.map_nil, List.length_cons, List.length_nil, Nat.reduceAdd, Nat.reduceSub, Nat.reduceLT, Nat.reduceLeDiff, List.replicate_succ, List.replicate_zero, List.append_nil, List.nil_append, List.cons_append, List.set_cons_zero, List.set_cons_succ, List.getElem?_cons_zero, List.getElem?_cons_succ,
  Option.some.injEq, List.cons.injEq, and_true, true_and, and_assoc, reduceCtorEq, L2.V.int.injEq, L2.V.ref.injEq, L2.V.bl.injEq, L2.V.str.injEq, L2.V.ty.injEq, L2.HO.ins.injEq, L2.HO.lst.injEq, L2.HO.tup.injEq, L2.HO.dK.injEq, exists_eq_left', exists_eq_left, exists_eq_right, exists_eq', exists_eq, exists_and_left, exists_and_right, reduceIte, Bool.false_eq_true, Bool.not_true, Bool.not_false,
  L2.tSeq, L2.tIfS, L2.tRet, L2.tRetN, L2.tNext, L2.tAsg, L2.gName, L2.tVar, L2.tC, L2.tCons, L2.tNil, L2.tCB, L2.tOp, L2.tUn, L2.tTup, L2.tLst, L2.tB, L2.tOr, L2.tAnd, L2.tNot, L2.tAndV, L2.tOrV, L2.tNotV, L2.tIf, L2.tTest, L2.tChain, L2.rI, L2.rI0, L2.rU, L2.tDrop, L2.tNever, L2.tCall, L2.tMeth, L2.tMake, L2.rGcd, L2.tFld, L2.sFld, L2.sFldAug, Mx.sFldA, Mx.sFldAugA, L2.rAdd, L2.rSub, L2.rEq, L2.rNe, L2.tDGet, L2.tDIn, L2.tDNotIn, L2.sDPut,
  Mx.isi_int_bool, Mx.isi_int_int, Mx.isi_int_tuple, Mx.isi_int_list, Mx.isi_int_str, Mx.scal_int, Mx.scal_str, Mx.scal_bl, Mx.ofString_inj, Mx.ofString_beq, Mx.lk_cons, Mx.pf_nil, Mx.pf_cons, Mx.sz1, Mx.sz2, List.lookup_nil, String.reduceEq, decide_true, decide_false, decide_eq_true_eq, Int.natAbs_natCast, L2.upd_same, L2.upd_upd, L2.cxOf, L2.gSub, L2.tPar, L2.gCons, L2.gNil, Mx.optV, L2.sDPut, L2.tThen, *])

section
variable {P : Program} {w : World} {K : PySem.W.Frag} {mg : Str → Option Value} {base : Heap}
def sp_law_parcel (K : PySem.W.Frag) : Sp := fun vs H Q _ => ∃ (r sc M dv lk : Addr) (ns : List Int) (s : MixS) (W : WD) (bv : Int → Nat) (e : MV), vs = [.ref r, .ref M, .int e.1] ∧ RowAt K H r sc ns ∧ OMx K H M dv lk s W bv ∧ r ∉ ofoot M dv lk s W ∧ e ∈ s.vs ∧ LInv e.2.2.line ∧ e.2.2.line.came.length ≤ 90000 ∧
  ∀ a H' dd, Legal s dd → RowAt K H' r sc ns → Stp [r] H H' → dd.at K H' a → Q (.ref a) H'
theorem ok_law_parcel {f : Addr} {fd : FuncData} (F : Fun K "_law_parcel" "_law_parcel" s_law_parcel f fd) (B : Blt mg) (hmin : mg "min" = none) (GT : OwnF P w K mg base "_law_taken" 1 ["_law_row", "_law_many"] (sp_taken K)) (GN : OwnF P w K mg base "_law_number" 2 ["_law_row"] (sp_drawn K (-999) 999)) : FnOk P w K mg base CX0 3 f fd ["_law_row", "_law_m", "_law_name"] (sp_law_parcel K) := by
  refine F.ok sc_law_parcel (fun vs H Q E h => ?_) (fun cdv A outer s0 H vs Q E hr h => ?_)
  · obtain ⟨r, sc, M, dv, lk, ns, s, W, bv, e, rfl, _⟩ := h
    rfl
  · obtain ⟨r, sc, M, dv, lk, ns, s, W, bv, e, rfl, hR, hM, hrf, he, hI, hlen, k⟩ := h
    have nd := sc_law_parcel.nd
    have hu := hu_of hr
    have hu64 : (A.deeper (PyProof.Rows.envOfC "_law_parcel" (defScope s_law_parcel) s0.heap.objs.size f cdv)).units + 64 < cLine := by
      have := hr.un
      omega
    have r1 := hr.mono (show 1 ≤ 2 by decide)
    refine ⟨_, (pss_cons (ps_set (i := 3) nd rfl (.inl rfl) (pe_dget hu (pe_dget hu (pv 1) pe_str (fun _ _ => rfl)) (pv 2) (fun _ _ => rfl)))
      (pss_cons (ps_set (i := 4) nd rfl (.inl rfl) (pe_callB (cr_max rfl) (by rfl) B.max PyProof.Rows.boot_max (pa_cons (pe_op op_cat (pe_lst (pa_cons pe_int pa_nil)) (pe_lock (pe_lc (own := [("_law_one", 8)]) (te := tOp (rI0 fun i j => .int (i + j)) (tVar 8) (tC (.int 1))) rfl nd (pi_keys (pe_dget hu (pv 3) pe_str (fun _ _ => rfl))) (blkOk_by (N := NPa) (sc := defScope s_law_parcel) (by decide +kernel)) (fun _ _ _ _ _ => pg_name (i := 8) nd rfl (.inl rfl)) (fun _ _ _ _ _ => pts_nil) (fun _ _ _ _ _ => pe_op op_add (pv 8) pe_int)))) pa_nil)))
      (pss_cons (ps_set (i := 4) nd rfl (.inl rfl) (pe_ix ix_list (pe_lst (pa_cons (pv 4) (pa_cons (pv 4) (pa_cons (pv 4) (pa_cons (pe_callB (call_max2 rfl) (by rfl) B.max PyProof.Rows.boot_max (pa_cons pe_int (pa_cons (pe_op op_sub (pv 4) (p_call GT r1 (pa_cons (pv 0) (pa_cons pe_int pa_nil)))) pa_nil))) (pa_cons (pe_op op_add (pv 4) (p_call GT r1 (pa_cons (pv 0) (pa_cons pe_int pa_nil)))) pa_nil)))))) (p_call GT r1 (pa_cons (pv 0) (pa_cons pe_int pa_nil))) (fun _ _ => rfl)))
      (pss_cons (ps_set (i := 5) nd rfl (.inl rfl) (pe_op op_add pe_int (p_call GT r1 (pa_cons (pv 0) (pa_cons (pe_ix ix_list (pe_lst (pa_cons pe_int (pa_cons pe_int (pa_cons pe_int pa_nil)))) (p_call GT r1 (pa_cons (pv 0) (pa_cons pe_int pa_nil))) (fun _ _ => rfl)) pa_nil)))))
      (pss_cons (ps_set (i := 6) nd rfl (.inl rfl) (pe_ifExp (pt_cmpR op_isN (pe_dget hu (pv 3) pe_str (fun _ _ => rfl)) pe_non (nomark _)) pe_int (pe_dget hu (pv 3) pe_str (fun _ _ => rfl))))
      (pss_cons (ps_set (i := 7) nd rfl (.inl rfl) (pe_tupleOf (by rfl) B.tuple (pe_lc (own := [("_law_k", 9)]) (te := tCall (sp_drawn K (-999) 999) [] E0 (tCons (tVar 0) tNil)) rfl nd (pi_range1 (by rfl) B.range (pa_cons (pe_callB (call_min2 rfl) (by rfl) hmin PyProof.Rows.boot_min (pa_cons (pv 5) (pa_cons (pe_op op_sub (pv 6) (pv 4)) pa_nil))) pa_nil)) (blkOk_by (N := NPa) (sc := defScope s_law_parcel) (by decide +kernel)) (fun _ _ _ _ _ => pg_name (i := 9) nd rfl (.inl rfl)) (fun _ _ _ _ _ => pts_nil) (fun _ _ _ _ _ => p_call GN hr (pa_cons (pv 0) pa_nil)))))
      (pss_one (ps_ret (pe_ifExp (pt_cmpR (op_neD hu64) (pv 7) (pe_tup pa_nil) (nomark _)) (pe_tup (pa_cons pe_str (pa_cons (pv 2) (pa_cons (pv 4) (pa_cons (pv 7) pa_nil))))) (pe_tup (pa_cons pe_str pa_nil))))))))))), ?_⟩
    obtain ⟨kv, o1, oS, oT, oV, oL, ol⟩ := id hM.ob
    have gd := DGet.k (k := (Sum.inl e.1 : Key)) hM.hdv
    rw [vkv_get W he hM.nm] at gd
    have hO := hM.vo e he
    obtain ⟨kvo, kc, k1, hK, k3, k4, k5, k6, hne⟩ := id hO
    subst k5
    walk_at "rd"
    refine ⟨_, dgs o1 oV, dv, rfl, _, gd, ?_⟩
    walk_at "rd"
    intro p1 hp1
    have s1 := Stp.new (o := .lst [.int 0]) hp1
    have e1 : upd H p1 (.lst [.int 0]) p1 = some (.lst [.int 0]) := upd_same
    have hR1 := hR.st0 s1
    generalize upd H p1 (.lst [.int 0]) = H1 at *
    refine lc_came (cm := e.2.2.line.came) (c := (W e.1).2) (s1.keep _ _ k3 (by simp)) hlen (by show 8 < 10; decide) (fun R H' od hc s hR' => ⟨_, rfl, (W e.1).1, _, rfl, dgs ((s1.trans s).keep _ _ k1 (by simpa using hne)) hK.came, hR'⟩) fun D H3 hD hl s2 => ?_
    have hcml : (e.2.2.line.came.map fun p => p.1 + 1).length ≤ 90000 := by rw [List.length_map]; exact hlen
    refine ⟨p1, D, _, _, rfl, rfl, s2.keep _ _ e1 (by simp), hl, ?_, fun p4 hp4 => ?_⟩
    · rw [List.length_map]
      exact Nat.le_trans (Nat.add_le_add_left hcml 1) (by decide)
    have s4 := Stp.new (o := .lst ([V.int 0] ++ (e.2.2.line.came.map fun p => p.1 + 1).map V.int)) hp4
    have e4 : upd H3 p4 (.lst ([V.int 0] ++ (e.2.2.line.came.map fun p => p.1 + 1).map V.int)) p4 = some (.lst ((0 :: (e.2.2.line.came.map fun p => p.1 + 1)).map V.int)) := upd_same
    have hR4 := (hR1.st0 s2).st0 s4
    have st4 := s1.trans (s2.trans s4)
    generalize upd H3 p4 _ = H4 at *
    refine ⟨p4, 0 :: (e.2.2.line.came.map fun p => p.1 + 1), rfl, .inl (.inl e4), by simp, fun m hm1 hm2 => ?_⟩
    have em := hI.max (Int.le_refl 0) (by decide) hm1 hm2
    have em' : m = e.2.2.line.reach := by
      rw [em]
      split <;> omega
    have m0 := hI.r0
    have m1 := hI.r1
    rw [← em'] at m0 m1
    refine ⟨r, sc, ns, 6, rfl, hR4, by decide, fun t6 H5 t60 t61 hR5 s5 => ⟨_, rfl, _, rfl, ?_⟩⟩
    refine ⟨r, sc, ns, 5, rfl, hR5, by decide, fun t5 H6 t50 t51 hR6 s6 => ⟨_, rfl, _, rfl, by decide, fun p7 hp7 => ?_⟩⟩
    have s7 := Stp.new (o := .lst [.int m, .int m, .int m, .int (if m - t6 > 0 then m - t6 else 0), .int (m + t5)]) hp7
    have e7 : upd H6 p7 (.lst [.int m, .int m, .int m, .int (if m - t6 > 0 then m - t6 else 0), .int (m + t5)]) p7 = some (.lst [.int m, .int m, .int m, .int (if m - t6 > 0 then m - t6 else 0), .int (m + t5)]) := upd_same
    have hR7 := hR6.st0 s7
    generalize upd H6 p7 (.lst [.int m, .int m, .int m, .int (if m - t6 > 0 then m - t6 else 0), .int (m + t5)]) = H7 at *
    refine ⟨r, sc, ns, 5, rfl, hR7, by decide, fun ix H8 i0 i1 hR8 s8 => ?_⟩
    obtain ⟨pl, pl0, pl1, hat⟩ : ∃ pl : Int, 0 ≤ pl ∧ pl ≤ 1004 ∧ atI [V.int m, V.int m, V.int m, V.int (if m - t6 > 0 then m - t6 else 0), V.int (m + t5)] ix = some (.int pl) := by
      rcases (show ix = 0 ∨ ix = 1 ∨ ix = 2 ∨ ix = 3 ∨ ix = 4 by omega) with rfl | rfl | rfl | rfl | rfl
      · exact ⟨m, m0, by omega, rfl⟩
      · exact ⟨m, m0, by omega, rfl⟩
      · exact ⟨m, m0, by omega, rfl⟩
      · exact ⟨_, by split <;> omega, by split <;> omega, rfl⟩
      · exact ⟨_, by omega, by omega, rfl⟩
    refine ixL (.inl (.inl (s8.keep _ _ e7 (by simpa using row_ne hR6 hp7)))) hat ⟨by decide, fun p9 hp9 => ?_⟩
    have s9 := Stp.new (o := .lst [.int 3, .int 12, .int 32]) hp9
    have e9 : upd H8 p9 (.lst [.int 3, .int 12, .int 32]) p9 = some (.lst [.int 3, .int 12, .int 32]) := upd_same
    have hR9 := hR8.st0 s9
    generalize upd H8 p9 (.lst [.int 3, .int 12, .int 32]) = H9 at *
    refine ⟨r, sc, ns, 3, rfl, hR9, by decide, fun ix2 H10 i20 i21 hR10 s10 => ?_⟩
    obtain ⟨c9, c90, c91, hat2⟩ : ∃ c : Int, 1 ≤ c ∧ c ≤ 32 ∧ atI [V.int 3, V.int 12, V.int 32] ix2 = some (.int c) := by
      rcases (show ix2 = 0 ∨ ix2 = 1 ∨ ix2 = 2 by omega) with rfl | rfl | rfl
      · exact ⟨3, by decide, by decide, rfl⟩
      · exact ⟨12, by decide, by decide, rfl⟩
      · exact ⟨32, by decide, by decide, rfl⟩
    refine ixL (.inl (.inl (s10.keep _ _ e9 (by simpa using row_ne hR8 hp9)))) hat2 ?_
    refine ⟨r, sc, ns, c9, rfl, hR10, c90, fun mx H11 mx0 mx1 hR11 s11 => ⟨_, rfl, ?_⟩⟩
    have st11 : Stp [r] H H11 := (st4.trans (s5.trans (s6.trans (s7.trans (s8.trans (s9.trans (s10.trans s11))))))).sub (by simp)
    have hdr : (W e.1).1 ≠ r := fun z => hrf (by rw [← z]; exact ofoot_v he (.inl rfl))
    have k111 := st11.keep _ _ k1 (by simpa using hdr)
    refine ⟨_, dgs k111 hK.many, ?_⟩
    cases hmany : e.2.2.line.many with
    | none =>
      rw [if_pos (show optV none = V.non from rfl)]
      refine lc_rowZ (n := if 1000 - pl < 1 + mx then 1000 - pl else 1 + mx) (-999) 999 hR11 (by split <;> omega) (by split <;> omega) (fun R hR' => ⟨_, rfl, _, rfl, _, rfl, _, _, rfl, rfl, _, _, rfl, hR'⟩) (fun x H' hR' Q' q => ⟨_, rfl, r, sc, ns, rfl, hR', q⟩) fun D H12 xs hD hR12 s12 hl hxl hxb => ?_
      refine .inl ⟨D, _, rfl, .inl (.inl hl), fun p13 hp13 => ⟨Nat.zero_le _, fun p14 hp14 => ?_⟩⟩
      have s13 := Stp.new (o := .tup (xs.map V.int)) hp13
      have e13 : upd H12 p13 (.tup (xs.map V.int)) p13 = some (.tup (xs.map V.int)) := upd_same
      have hR13 := hR12.st0 s13
      generalize upd H12 p13 (.tup (xs.map V.int)) = H13 at *
      have s14 := Stp.new (o := .tup []) hp14
      have e14 : upd H13 p14 (.tup []) p14 = some (.tup []) := upd_same
      have e134 := s14.keep _ _ e13 (by simp)
      have hR14 := hR13.st0 s14
      have st14 : Stp [r] H _ := (st11.trans (s12.trans (s13.trans s14))).sub (by simp)
      generalize upd H13 p14 (.tup []) = H14 at *
      refine ne_nilT (.inl (.inl e134)) (.inl (.inl e14)) ⟨_, rfl, ?_⟩
      cases hxs : xs with
      | nil =>
        rw [if_neg (by simp)]
        intro p15 hp15
        have s15 := Stp.new (o := .tup [.str "beat"]) hp15
        exact k p15 _ .beat trivial (hR14.st0 s15) ((st14.trans s15).sub (by simp)) (.inl upd_same)
      | cons x0 xr =>
        rw [if_pos (by simp)]
        refine ⟨by decide, fun p15 hp15 => ?_⟩
        have s15 := Stp.new (o := .tup [.str "parcel", .int e.1, .int pl, .ref p13]) hp15
        have hpos : 1 ≤ xs.length := by rw [hxs]; simp
        refine k p15 _ (.vc e.1 (.par pl xs)) ⟨e, he, rfl, ⟨pl0, ?_, hpos, ?_, hxb, ?_⟩⟩ (hR14.st0 s15) ((st14.trans s15).sub (by simp)) ⟨p13, .inl upd_same, .inl (s15.keep _ _ e134 (by simp))⟩
        · split at hxl <;> omega
        · split at hxl <;> omega
        · show pl + (xs.length : Int) ≤ e.2.2.line.many.getD 1000
          rw [hmany]
          show pl + (xs.length : Int) ≤ 1000
          split at hxl <;> omega
    | some mm =>
      obtain ⟨mm0, mm1, mm2⟩ := hI.mn mm hmany
      rw [if_neg (show ¬ optV (some mm) = V.non from nofun)]
      refine ⟨_, dgs k111 hK.many, ?_⟩
      rw [hmany]
      refine lc_rowZ (n := if mm - pl < 1 + mx then mm - pl else 1 + mx) (-999) 999 hR11 (by split <;> omega) (by split <;> omega) (fun R hR' => ⟨_, rfl, _, rfl, _, rfl, _, _, rfl, rfl, _, _, rfl, hR'⟩) (fun x H' hR' Q' q => ⟨_, rfl, r, sc, ns, rfl, hR', q⟩) fun D H12 xs hD hR12 s12 hl hxl hxb => ?_
      refine .inl ⟨D, _, rfl, .inl (.inl hl), fun p13 hp13 => ⟨Nat.zero_le _, fun p14 hp14 => ?_⟩⟩
      have s13 := Stp.new (o := .tup (xs.map V.int)) hp13
      have e13 : upd H12 p13 (.tup (xs.map V.int)) p13 = some (.tup (xs.map V.int)) := upd_same
      have hR13 := hR12.st0 s13
      generalize upd H12 p13 (.tup (xs.map V.int)) = H13 at *
      have s14 := Stp.new (o := .tup []) hp14
      have e14 : upd H13 p14 (.tup []) p14 = some (.tup []) := upd_same
      have e134 := s14.keep _ _ e13 (by simp)
      have hR14 := hR13.st0 s14
      have st14 : Stp [r] H _ := (st11.trans (s12.trans (s13.trans s14))).sub (by simp)
      generalize upd H13 p14 (.tup []) = H14 at *
      refine ne_nilT (.inl (.inl e134)) (.inl (.inl e14)) ⟨_, rfl, ?_⟩
      cases hxs : xs with
      | nil =>
        rw [if_neg (by simp)]
        intro p15 hp15
        have s15 := Stp.new (o := .tup [.str "beat"]) hp15
        exact k p15 _ .beat trivial (hR14.st0 s15) ((st14.trans s15).sub (by simp)) (.inl upd_same)
      | cons x0 xr =>
        rw [if_pos (by simp)]
        refine ⟨by decide, fun p15 hp15 => ?_⟩
        have s15 := Stp.new (o := .tup [.str "parcel", .int e.1, .int pl, .ref p13]) hp15
        have hpos : 1 ≤ xs.length := by rw [hxs]; simp
        refine k p15 _ (.vc e.1 (.par pl xs)) ⟨e, he, rfl, ⟨pl0, ?_, hpos, ?_, hxb, ?_⟩⟩ (hR14.st0 s15) ((st14.trans s15).sub (by simp)) ⟨p13, .inl upd_same, .inl (s15.keep _ _ e134 (by simp))⟩
        · split at hxl <;> omega
        · split at hxl <;> omega
        · show pl + (xs.length : Int) ≤ e.2.2.line.many.getD 1000
          rw [hmany]
          show pl + (xs.length : Int) ≤ mm
          split at hxl <;> omega
end
end Mx

namespace Mx
open PySem L2
theorem eq_nilL {K : PySem.W.Frag} {H : Hp} {a b : Addr} {ns : List Int} {Q : VK} (ha : H a = some (.lst (ns.map V.int))) (hb : H b = some (.lst [])) (k : Q (.bl ns.isEmpty) H) : rEqD K (.ref a) (.ref b) H Q := by
  obtain ⟨ds, b1, _, b3, b4, _⟩ := all_dp (EqT.dp 0) (ints_refl (K := K) (H := H) (n := 0) ns)
  have hs : SeqAt.shaped (.list ds) = true := by
    have : (PyData.list ds).depth ≤ 64 := by simp only [PyData.depth]; omega
    simp [SeqAt.shaped, PyData.canLay0, b3, this]
  refine ⟨.list ds, .list [], .lst (.inl (.inl ha)) b1, .lst (.inl (.inl hb)) .nil, hs, rfl, ?_⟩
  have e : PyData.eqv (.list ds) (.list []) = ns.isEmpty := by
    have := dpAll_len b1
    rw [List.length_map] at this
    cases ds with
    | nil =>
      have : ns = [] := List.length_eq_zero_iff.mp this
      rw [this]
      rfl
    | cons d r =>
      cases ns with
      | nil => simp at this
      | cons v t => rfl
  rw [e]
  exact k
abbrev NDe : List Str := ["_law_row", "_law_m", "_law_way", "_law_names", "_law_name", "_law_least", "_law_one"]
theorem sc_law_deed : FnScope ["_law_row", "_law_m", "_law_way", "_law_names", "_law_name", "_law_least", "_law_one"] ["_law_row", "_law_m"] (defScope s_law_deed) := ⟨rfl, rfl, rfl, by decide +kernel, rfl, by decide +kernel, by decide +kernel⟩
set_option hygiene false in
local macro_rules | `(tactic| walk_at "rd") => `(tactic| try simp only [L2.start, List.map_cons, List.map_nil, List.length_cons, List.length_nil, Nat.reduceAdd, Nat.reduceSub, Nat.reduceLT, Nat.reduceLeDiff, List.replicate_succ, List.replicate_zero, List.append_nil, List.nil_append, List.cons_append, List.set_cons_zero, List.set_cons_succ, List.getElem?_cons_zero, List.getElem?_cons_succ,
  Option.some.injEq, List.cons.injEq, and_true, true_and, and_assoc, reduceCtorEq, L2.V.int.injEq, L2.V.ref.injEq, L2.V.bl.injEq, L2.V.str.injEq, L2.V.ty.injEq, L2.HO.ins.injEq, L2.HO.lst.injEq, L2.HO.tup.injEq, L2.HO.dK.injEq, exists_eq_left', exists_eq_left, exists_eq_right, exists_eq', exists_eq, exists_and_left, exists_and_right, reduceIte, Bool.false_eq_true, Bool.not_true, Bool.not_false,
  L2.tSeq, L2.tIfS, L2.tRet, L2.tRetN, L2.tNext, L2.tAsg, L2.gName, L2.tVar, L2.tC, L2.tCons, L2.tNil, L2.tCB, L2.tOp, L2.tUn, L2.tTup, L2.tLst, L2.tB, L2.tOr, L2.tAnd, L2.tNot, L2.tAndV, L2.tOrV, L2.tNotV, L2.tIf, L2.tTest, L2.tChain, L2.rI, L2.rI0, L2.rU, L2.tDrop, L2.tNever, L2.tCall, L2.tMeth, L2.tMake, L2.rGcd, L2.tFld, L2.sFld, L2.sFldAug, Mx.sFldA, Mx.sFldAugA, L2.rAdd, L2.rSub, L2.rEq, L2.rNe, L2.tDGet, L2.tDIn, L2.tDNotIn, L2.sDPut,
  Mx.isi_int_bool, Mx.isi_int_int, Mx.isi_int_tuple, Mx.isi_int_list, Mx.isi_int_str, Mx.scal_int, Mx.scal_str, Mx.scal_bl, Mx.ofString_inj, Mx.ofString_beq, Mx.lk_cons, Mx.pf_nil, Mx.pf_cons, Mx.sz1, Mx.sz2, List.lookup_nil, String.reduceEq, decide_true, decide_false, decide_eq_true_eq, Int.natAbs_natCast, L2.upd_same, L2.upd_upd, L2.cxOf, L2.gSub, L2.tPar, L2.gCons, L2.gNil, Mx.optV, L2.sDPut, L2.tThen])
set_option hygiene false in
local macro_rules | `(tactic| walk_at "rds") => `(tactic| try simp only [L2.start, List.map_cons, List.map_nil, List.length_cons, List.length_nil, Nat.reduceAdd, Nat.reduceSub, Nat.reduceLT, Nat.reduceLeDiff, List.replicate_succ, List.replicate_zero, List.append_nil, List.nil_append, List.cons_append, List.set_cons_zero, List.set_cons_succ, List.getElem?_cons_zero, List.getElem?_cons_succ,
  Option.some.injEq, List.cons.injEq, and_true, true_and, and_assoc, reduceCtorEq, L2.V.int.injEq, L2.V.ref.injEq, L2.V.bl.injEq, L2.V.str.injEq, L2.V.ty.injEq, L2.HO.ins.injEq, L2.HO.lst.injEq, L2.HO.tup.injEq, L2.HO.dK.injEq, exists_eq_left', exists_eq_left, exists_eq_right, exists_eq', exists_eq, exists_and_left, exists_and_right, reduceIte, Bool.false_eq_true, Bool.not_true, Bool.not_false,
  L2.tSeq, L2.tIfS, L2.tRet, L2.tRetN, L2.tNext, L2.tAsg, L2.gName, L2.tVar, L2.tC, L2.tCons, L2.tNil, L2.tCB, L2.tOp, L2.tUn, L2.tTup, L2.tLst, L2.tB, L2.tOr, L2.tAnd, L2.tNot, L2.tAndV, L2.tOrV, L2.tNotV, L2.tIf, L2.tTest, L2.tChain, L2.rI, L2.rI0, L2.rU, L2.tDrop, L2.tNever, L2.tCall, L2.tMeth, L2.tMake, L2.rGcd, L2.tFld, L2.sFld, L2.sFldAug, Mx.sFldA, Mx.sFldAugA, L2.rAdd, L2.rSub, L2.rEq, L2.rNe, L2.tDGet, L2.tDIn, L2.tDNotIn, L2.sDPut,
  Mx.isi_int_bool, Mx.isi_int_int, Mx.isi_int_tuple, Mx.isi_int_list, Mx.isi_int_str, Mx.scal_int, Mx.scal_str, Mx.scal_bl, Mx.ofString_inj, Mx.ofString_beq, Mx.lk_cons, Mx.pf_nil, Mx.pf_cons, Mx.sz1, Mx.sz2, List.lookup_nil, String.reduceEq, decide_true, decide_false, decide_eq_true_eq, Int.natAbs_natCast, L2.upd_same, L2.upd_upd, L2.cxOf, L2.gSub, L2.tPar, L2.gCons, L2.gNil, Mx.optV, L2.sDPut, L2.tThen, *])

section
variable {P : Program} {w : World} {K : PySem.W.Frag} {mg : Str → Option Value} {base : Heap}
def sp_law_deed (K : PySem.W.Frag) : Sp := fun vs H Q _ => ∃ (r sc M dv lk : Addr) (ns : List Int) (s : MixS) (W : WD) (bv : Int → Nat), vs = [.ref r, .ref M] ∧ RowAt K H r sc ns ∧ OMx K H M dv lk s W bv ∧ r ∉ ofoot M dv lk s W ∧ s.vs.length ≤ 6 ∧ (∀ e ∈ s.vs, LInv e.2.2.line ∧ e.2.2.line.came.length ≤ 90000) ∧
  ∀ a H' dd, Legal s dd → RowAt K H' r sc ns → Stp [r] H H' → dd.at K H' a → Q (.ref a) H'
theorem ok_law_deed {f : Addr} {fd : FuncData} (F : Fun K "_law_deed" "_law_deed" s_law_deed f fd) (B : Blt mg) (hmin : mg "min" = none) (GT : OwnF P w K mg base "_law_taken" 1 ["_law_row", "_law_many"] (sp_taken K)) (GL : OwnF P w K mg base "_law_loud" 2 ["_law_row"] (sp_drawn K 0 64)) (GA : OwnF P w K mg base "_law_added" 3 ["_law_row", "_law_m"] (sp_law_added K)) (GP : OwnF P w K mg base "_law_parcel" 3 ["_law_row", "_law_m", "_law_name"] (sp_law_parcel K)) : FnOk P w K mg base CX0 4 f fd ["_law_row", "_law_m"] (sp_law_deed K) := by
  refine F.ok sc_law_deed (fun vs H Q E h => ?_) (fun cdv A outer s0 H vs Q E hr h => ?_)
  · obtain ⟨r, sc, M, dv, lk, ns, s, W, bv, rfl, _⟩ := h
    rfl
  · obtain ⟨r, sc, M, dv, lk, ns, s, W, bv, rfl, hR, hM, hrf, h6, hI, k⟩ := h
    have nd := sc_law_deed.nd
    have hu := hu_of hr
    have hu64 : (A.deeper (PyProof.Rows.envOfC "_law_deed" (defScope s_law_deed) s0.heap.objs.size f cdv)).units + 64 < cLine := by
      have := hr.un
      omega
    have r1 := hr.mono (show 1 ≤ 3 by decide)
    have r2 := hr.mono (show 2 ≤ 3 by decide)
    refine ⟨_, (pss_cons (ps_set (i := 2) nd rfl (.inl rfl) (p_call GT r1 (pa_cons (pv 0) (pa_cons pe_int pa_nil))))
      (pss_cons (ps_set (i := 3) nd rfl (.inl rfl) (pe_callB (call_sortedDI rfl) (by rfl) B.sorted PyProof.Rows.boot_sorted (pa_cons (pe_dget hu (pv 1) pe_str (fun _ _ => rfl)) pa_nil)))
      (pss_cons (ps_if (PW.pt (pw_or (pt_cmpR (op_eqD hu64) (pv 3) (pe_lst pa_nil) (nomark _)) (pw_or1 (PW.pt (pw_and (pt_cmpR op_eq (pv 2) pe_int (nomark _)) (pw_and1 (pt_cmpR op_lt (pe_callB call_len_seq (by rfl) B.len PySem.boot_len (pa_cons (pv 3) pa_nil)) pe_int (nomark _)))))))) (pss_one (ps_ret (p_call GA hr (pa_cons (pv 0) (pa_cons (pv 1) pa_nil))))) pss_nil)
      (pss_cons (ps_set (i := 4) nd rfl (.inl rfl) (pe_ix ix_list (pv 3) (p_call GT r1 (pa_cons (pv 0) (pa_cons (pe_callB call_len_seq (by rfl) B.len PySem.boot_len (pa_cons (pv 3) pa_nil)) pa_nil))) (fun _ _ => rfl)))
      (pss_cons (ps_if (pt_cmpR op_lt (pv 2) pe_int (nomark _)) (pss_one (ps_ret (p_call GP hr (pa_cons (pv 0) (pa_cons (pv 1) (pa_cons (pv 4) pa_nil)))))) pss_nil)
      (pss_cons (ps_if (pt_cmpR op_eq (pv 2) pe_int (nomark _)) (pss_one (ps_ret (pe_tup (pa_cons pe_str (pa_cons (pv 4) (pa_cons (p_call GL r2 (pa_cons (pv 0) pa_nil)) (pa_cons (pe_op op_add pe_int (p_call GT r1 (pa_cons (pv 0) (pa_cons (pe_ix ix_list (pe_lst (pa_cons pe_int (pa_cons pe_int pa_nil))) (p_call GT r1 (pa_cons (pv 0) (pa_cons pe_int pa_nil))) (fun _ _ => rfl)) pa_nil)))) pa_nil))))))) pss_nil)
      (pss_cons (ps_if (pt_cmpR op_eq (pv 2) pe_int (nomark _)) (pss_one (ps_ret (pe_tup (pa_cons (pe_ix ix_list (pe_lst (pa_cons pe_str (pa_cons pe_str pa_nil))) (p_call GT r1 (pa_cons (pv 0) (pa_cons pe_int pa_nil))) (fun _ _ => rfl)) (pa_cons (pv 4) pa_nil))))) pss_nil)
      (pss_cons (ps_if (PW.pt (pw_and (pt_cmpR op_eq (pv 2) pe_int (nomark _)) (pw_and (pt_cmpR op_isN (pe_dget hu (pe_dget hu (pe_dget hu (pv 1) pe_str (fun _ _ => rfl)) (pv 4) (fun _ _ => rfl)) pe_str (fun _ _ => rfl)) pe_non (nomark _)) (pw_and1 (pt_cmpR op_eq (p_call GT r1 (pa_cons (pv 0) (pa_cons pe_int pa_nil))) pe_int (nomark _))))))
        (pss_cons (ps_set (i := 5) nd rfl (.inl rfl) (pe_callB (cr_max rfl) (by rfl) B.max PyProof.Rows.boot_max (pa_cons (pe_op op_cat (pe_lst (pa_cons pe_int pa_nil)) (pe_lock (pe_lc (own := [("_law_one", 6)]) (te := tOp (rI0 fun i j => .int (i + j)) (tVar 6) (tC (.int 1))) rfl nd (pi_keys (pe_dget hu (pe_dget hu (pe_dget hu (pv 1) pe_str (fun _ _ => rfl)) (pv 4) (fun _ _ => rfl)) pe_str (fun _ _ => rfl))) (blkOk_by (N := NDe) (sc := defScope s_law_deed) (by decide +kernel)) (fun _ _ _ _ _ => pg_name (i := 6) nd rfl (.inl rfl)) (fun _ _ _ _ _ => pts_nil) (fun _ _ _ _ _ => pe_op op_add (pv 6) pe_int)))) pa_nil)))
        (pss_one (ps_ret (pe_tup (pa_cons pe_str (pa_cons (pv 4) (pa_cons (pe_callB (call_min2 rfl) (by rfl) hmin PyProof.Rows.boot_min (pa_cons pe_int (pa_cons (pe_op op_add (pv 5) (p_call GT r1 (pa_cons (pv 0) (pa_cons pe_int pa_nil)))) pa_nil))) pa_nil))))))) pss_nil)
      (pss_one (ps_ret (pe_tup (pa_cons pe_str pa_nil)))))))))))), ?_⟩
    obtain ⟨kv, o1, oS, oT, oV, oL, ol⟩ := id hM.ob
    have hdv := hM.hdv
    walk_at "rd"
    refine ⟨r, sc, ns, 24, rfl, hR, by decide, fun way H1 w0 w1 hR1 s1 => ?_⟩
    have hMr : ∀ {b : Addr}, b ∈ ofoot M dv lk s W → b ≠ r := fun hb z => hrf (z ▸ hb)
    have hM1 := hM.st s1 (fun b hb => by simpa using hMr hb)
    obtain ⟨kv1, o11, _, _, oV1, _, _⟩ := id hM1.ob
    refine ⟨_, dgs o11 oV1, dv, rfl, _, .inl hM1.hdv, s.vs.map (·.1), vkv_fst s.vs W, by rw [List.length_map]; omega, fun ys p hpm hpw hp => ?_⟩
    walk_at "rd"
    refine ⟨Nat.zero_le _, fun p2 hp2 => ?_⟩
    have s2 := Stp.new (o := .lst (ys.map V.int)) hp
    have e2 : upd H1 p (.lst (ys.map V.int)) p = some (.lst (ys.map V.int)) := upd_same
    have hpr : p ≠ r := row_ne hR1 hp
    generalize upd H1 p (.lst (ys.map V.int)) = H2 at *
    have s3 := Stp.new (o := .lst []) hp2
    have e3 : upd H2 p2 (.lst []) p2 = some (.lst []) := upd_same
    have e23 := s3.keep _ _ e2 (by simp)
    have st3 : Stp [r] H _ := (s1.trans (s2.trans s3)).sub (by simp)
    have hR3 := (hR1.st0 s2).st0 s3
    have hM3 := (hM1.st0 s2).st0 s3
    generalize upd H2 p2 (.lst []) = H3 at *
    refine eq_nilL e23 e3 ⟨_, rfl, ?_⟩
    have hlen : ys.length = s.vs.length := by rw [hpm.length_eq, List.length_map]
    have hadd : s.vs.length < 6 → sp_law_added K [.ref r, .ref M] H3 Q E0 := fun h => ⟨r, sc, M, dv, lk, ns, s, W, bv, rfl, hR3, hM3, hrf, h, fun a H' n pn pb wt ld hL hR' st ha => k a H' (.add n pn pb wt ld) hL hR' ((st3.trans st).sub (by simp)) ha⟩
    by_cases hy : ys = []
    · rw [if_pos (by rw [hy]; rfl)]
      exact hadd (by rw [← hlen, hy]; decide)
    rw [if_neg (by simpa using hy)]
    have hpos : 1 ≤ ys.length := List.length_pos_iff.mpr hy
    have pick : ∀ x : Int, 0 ≤ x → x < (ys.length : Int) → ∃ e ∈ s.vs, atI (ys.map V.int) x = some (.int e.1) := fun x x0 x1 => by
      obtain ⟨n, hn, hat⟩ := at_nat (ns := ys) x0 x1
      obtain ⟨e, he, rfl⟩ := List.mem_map.mp (hpm.mem_iff.mp hn)
      exact ⟨e, he, hat⟩
    have par : ∀ e ∈ s.vs, ∀ H', RowAt K H' r sc ns → Stp [r] H H' → sp_law_parcel K [.ref r, .ref M, .int e.1] H' Q E0 := fun e he H' hR' st => ⟨r, sc, M, dv, lk, ns, s, W, bv, e, rfl, hR', hM.st st (fun b hb => by simpa using hMr hb), hrf, he, (hI e he).1, (hI e he).2, fun a H'' dd hL hR'' st' ha => k a H'' dd hL hR'' ((st.trans st').sub (by simp)) ha⟩
    by_cases hw0 : way = 0
    · rw [if_pos hw0]
      refine ⟨_, .inl (.inl (.inl e23)), ?_⟩
      by_cases h66 : ((ys.map V.int).length : Int) < 6
      · rw [if_pos h66]
        rw [List.length_map] at h66
        exact hadd (by omega)
      rw [if_neg h66]
      refine ⟨_, .inl (.inl (.inl e23)), ?_⟩
      rw [List.length_map]
      refine ⟨r, sc, ns, _, rfl, hR3, by omega, fun x H4 x0 x1 hR4 s4 => ?_⟩
      obtain ⟨e, he, hat⟩ := pick x x0 x1
      refine ixL (.inl (.inl (s4.keep _ _ e23 (by simpa using hpr)))) hat ?_
      have st4 : Stp [r] H H4 := (st3.trans s4).sub (by simp)
      rw [if_pos (by omega)]
      exact par e he H4 hR4 st4
    · rw [if_neg hw0]
      refine ⟨_, .inl (.inl (.inl e23)), ?_⟩
      rw [List.length_map]
      refine ⟨r, sc, ns, _, rfl, hR3, by omega, fun x H4 x0 x1 hR4 s4 => ?_⟩
      obtain ⟨e, he, hat⟩ := pick x x0 x1
      refine ixL (.inl (.inl (s4.keep _ _ e23 (by simpa using hpr)))) hat ?_
      have st4 : Stp [r] H H4 := (st3.trans s4).sub (by simp)
      by_cases h9 : way < 9
      · rw [if_pos h9]
        exact par e he H4 hR4 st4
      rw [if_neg h9]
      by_cases h10 : way = 9
      · rw [if_pos h10]
        refine ⟨r, sc, ns, rfl, hR4, fun ld H5 ld0 ld1 hR5 s5 p6 hp6 => ?_⟩
        have s6 := Stp.new (o := .lst [.int 4, .int 64]) hp6
        have e6 : upd H5 p6 (.lst [.int 4, .int 64]) p6 = some (.lst [.int 4, .int 64]) := upd_same
        have hR6 := hR5.st0 s6
        generalize upd H5 p6 (.lst [.int 4, .int 64]) = H6 at *
        refine ⟨r, sc, ns, 2, rfl, hR6, by decide, fun ix H7 i0 i1 hR7 s7 => ?_⟩
        obtain ⟨c, c0, c1, hat2⟩ : ∃ c : Int, 1 ≤ c ∧ c ≤ 64 ∧ atI [V.int 4, V.int 64] ix = some (.int c) := by
          rcases (show ix = 0 ∨ ix = 1 by omega) with rfl | rfl
          · exact ⟨4, by decide, by decide, rfl⟩
          · exact ⟨64, by decide, by decide, rfl⟩
        refine ixL (.inl (.inl (s7.keep _ _ e6 (by simpa using row_ne hR5 hp6)))) hat2 ?_
        refine ⟨r, sc, ns, c, rfl, hR7, c0, fun b H8 b0 b1 hR8 s8 => ⟨_, rfl, by decide, fun p9 hp9 => ?_⟩⟩
        have s9 := Stp.new (o := .tup [.str "lead", .int e.1, .int ld, .int (1 + b)]) hp9
        exact k p9 _ (.vc e.1 (.lead ld (1 + b))) ⟨e, he, rfl, ld0, ld1, by omega, by omega⟩ (hR8.st0 s9) ((st4.trans (s5.trans (s6.trans (s7.trans (s8.trans s9))))).sub (by simp)) (.inl upd_same)
      rw [if_neg h10]
      by_cases h11 : way = 10
      · rw [if_pos h11]
        intro p6 hp6
        have s6 := Stp.new (o := .lst [.str "hush", .str "wake"]) hp6
        have e6 : upd H4 p6 (.lst [.str "hush", .str "wake"]) p6 = some (.lst [.str "hush", .str "wake"]) := upd_same
        have hR6 := hR4.st0 s6
        generalize upd H4 p6 (.lst [.str "hush", .str "wake"]) = H6 at *
        refine ⟨r, sc, ns, 2, rfl, hR6, by decide, fun ix H7 i0 i1 hR7 s7 => ?_⟩
        have e67 := s7.keep _ _ e6 (by simpa using row_ne hR4 hp6)
        have stx : Stp [r] H H7 := (st4.trans (s6.trans s7)).sub (by simp)
        rcases (show ix = 0 ∨ ix = 1 by omega) with rfl | rfl
        · refine ixL (.inl (.inl e67)) (x := .str "hush") rfl fun p9 hp9 => ?_
          have s9 := Stp.new (o := .tup [.str "hush", .int e.1]) hp9
          exact k p9 _ (.vc e.1 (.heard false)) ⟨e, he, rfl, trivial⟩ (hR7.st0 s9) ((stx.trans s9).sub (by simp)) (.inl upd_same)
        · refine ixL (.inl (.inl e67)) (x := .str "wake") rfl fun p9 hp9 => ?_
          have s9 := Stp.new (o := .tup [.str "wake", .int e.1]) hp9
          exact k p9 _ (.vc e.1 (.heard true)) ⟨e, he, rfl, trivial⟩ (hR7.st0 s9) ((stx.trans s9).sub (by simp)) (.inl upd_same)
      rw [if_neg h11]
      by_cases h12 : way = 11
      · rw [if_pos h12]
        have hM4 := hM.st st4 (fun b hb => by simpa using hMr hb)
        obtain ⟨kv4, o14, _, _, oV4, _, _⟩ := id hM4.ob
        have gd := DGet.k (k := (Sum.inl e.1 : Key)) hM4.hdv
        rw [vkv_get W he hM.nm] at gd
        have hO := hM4.vo e he
        obtain ⟨kvo, kc, k1, hK, k3, k4, k5, k6, hne⟩ := id hO
        subst k5
        refine ⟨_, dgs o14 oV4, dv, rfl, _, gd, (W e.1).1, rfl, _, dgs k1 hK.many, ?_⟩
        cases hmany : e.2.2.line.many with
        | some mm =>
          rw [if_neg (show ¬ optV (some mm) = V.non from nofun)]
          refine fun p9 hp9 => ?_
          have s9 := Stp.new (o := .tup [.str "beat"]) hp9
          exact k p9 _ .beat trivial (hR4.st0 s9) ((st4.trans s9).sub (by simp)) (.inl upd_same)
        | none =>
          rw [if_pos (show optV none = V.non from rfl)]
          refine ⟨r, sc, ns, 3, rfl, hR4, by decide, fun z H5 z0 z1 hR5 s5 => ?_⟩
          have st5 : Stp [r] H H5 := (st4.trans s5).sub (by simp)
          refine ⟨rfl, ?_⟩
          by_cases hz : V.int z = V.int 0
          · rw [if_pos hz]
            intro p6 hp6
            have s6 := Stp.new (o := .lst [.int 1]) hp6
            have e6 : upd H5 p6 (.lst [.int 1]) p6 = some (.lst [.int 1]) := upd_same
            have hR6 := hR5.st0 s6
            generalize upd H5 p6 (.lst [.int 1]) = H6 at *
            have s46 : Stp [r] H4 H6 := (s5.trans s6).sub (by simp)
            have nR : ∀ {b : Addr}, b ∈ ofoot M dv lk s W → b ∉ [r] := fun hb => by simpa using hMr hb
            have f1 := nR (ofoot_v he (.inl rfl))
            have f2 := nR (ofoot_v he (.inr rfl))
            have f3 := nR (show M ∈ ofoot M dv lk s W by simp [ofoot])
            have f4 := nR (show dv ∈ ofoot M dv lk s W by simp [ofoot])
            refine lc_came (cm := e.2.2.line.came) (c := (W e.1).2) (s46.keep _ _ k3 f2) (hI e he).2 (by show 6 < 7; decide) (fun R H' od hc s hR' => ?_) fun D H7 hD hl s7 => ?_
            · have hx := hM4.ap e he _ (.inr rfl)
              have g1 := s.keep _ _ (s46.keep _ _ o14 f3) (by simpa using hx.1.symm)
              have g2 := s.keep _ _ (s46.keep _ _ hM4.hdv f4) (by simpa using hx.2.1.symm)
              have g3 := s.keep _ _ (s46.keep _ _ k1 f1) (by simpa using hne)
              have gd' := DGet.k (k := (Sum.inl e.1 : Key)) g2
              rw [vkv_get W he hM.nm] at gd'
              exact ⟨_, rfl, M, _, rfl, dgs g1 oV4, _, rfl, dv, _, rfl, gd', (W e.1).1, _, rfl, dgs g3 hK.came, hR'⟩
            have hcml : (e.2.2.line.came.map fun p => p.1 + 1).length ≤ 90000 := by rw [List.length_map]; exact (hI e he).2
            refine ⟨p6, D, _, _, rfl, rfl, s7.keep _ _ e6 (by simp), hl, ?_, fun p8 hp8 => ?_⟩
            · rw [List.length_map]
              exact Nat.le_trans (Nat.add_le_add_left hcml 1) (by decide)
            have s8 := Stp.new (o := .lst ([V.int 1] ++ (e.2.2.line.came.map fun p => p.1 + 1).map V.int)) hp8
            have e8 : upd H7 p8 (.lst ([V.int 1] ++ (e.2.2.line.came.map fun p => p.1 + 1).map V.int)) p8 = some (.lst ((1 :: (e.2.2.line.came.map fun p => p.1 + 1)).map V.int)) := upd_same
            have hR8 := (hR6.st0 s7).st0 s8
            have st8 : Stp [r] H _ := (st5.trans (s6.trans (s7.trans s8))).sub (by simp)
            generalize upd H7 p8 _ = H8 at *
            refine ⟨p8, 1 :: (e.2.2.line.came.map fun p => p.1 + 1), rfl, .inl (.inl e8), by simp, fun m hm1 hm2 => ?_⟩
            have em := (hI e he).1.max (by decide) (Int.le_refl 1) hm1 hm2
            have m0 := (hI e he).1.r0
            have m1 := (hI e he).1.r1
            refine ⟨r, sc, ns, 4, rfl, hR8, by decide, fun t H9 t0 t1 hR9 s9 => ⟨_, rfl, _, rfl, by decide, fun p10 hp10 => ?_⟩⟩
            have sA := Stp.new (o := .tup [.str "end", .int e.1, .int (if m + t < 1000 then m + t else 1000)]) hp10
            refine k p10 _ (.vc e.1 (.fin (if m + t < 1000 then m + t else 1000))) ⟨e, he, rfl, hmany, ?_, ?_, ?_⟩ (hR9.st0 sA) ((st8.trans (s9.trans sA)).sub (by simp)) (.inl upd_same)
            · split at em <;> split <;> omega
            · split <;> omega
            · split at em <;> split <;> omega
          · rw [if_neg hz]
            refine fun p9 hp9 => ?_
            have s9 := Stp.new (o := .tup [.str "beat"]) hp9
            exact k p9 _ .beat trivial (hR5.st0 s9) ((st5.trans s9).sub (by simp)) (.inl upd_same)
      · rw [if_neg h12]
        refine fun p9 hp9 => ?_
        have s9 := Stp.new (o := .tup [.str "beat"]) hp9
        exact k p9 _ .beat trivial (hR4.st0 s9) ((st4.trans s9).sub (by simp)) (.inl upd_same)
end
end Mx

namespace Mx
open PySem L2
theorem sc_law_use : FnScope ["_law_mixer_here", "_law_deed_here", "_law_word"] ["_law_mixer_here", "_law_deed_here"] (defScope s_law_use) := ⟨rfl, rfl, rfl, by decide +kernel, rfl, by decide +kernel, by decide +kernel⟩
set_option hygiene false in
local macro_rules | `(tactic| walk_at "rd") => `(tactic| try simp only [L2.start, List.map_cons, List.map_nil, List.length_cons, List.length_nil, Nat.reduceAdd, Nat.reduceSub, Nat.reduceLT, Nat.reduceLeDiff, List.replicate_succ, List.replicate_zero, List.append_nil, List.nil_append, List.cons_append, List.set_cons_zero, List.set_cons_succ, List.getElem?_cons_zero, List.getElem?_cons_succ,
  Option.some.injEq, List.cons.injEq, and_true, true_and, and_assoc, reduceCtorEq, L2.V.int.injEq, L2.V.ref.injEq, L2.V.bl.injEq, L2.V.str.injEq, L2.V.ty.injEq, L2.HO.ins.injEq, L2.HO.lst.injEq, L2.HO.tup.injEq, L2.HO.dK.injEq, exists_eq_left', exists_eq_left, exists_eq_right, exists_eq', exists_eq, exists_and_left, exists_and_right, reduceIte, Bool.false_eq_true, Bool.not_true, Bool.not_false,
  L2.tSeq, L2.tIfS, L2.tRet, L2.tRetN, L2.tNext, L2.tAsg, L2.gName, L2.tVar, L2.tC, L2.tCons, L2.tNil, L2.tCB, L2.tOp, L2.tUn, L2.tTup, L2.tLst, L2.tB, L2.tOr, L2.tAnd, L2.tNot, L2.tAndV, L2.tOrV, L2.tNotV, L2.tIf, L2.tTest, L2.tChain, L2.rI, L2.rI0, L2.rU, L2.tDrop, L2.tNever, L2.tCall, L2.tMeth, L2.tMake, L2.rGcd, L2.tFld, L2.sFld, L2.sFldAug, Mx.sFldA, Mx.sFldAugA, L2.rAdd, L2.rSub, L2.rEq, L2.rNe, L2.tDGet, L2.tDIn, L2.tDNotIn, L2.sDPut,
  Mx.isi_int_bool, Mx.isi_int_int, Mx.isi_int_tuple, Mx.isi_int_list, Mx.isi_int_str, Mx.scal_int, Mx.scal_str, Mx.scal_bl, Mx.ofString_inj, Mx.ofString_beq, Mx.lk_cons, Mx.pf_nil, Mx.pf_cons, Mx.sz1, Mx.sz2, List.lookup_nil, String.reduceEq, decide_true, decide_false, decide_eq_true_eq, Int.natAbs_natCast, L2.upd_same, L2.upd_upd, L2.cxOf, L2.gSub, L2.tPar, L2.gCons, L2.gNil, Mx.optV, L2.sDPut, L2.tSl, L2.tPart, Mx.fsM])
set_option hygiene false in
local macro_rules | `(tactic| walk_at "rds") => `(tactic| try simp only [L2.start, List.map_cons, List.map_nil, List.length_cons, List.length_nil, Nat.reduceAdd, Nat.reduceSub, Nat.reduceLT, Nat.reduceLeDiff, List.replicate_succ, List.replicate_zero, List.append_nil, List.nil_append, List.cons_append, List.set_cons_zero, List.set_cons_succ, List.getElem?_cons_zero, List.getElem?_cons_succ,
  Option.some.injEq, List.cons.injEq, and_true, true_and, and_assoc, reduceCtorEq, L2.V.int.injEq, L2.V.ref.injEq, L2.V.bl.injEq, L2.V.str.injEq, L2.V.ty.injEq, L2.HO.ins.injEq, L2.HO.lst.injEq, L2.HO.tup.injEq, L2.HO.dK.injEq, exists_eq_left', exists_eq_left, exists_eq_right, exists_eq', exists_eq, exists_and_left, exists_and_right, reduceIte, Bool.false_eq_true, Bool.not_true, Bool.not_false,
  L2.tSeq, L2.tIfS, L2.tRet, L2.tRetN, L2.tNext, L2.tAsg, L2.gName, L2.tVar, L2.tC, L2.tCons, L2.tNil, L2.tCB, L2.tOp, L2.tUn, L2.tTup, L2.tLst, L2.tB, L2.tOr, L2.tAnd, L2.tNot, L2.tAndV, L2.tOrV, L2.tNotV, L2.tIf, L2.tTest, L2.tChain, L2.rI, L2.rI0, L2.rU, L2.tDrop, L2.tNever, L2.tCall, L2.tMeth, L2.tMake, L2.rGcd, L2.tFld, L2.sFld, L2.sFldAug, Mx.sFldA, Mx.sFldAugA, L2.rAdd, L2.rSub, L2.rEq, L2.rNe, L2.tDGet, L2.tDIn, L2.tDNotIn, L2.sDPut,
  Mx.isi_int_bool, Mx.isi_int_int, Mx.isi_int_tuple, Mx.isi_int_list, Mx.isi_int_str, Mx.scal_int, Mx.scal_str, Mx.scal_bl, Mx.ofString_inj, Mx.ofString_beq, Mx.lk_cons, Mx.pf_nil, Mx.pf_cons, Mx.sz1, Mx.sz2, List.lookup_nil, String.reduceEq, decide_true, decide_false, decide_eq_true_eq, Int.natAbs_natCast, L2.upd_same, L2.upd_upd, L2.cxOf, L2.gSub, L2.tPar, L2.gCons, L2.gNil, Mx.optV, L2.sDPut, L2.tSl, L2.tPart, Mx.fsM, *])

section
variable {P : Program} {w : World} {K : PySem.W.Frag} {mg : Str → Option Value} {base : Heap} {cs : Cs}
def UseDone (K : PySem.W.Frag) (cs : Cs) (m d k : Addr) (s : MixS) (bv : Int → Nat) (H : Hp) (Q : VK) : Deed → Prop
  | .beat => MixOkV bv s ∧ ∀ (r : V) (ys : List Int) (H' : Hp), ys.Perm (s.vs.map (·.1)) → ys.Pairwise (· ≤ ·) → IsQ K H' r (sumOf s ys) → MixAt K cs H' m d k (s.beat ys) → Stp (s.foot m d k) H H' → Q r H'
  | .add n pn pb wt ld => Legal s (.add n pn pb wt ld) ∧ s.vs.length ≤ 100 ∧ ∀ A H', (∀ b ∈ A.foot, H b = none) → MixAt K cs H' m d k { s with vs := s.vs ++ [(n, A, VoiceS.new pn pb (s.coming + wt) ld)] } → Stp [d] H H' → Q .non H'
  | .vc n dd => ∃ e ∈ s.vs, e.1 = n ∧ 0 ≤ n ∧ n ≤ 5 ∧ dd.ok e.2.2 ∧ e.2.2.line.came.length ≤ 90000 ∧ (∃ b, Rb b e.2.2.loud.level ∧ 0 < b ∧ b + 20 < 9000) ∧ ∀ H', MixAt K cs H' m d k { s with vs := setV s.vs n (dd.go e.2.2) } → Stp e.2.1.foot H H' → Q .non H'
def sp_law_use (K : PySem.W.Frag) (cs : Cs) : Sp := fun vs H Q _ => ∃ (m d k a : Addr) (s : MixS) (bv : Int → Nat) (dd : Deed), vs = [.ref m, .ref a] ∧ dd.at K H a ∧ MixAt K cs H m d k s ∧ UseDone K cs m d k s bv H Q dd
structure GU (P : Program) (w : World) (K : PySem.W.Frag) (mg : Str → Option Value) (base : Heap) (cs : Cs) : Prop where
  add : OwnM P w K mg base cs.M "add" 6 ["self", "name", "pace", "wait", "loudness"] (sp_Mixer_add K cs)
  parcel : OwnM P w K mg base cs.M "parcel" 4 ["self", "name", "place", "numbers"] (sp_Mixer_parcel K cs)
  endd : OwnM P w K mg base cs.M "end" 4 ["self", "name", "many"] (sp_Mixer_end K cs)
  lead : OwnM P w K mg base cs.M "lead" 4 ["self", "name", "loudness", "beats"] (sp_Mixer_lead K cs)
  hush : OwnM P w K mg base cs.M "hush" 4 ["self", "name"] (sp_Mixer_heard K cs false)
  wake : OwnM P w K mg base cs.M "wake" 4 ["self", "name"] (sp_Mixer_heard K cs true)
  beat : OwnM P w K mg base cs.M "beat" 8 ["self"] (sp_Mixer_beatV K cs)
theorem ok_law_use {f : Addr} {fd : FuncData} (F : Fun K "_law_use" "_law_use" s_law_use f fd) (B : Blt mg) (G : GU P w K mg base cs) : FnOk P w K mg base CX0 9 f fd ["_law_mixer_here", "_law_deed_here"] (sp_law_use K cs) := by
  refine F.ok sc_law_use (fun vs H Q E h => ?_) (fun cdv A outer sh H vs Q E hr h => ?_)
  · obtain ⟨m, d, k, a, s, bv, dd, rfl, _⟩ := h
    rfl
  · obtain ⟨m, d, k, a, s, bv, dd, rfl, ha, hM, h⟩ := h
    have nd := sc_law_use.nd
    have r4 := hr.mono (show 4 ≤ 8 by decide)
    have r6 := hr.mono (show 6 ≤ 8 by decide)
    refine ⟨_, (pss_cons (ps_set (i := 2) nd rfl (.inl rfl) (pe_ix ix_tup (pv 1) pe_int (fun _ _ => rfl)))
      (pss_cons (ps_if (pt_cmpR op_eq (pv 2) pe_str (nomark _)) (pss_one (ps_ret (p_meth0 G.beat hr (pv 0)))) pss_nil)
      (pss_cons (ps_if (pt_cmpR op_eq (pv 2) pe_str (nomark _)) (pss_one (ps_ret (p_meth G.add r6 (pv 0) (pa_cons (pe_ix ix_tup (pv 1) pe_int (fun _ _ => rfl)) (pa_cons (pe_slice sl_tup (pv 1) (po_some pe_int) (po_some pe_int)) (pa_cons (pe_ix ix_tup (pv 1) pe_int (fun _ _ => rfl)) (pa_cons (pe_ix ix_tup (pv 1) pe_int (fun _ _ => rfl)) pa_nil))))))) pss_nil)
      (pss_cons (ps_if (pt_cmpR op_eq (pv 2) pe_str (nomark _)) (pss_one (ps_ret (p_meth G.parcel r4 (pv 0) (pa_cons (pe_ix ix_tup (pv 1) pe_int (fun _ _ => rfl)) (pa_cons (pe_ix ix_tup (pv 1) pe_int (fun _ _ => rfl)) (pa_cons (pe_callTy call_list_of (by rfl) B.list PyProof.Rows.boot_list (pa_cons (pe_ix ix_tup (pv 1) pe_int (fun _ _ => rfl)) pa_nil)) pa_nil)))))) pss_nil)
      (pss_cons (ps_if (pt_cmpR op_eq (pv 2) pe_str (nomark _)) (pss_one (ps_ret (p_meth G.endd r4 (pv 0) (pa_cons (pe_ix ix_tup (pv 1) pe_int (fun _ _ => rfl)) (pa_cons (pe_ix ix_tup (pv 1) pe_int (fun _ _ => rfl)) pa_nil))))) pss_nil)
      (pss_cons (ps_if (pt_cmpR op_eq (pv 2) pe_str (nomark _)) (pss_one (ps_ret (p_meth G.lead r4 (pv 0) (pa_cons (pe_ix ix_tup (pv 1) pe_int (fun _ _ => rfl)) (pa_cons (pe_ix ix_tup (pv 1) pe_int (fun _ _ => rfl)) (pa_cons (pe_ix ix_tup (pv 1) pe_int (fun _ _ => rfl)) pa_nil)))))) pss_nil)
      (pss_one (ps_ret (pe_ifExp (pt_cmpR op_eq (pv 2) pe_str (nomark _)) (p_meth G.hush r4 (pv 0) (pa_cons (pe_ix ix_tup (pv 1) pe_int (fun _ _ => rfl)) pa_nil)) (p_meth G.wake r4 (pv 0) (pa_cons (pe_ix ix_tup (pv 1) pe_int (fun _ _ => rfl)) pa_nil))))))))))), ?_⟩
    obtain ⟨dx, hma⟩ := id hM.ob
    walk_at "rd"
    cases dd with
    | beat =>
      obtain ⟨hO, kk⟩ := h
      refine ixT ha (x := .str "beat") rfl ?_
      walk_at "rd"
      exact ⟨dx, _, hma, by walk_at "rd", m, d, k, s, bv, rfl, hM, hO, kk⟩
    | add n pn pb wt ld =>
      obtain ⟨⟨hn, n0, n5, pn0, pn1, pb0, pb1, wt0, wt1, ld0, ld1⟩, h6, kk⟩ := h
      refine ixT ha (x := .str "add") rfl ?_
      walk_at "rd"
      refine ⟨dx, _, hma, by walk_at "rd", ixT ha (x := .int n) rfl ⟨a, _, rfl, ha.sq, (by show ¬ (HT.sIx 6 0 (some 2) = 0 ∧ HT.sIx 6 6 (some 4) = 6); decide), fun p hp => ?_⟩⟩
      have s1 := Stp.new (o := .tup (cutV [.str "add", .int n, .int pn, .int pb, .int wt, .int ld] (some 2) (some 4))) hp
      have e1 : upd H p (.tup (cutV [.str "add", .int n, .int pn, .int pb, .int wt, .int ld] (some 2) (some 4))) p = some (.tup [.int pn, .int pb]) := upd_same
      generalize upd H p _ = H1 at *
      have ha1 := TupAt.st (xs := [.str "add", .int n, .int pn, .int pb, .int wt, .int ld]) ha s1
      refine ixT ha1 (x := .int wt) rfl (ixT ha1 (x := .int ld) rfl ?_)
      exact ⟨m, d, k, p, s, n, pn, pb, wt, ld, rfl, hM.st0 s1, hn, n0, n5, e1, ⟨pn0, pn1⟩, ⟨pb0, pb1⟩, ⟨wt0, wt1⟩, ⟨ld0, ld1⟩, h6, fun A H' hA hM' s2 => kk A H' (fun b hb => s1.free (hA b hb) (by simp)) hM' ((s1.trans s2).sub (by simp))⟩
    | vc n d =>
      obtain ⟨e, he, rfl, n0, n5, hok, hlen, hV, kk⟩ := h
      cases d with
      | par pl xs =>
        obtain ⟨tt, h1, h2⟩ := ha
        refine ixT h1 (x := .str "parcel") rfl ?_
        walk_at "rd"
        refine ⟨dx, _, hma, by walk_at "rd", ixT h1 (x := .int e.1) rfl (ixT h1 (x := .int pl) rfl (ixT h1 (x := .ref tt) rfl ⟨tt, rfl, _, .inr h2.sq, fun l hl => ?_⟩))⟩
        have s1 := Stp.new (o := .lst (xs.map V.int)) hl
        exact ⟨m, d, k, l, s, e, pl, xs, rfl, hM.st0 s1, he, n0, n5, .inl (.inl upd_same), fun z => (hM.vo e he).some _ z hl, hok, hlen, fun H' hM' s2 => kk H' hM' ((s1.trans s2).sub (by simp))⟩
      | fin mn =>
        refine ixT (xs := [.str "end", .int e.1, .int mn]) ha (x := .str "end") rfl ?_
        walk_at "rd"
        refine ⟨dx, _, hma, by walk_at "rd", ixT (xs := [.str "end", .int e.1, .int mn]) ha (x := .int e.1) rfl (ixT (xs := [.str "end", .int e.1, .int mn]) ha (x := .int mn) rfl ?_)⟩
        exact ⟨m, d, k, s, e, mn, rfl, hM, he, n0, n5, hok.1, hok.2.1, hok.2.2.1, hok.2.2.2, kk⟩
      | lead l b =>
        refine ixT (xs := [.str "lead", .int e.1, .int l, .int b]) ha (x := .str "lead") rfl ?_
        walk_at "rd"
        obtain ⟨l0, l1, b0, b1⟩ := hok
        obtain ⟨bb, hb1, hb2, hb3⟩ := hV
        refine ⟨dx, _, hma, by walk_at "rd", ixT (xs := [.str "lead", .int e.1, .int l, .int b]) ha (x := .int e.1) rfl (ixT (xs := [.str "lead", .int e.1, .int l, .int b]) ha (x := .int l) rfl (ixT (xs := [.str "lead", .int e.1, .int l, .int b]) ha (x := .int b) rfl ?_))⟩
        exact ⟨m, d, k, s, e, l, b, bb, rfl, hM, he, n0, n5, l0, l1, b0, b1, hb1, hb2, hb3, kk⟩
      | heard b =>
        cases b with
        | true =>
          refine ixT (xs := [.str "wake", .int e.1]) ha (x := .str "wake") rfl ?_
          walk_at "rd"
          exact ⟨dx, _, hma, by walk_at "rd", ixT (xs := [.str "wake", .int e.1]) ha (x := .int e.1) rfl ⟨m, d, k, s, e, rfl, hM, he, n0, n5, kk⟩⟩
        | false =>
          refine ixT (xs := [.str "hush", .int e.1]) ha (x := .str "hush") rfl ?_
          walk_at "rd"
          exact ⟨dx, _, hma, by walk_at "rd", ixT (xs := [.str "hush", .int e.1]) ha (x := .int e.1) rfl ⟨m, d, k, s, e, rfl, hM, he, n0, n5, kk⟩⟩
end
end Mx

namespace Mx
open PySem L2
theorem LoudOk.mono {d e : Nat} {s : LoudS} (h : LoudOk d s) (l : d ≤ e) : LoudOk e s := by
  obtain ⟨D, a, b, h1, h2⟩ := h
  exact ⟨D, a, b, h1, Nat.lt_of_lt_of_le h2 (Nat.pow_le_pow_right (by decide) l)⟩
theorem VoiceOk.mono {d e : Nat} {soft : Int} {v : VoiceS} (h : VoiceOk d soft v) (l : d ≤ e) : VoiceOk e soft v :=
  ⟨h.line, h.loud.mono l, h.word, h.stR, h.stF, h.part.mono (by omega), fun z => (h.partS z).mono (by omega), fun z => (h.height z).mono (by omega)⟩
theorem VoiceOk.louded {d : Nat} {soft : Int} {v : VoiceS} (h : VoiceOk d soft v) {l : LoudS} (hl : LoudOk d l) : VoiceOk d soft { v with loud := l } :=
  ⟨h.line, hl, h.word, h.stR, h.stF, h.part, h.partS, h.height⟩
theorem VoiceOk.lined {d : Nat} {soft : Int} {v : VoiceS} (h : VoiceOk d soft v) {l : LineS} (hl : LineOk l) : VoiceOk d soft { v with line := l } :=
  ⟨hl, h.loud, h.word, h.stR, h.stF, h.part, h.partS, h.height⟩
theorem putAll_mem : ∀ (xs : List Int) (c : List (Int × Int)) (i : Int) (p : Int × Int), p ∈ putAll c i xs → p ∈ c ∨ (i ≤ p.1 ∧ p.1 < i + (xs.length : Int) ∧ p.2 ∈ xs)
  | [], c, i, p, h => .inl h
  | x :: r, c, i, p, h => by
    rcases putAll_mem r (put1 c i x) (i + 1) p h with h | ⟨h1, h2, h3⟩
    · unfold put1 at h
      split at h
      · exact .inl h
      · rcases List.mem_append.mp h with h | h
        · exact .inl h
        · rw [List.mem_singleton.mp h]
          exact .inr ⟨Int.le_refl _, by rw [List.length_cons]; show i < _; omega, List.mem_cons_self⟩
    · exact .inr ⟨by omega, by rw [List.length_cons]; omega, List.mem_cons_of_mem _ h3⟩
theorem put1_has (c : List (Int × Int)) (i x : Int) : (∃ p ∈ put1 c i x, p.1 = i) ∧ ∀ p ∈ c, p ∈ put1 c i x := by
  unfold put1
  split
  · rename_i h
    refine ⟨?_, fun p hp => hp⟩
    unfold look at h
    cases e : c.find? fun p => decide (p.1 = i) with
    | none => rw [e] at h; cases h
    | some p => exact ⟨p, List.mem_of_find?_eq_some e, of_decide_eq_true (List.find?_some (p := fun p : Int × Int => decide (p.1 = i)) e)⟩
  · exact ⟨⟨(i, x), List.mem_append_right _ (by simp), rfl⟩, fun p hp => List.mem_append_left _ hp⟩
theorem putAll_has : ∀ (xs : List Int) (c : List (Int × Int)) (i : Int), (∀ j : Int, i ≤ j → j < i + (xs.length : Int) → ∃ p ∈ putAll c i xs, p.1 = j) ∧ ∀ p ∈ c, p ∈ putAll c i xs
  | [], c, i => ⟨fun j h1 h2 => by simp at h2; omega, fun p hp => hp⟩
  | x :: r, c, i => by
    obtain ⟨h1, h2⟩ := putAll_has r (put1 c i x) (i + 1)
    obtain ⟨⟨p, hp, e⟩, g2⟩ := put1_has c i x
    refine ⟨fun j j1 j2 => ?_, fun p hp => h2 p (g2 p hp)⟩
    by_cases ej : j = i
    · exact ⟨p, h2 p hp, by rw [e, ej]⟩
    · exact h1 j (by omega) (by rw [List.length_cons] at j2; omega)
theorem LInv.take {l : LineS} (h : LInv l) {pl : Int} {xs : List Int} (hp : ParOk l pl xs) : LInv (l.take pl xs) := by
  obtain ⟨p0, p1, n0, n1, nr, rm⟩ := hp
  have hroom : l.room ≤ 1000 ∧ ∀ m, l.many = some m → l.room = m := by
    unfold LineS.room
    cases e : l.many with
    | none => exact ⟨Int.le_refl _, fun _ h => nomatch h⟩
    | some m => exact ⟨(h.mn m e).2.1, fun m' h' => by cases h'; rfl⟩
  have hr : (l.take pl xs).reach = Max.max l.reach (pl + (xs.length : Int)) := rfl
  have hc : (l.take pl xs).came = putAll l.came pl xs := rfl
  have hr0 := h.r0
  have hr1 := h.r1
  refine ⟨fun p hpm => ?_, by rw [hr]; omega, by rw [hr]; omega, ?_, fun m hm => ?_⟩
  · rw [hc] at hpm
    rw [hr]
    rcases putAll_mem xs l.came pl p hpm with q | ⟨q1, q2, _⟩
    · have := h.lk p q
      omega
    · omega
  · right
    rw [hr, hc]
    obtain ⟨a1, a2⟩ := putAll_has xs l.came pl
    by_cases hb : l.reach ≤ pl + (xs.length : Int)
    · obtain ⟨p, hp, e⟩ := a1 (pl + (xs.length : Int) - 1) (by omega) (by omega)
      exact ⟨p, hp, by omega⟩
    · rcases h.rk with z | ⟨p, hp, e⟩
      · omega
      · exact ⟨p, a2 p hp, by omega⟩
  · have hm' : l.many = some m := hm
    have := h.mn m hm'
    have := hroom.2 m hm'
    refine ⟨this ▸ ‹1 ≤ m ∧ m ≤ 1000 ∧ l.reach ≤ m›.1, ‹1 ≤ m ∧ m ≤ 1000 ∧ l.reach ≤ m›.2.1, ?_⟩
    rw [hr]
    omega
theorem LInv.fin {l : LineS} (h : LInv l) {m : Int} (m0 : 1 ≤ m) (m1 : m ≤ 1000) (hm : l.reach ≤ m) : LInv { l with many := some m } :=
  ⟨h.lk, h.r0, h.r1, h.rk, fun m' e => by cases e; exact ⟨m0, m1, hm⟩⟩
theorem LineOk.take {l : LineS} (h : LineOk l) {pl : Int} {xs : List Int} (hp : ParOk l pl xs) (hl : l.came.length ≤ 90000) : LineOk (l.take pl xs) := by
  obtain ⟨a1, a2, a3, a4, a5, a6⟩ := h
  refine ⟨a1, a2, a3, a4, fun p hpm => ?_, ?_⟩
  · rcases putAll_mem xs l.came pl p hpm with q | ⟨_, _, q⟩
    · exact a5 p q
    · exact hp.nr _ q
  · have := putAll_len xs l.came pl
    have := hp.n1
    show (putAll l.came pl xs).length ≤ _
    omega
/-- what holds of a mixer behind so many deeds -/
structure MS (s : MixS) (bv : Int → Nat) (i : Nat) : Prop where
  s1 : 1 ≤ s.soft
  s2 : s.soft ≤ 16
  nm : ∀ e ∈ s.vs, 0 ≤ e.1 ∧ e.1 ≤ 5
  nd : (s.vs.map (·.1)).Nodup
  vo : ∀ e ∈ s.vs, VoiceOk (bv e.1) s.soft e.2.2
  b7 : ∀ n, 7 ≤ bv n
  bt : ∀ n, bv n ≤ 7 + 6 * i
  b0 : ∀ n, n ∉ s.vs.map (·.1) → bv n = 7
  bs : sB bv (s.vs.map (·.1)) ≤ 32 * s.vs.length + 6 * i
  li : ∀ e ∈ s.vs, LInv e.2.2.line ∧ e.2.2.line.came.length ≤ 32 * i
  lk : s.lacked.length ≤ 6 * i
theorem MS.six {s : MixS} {bv : Int → Nat} {i : Nat} (h : MS s bv i) : s.vs.length ≤ 6 := by
  have hs : ∀ x ∈ s.vs.map (·.1), x ∈ ([0, 1, 2, 3, 4, 5] : List Int) := fun x hx => by
    obtain ⟨e, he, rfl⟩ := List.mem_map.mp hx
    have := h.nm e he
    simp
    omega
  have := nd_len h.nd hs
  rw [List.length_map] at this
  exact this
theorem sB_mem (bv : Int → Nat) : ∀ {ys : List Int} {n : Int}, n ∈ ys → bv n + 25 ≤ sB bv ys
  | m :: r, n, h => by
    show _ ≤ bv m + 25 + sB bv r
    rcases List.mem_cons.mp h with rfl | h
    · omega
    · have := sB_mem bv h
      omega
theorem sB_same {bv bv' : Int → Nat} : ∀ {ys : List Int}, (∀ n ∈ ys, bv' n = bv n) → sB bv' ys = sB bv ys
  | [], _ => rfl
  | m :: r, h => by
    show bv' m + 25 + sB bv' r = bv m + 25 + sB bv r
    rw [h m List.mem_cons_self, sB_same fun n hn => h n (List.mem_cons_of_mem _ hn)]
theorem sB_six {bv : Int → Nat} : ∀ {ys : List Int} {n : Int}, ys.Nodup → sB (fun i => if i = n then bv i + 6 else bv i) ys ≤ sB bv ys + 6
  | [], _, _ => by show 0 ≤ _; omega
  | m :: r, n, h => by
    rw [List.nodup_cons] at h
    show (if m = n then bv m + 6 else bv m) + 25 + sB _ r ≤ bv m + 25 + sB bv r + 6
    by_cases e : m = n
    · rw [if_pos e, sB_same (bv := bv) fun k hk => if_neg fun z => h.1 (by rw [e, ← z]; exact hk)]
      omega
    · rw [if_neg e]
      have := sB_six (bv := bv) (n := n) h.2
      omega
theorem MS.ok {s : MixS} {bv : Int → Nat} {i : Nat} (h : MS s bv i) (hi : i ≤ 160) : MixOkV bv s ∧ ∀ e ∈ s.vs, 7 ≤ bv e.1 ∧ bv e.1 ≤ 1000 := by
  have h6 := h.six
  have hb := h.bs
  have hl := h.lk
  refine ⟨⟨h.s1, h.s2, fun e _ => by have := h.b7 e.1; omega, h.vo, h.nm, h6, by omega, by omega⟩, fun e he => ⟨h.b7 e.1, ?_⟩⟩
  have := h.bt e.1
  omega
theorem MS.beat {s : MixS} {bv : Int → Nat} {i : Nat} (h : MS s bv i) {ys : List Int} (hy : ys.Perm (s.vs.map (·.1))) : MS (s.beat ys) bv (i + 1) := by
  have e1 : (s.beat ys).vs.map (·.1) = s.vs.map (·.1) := by
    show (s.vs.map s.step).map (·.1) = _
    rw [List.map_map]
    rfl
  have e2 : (s.beat ys).vs.length = s.vs.length := by
    show (s.vs.map s.step).length = _
    rw [List.length_map]
  have hm : ∀ f ∈ (s.beat ys).vs, ∃ e ∈ s.vs, f = s.step e := fun f hf => by
    obtain ⟨e, he, q⟩ := List.mem_map.mp hf
    exact ⟨e, he, q.symm⟩
  have h6 := h.six
  refine ⟨h.s1, h.s2, fun f hf => ?_, by rw [e1]; exact h.nd, fun f hf => ?_, h.b7, fun n => Nat.le_trans (h.bt n) (by omega), fun n hn => h.b0 n (by rw [e1] at hn; exact hn), by rw [e1, e2]; have := h.bs; omega, fun f hf => ?_, ?_⟩
  · obtain ⟨e, he, rfl⟩ := hm f hf
    exact h.nm e he
  · obtain ⟨e, he, rfl⟩ := hm f hf
    exact (h.vo e he).give h.s1 h.s2 _
  · obtain ⟨e, he, rfl⟩ := hm f hf
    have el : (s.step e).2.2.line = e.2.2.line := give_line _ _ _
    rw [el]
    have := h.li e he
    exact ⟨this.1, by omega⟩
  · show (s.lacked ++ ((ys.filter (lackN s.vs s.coming)).map fun n => (n, s.coming))).length ≤ _
    rw [List.length_append, List.length_map]
    have g1 := List.length_filter_le (lackN s.vs s.coming) ys
    rw [hy.length_eq, List.length_map] at g1
    have := h.lk
    omega
theorem MS.add {s : MixS} {bv : Int → Nat} {i : Nat} (h : MS s bv i) {n pn pb wt ld : Int} {A : VA} (hL : Legal s (.add n pn pb wt ld)) : MS { s with vs := s.vs ++ [(n, A, VoiceS.new pn pb (s.coming + wt) ld)] } bv (i + 1) := by
  obtain ⟨hn, n0, n5, pn0, pn1, pb0, pb1, wt0, wt1, ld0, ld1⟩ := hL
  have hmm : ∀ f ∈ s.vs ++ [(n, A, VoiceS.new pn pb (s.coming + wt) ld)], f ∈ s.vs ∨ f = (n, A, VoiceS.new pn pb (s.coming + wt) ld) := fun f hf => by simpa using hf
  have e1 : (s.vs ++ [(n, A, VoiceS.new pn pb (s.coming + wt) ld)]).map (·.1) = s.vs.map (·.1) ++ [n] := by rw [List.map_append]; rfl
  refine ⟨h.s1, h.s2, fun f hf => ?_, ?_, fun f hf => ?_, h.b7, fun n => Nat.le_trans (h.bt n) (by omega), fun k hk => h.b0 k fun z => hk ?_, ?_, fun f hf => ?_, ?_⟩
  · rcases hmm f hf with q | rfl
    · exact h.nm f q
    · exact ⟨n0, n5⟩
  · show ((s.vs ++ [(n, A, VoiceS.new pn pb (s.coming + wt) ld)]).map (·.1)).Nodup
    rw [e1, List.nodup_append]
    exact ⟨h.nd, by simp, fun a ha b hb z => hn (by simp at hb; rw [← hb, ← z]; exact ha)⟩
  · rcases hmm f hf with q | rfl
    · exact h.vo f q
    · refine (new_ok (n := ld) (v := VoiceS.new pn pb (s.coming + wt) ld) ⟨pn0, pn1, pb0, pb1, (by intro p hp; cases hp), Nat.zero_le _⟩ ld0 ld1 rfl rfl rfl).mono (h.b7 n)
  · rw [e1]
    exact List.mem_append_left _ z
  · show sB bv ((s.vs ++ [(n, A, VoiceS.new pn pb (s.coming + wt) ld)]).map (·.1)) ≤ 32 * (s.vs ++ [(n, A, VoiceS.new pn pb (s.coming + wt) ld)]).length + _
    rw [e1, sB_snoc, h.b0 n hn, List.length_append, List.length_singleton]
    have := h.bs
    omega
  · rcases hmm f hf with q | rfl
    · have := h.li f q
      exact ⟨this.1, by omega⟩
    · exact ⟨⟨(fun p hp => nomatch hp), Int.le_refl 0, (by show (0 : Int) ≤ 1000; decide), .inl rfl, (fun m e => nomatch e)⟩, Nat.zero_le _⟩
  · have := h.lk
    show s.lacked.length ≤ _
    omega
theorem MS.vc {s : MixS} {bv : Int → Nat} {i : Nat} (h : MS s bv i) (hi : i ≤ 200) {e : MV} (he : e ∈ s.vs) {d : VDeed} (hd : d.ok e.2.2) : MS { s with vs := setV s.vs e.1 (d.go e.2.2) } (bvd bv e.1 d) (i + 1) := by
  have hle : ∀ n, bv n ≤ bvd bv e.1 d n := fun n => by
    cases d with
    | lead l b => show _ ≤ if n = e.1 then bv n + 6 else bv n; split <;> omega
    | par => exact Nat.le_refl _
    | fin => exact Nat.le_refl _
    | heard => exact Nat.le_refl _
  have hlt : ∀ n, bvd bv e.1 d n ≤ bv n + 6 := fun n => by
    cases d with
    | lead l b => show (if n = e.1 then bv n + 6 else bv n) ≤ _; split <;> omega
    | par => exact Nat.le_add_right _ _
    | fin => exact Nat.le_add_right _ _
    | heard => exact Nat.le_add_right _ _
  have hne : ∀ n, n ≠ e.1 → bvd bv e.1 d n = bv n := fun n hn => by
    cases d with
    | lead l b => exact if_neg hn
    | par => rfl
    | fin => rfl
    | heard => rfl
  have hV := h.vo e he
  have hli := h.li e he
  have hVn : VoiceOk (bvd bv e.1 d e.1) s.soft (d.go e.2.2) := by
    cases d with
    | lead l b =>
      show VoiceOk (if e.1 = e.1 then bv e.1 + 6 else bv e.1) s.soft { e.2.2 with loud := e.2.2.loud.to l b }
      rw [if_pos rfl]
      exact (hV.mono (Nat.le_add_right _ 6)).louded (hV.loud.to hd.1 hd.2.1 hd.2.2.1 hd.2.2.2)
    | par pl xs => exact hV.lined (hV.line.take hd (by omega))
    | fin mn =>
      obtain ⟨a1, a2, a3, a4, a5, a6⟩ := hV.line
      exact hV.lined (l := { e.2.2.line with many := some mn }) ⟨a1, a2, a3, a4, a5, a6⟩
    | heard b => exact ⟨hV.line, hV.loud, hV.word, hV.stR, hV.stF, hV.part, hV.partS, hV.height⟩
  have hLn : LInv (d.go e.2.2).line ∧ (d.go e.2.2).line.came.length ≤ 32 * (i + 1) := by
    cases d with
    | lead l b => exact ⟨hli.1, show e.2.2.line.came.length ≤ _ by omega⟩
    | par pl xs =>
      refine ⟨hli.1.take hd, ?_⟩
      have h1 := putAll_len xs e.2.2.line.came pl
      have h2 := hd.n1
      show (putAll e.2.2.line.came pl xs).length ≤ _
      omega
    | fin mn => exact ⟨hli.1.fin hd.2.1 hd.2.2.1 hd.2.2.2, show e.2.2.line.came.length ≤ _ by omega⟩
    | heard b => exact ⟨hli.1, show e.2.2.line.came.length ≤ _ by omega⟩
  have e1 : (setV s.vs e.1 (d.go e.2.2)).map (·.1) = s.vs.map (·.1) := setV_names _ _ _
  refine ⟨h.s1, h.s2, fun f hf => ?_, by show ((setV s.vs e.1 (d.go e.2.2)).map (·.1)).Nodup; rw [e1]; exact h.nd, fun f hf => ?_, fun n => Nat.le_trans (h.b7 n) (hle n), fun n => Nat.le_trans (hlt n) (by have := h.bt n; omega), fun n hn => ?_, ?_, fun f hf => ?_, ?_⟩
  · obtain ⟨e', he', q1, _, _⟩ := setV_mem hf
    rw [← q1]
    exact h.nm e' he'
  · obtain ⟨e', he', q1, q2, c⟩ := setV_mem hf
    rcases c with ⟨c1, c2⟩ | ⟨c1, c2⟩
    · rw [c1, c2]
      exact hVn
    · rw [c2] at c1 ⊢
      rw [hne _ c1]
      exact h.vo e' he'
  · have hn' : n ∉ s.vs.map (·.1) := by
      intro z
      refine hn ?_
      show n ∈ (setV s.vs e.1 (d.go e.2.2)).map (·.1)
      rw [e1]
      exact z
    rw [hne n fun z => hn' (List.mem_map.mpr ⟨e, he, z.symm⟩)]
    exact h.b0 n hn'
  · show sB (bvd bv e.1 d) ((setV s.vs e.1 (d.go e.2.2)).map (·.1)) ≤ 32 * (setV s.vs e.1 (d.go e.2.2)).length + _
    rw [e1, show (setV s.vs e.1 (d.go e.2.2)).length = s.vs.length by unfold setV; rw [List.length_map]]
    have hb := h.bs
    cases d with
    | lead l b =>
      have := sB_six (bv := bv) (n := e.1) h.nd
      show sB (fun i => if i = e.1 then bv i + 6 else bv i) _ ≤ _
      omega
    | par => show sB bv _ ≤ _; omega
    | fin => show sB bv _ ≤ _; omega
    | heard => show sB bv _ ≤ _; omega
  · obtain ⟨e', he', q1, q2, c⟩ := setV_mem hf
    rcases c with ⟨c1, c2⟩ | ⟨c1, c2⟩
    · rw [c2]
      exact hLn
    · rw [c2]
      have := h.li e' he'
      exact ⟨this.1, by omega⟩
  · have := h.lk
    show s.lacked.length ≤ _
    omega
end Mx

namespace Mx
open PySem L2
/-- a mixer behind a deed -/
inductive After (s : MixS) : Deed → MixS → Prop
  | beat (ys : List Int) : ys.Perm (s.vs.map (·.1)) → ys.Pairwise (· ≤ ·) → After s .beat (s.beat ys)
  | add (n pn pb wt ld : Int) (A : VA) : After s (.add n pn pb wt ld) { s with vs := s.vs ++ [(n, A, VoiceS.new pn pb (s.coming + wt) ld)] }
  | vc (e : MV) (d : VDeed) : e ∈ s.vs → After s (.vc e.1 d) { s with vs := setV s.vs e.1 (d.go e.2.2) }
def DueOk (K : PySem.W.Frag) (H : Hp) (s : MixS) (due : V) (dd : Deed) : Prop := match dd with
  | .beat => ∃ ys : List Int, ys.Perm (s.vs.map (·.1)) ∧ ys.Pairwise (· ≤ ·) ∧ IsQ K H due (sumOf s ys)
  | _ => due = .non
theorem DueOk.st {K : PySem.W.Frag} {H H' : Hp} {F : List Addr} {s : MixS} {due : V} {dd : Deed} (h : DueOk K H s due dd) (g : Stp F H H') : DueOk K H' s due dd := by
  cases dd with
  | beat => obtain ⟨ys, h1, h2, h3⟩ := h; exact ⟨ys, h1, h2, h3.st g⟩
  | add => exact h
  | vc => exact h
structure Iv (K : PySem.W.Frag) (cs : Cs) (Hb H : Hp) (r sc m d k M dv lk : Addr) (ns : List Int) (s : MixS) (W : WD) (bv : Int → Nat) (i : Nat) : Prop where
  rw : Rw K Hb r sc ns H
  mx : MixAt K cs H m d k s
  om : OMx K H M dv lk s W bv
  ms : MS s bv i
  fr : ∀ b ∈ s.foot m d k, Hb b = none
  fo : ∀ b ∈ ofoot M dv lk s W, Hb b = none
  ap : ∀ b ∈ ofoot M dv lk s W, b ∉ s.foot m d k
theorem own_all {K : PySem.W.Frag} {H : Hp} {M dv lk : Addr} {s : MixS} {W : WD} {bv : Int → Nat} {i : Nat} {dd : Deed} {Q : VK} (hM : OMx K H M dv lk s W bv) (hS : MS s bv i) (hi : i ≤ 160) (hL : Legal s dd)
    (k : ∀ due H' W' bv', DueOk K H' s due dd → (∀ s', After s dd s' → OMx K H' M dv lk s' W' bv' ∧ MS s' bv' (i + 1) ∧ ∀ b ∈ ofoot M dv lk s' W', b ∈ ofoot M dv lk s W ∨ H b = none) → Stp (ofoot M dv lk s W) H H' → Q due H') : OwnDone K M dv lk s W bv H Q dd := by
  have hMO := hS.ok hi
  cases dd with
  | beat =>
    refine ⟨hMO.1, hMO.2, fun r ys H' hpm hpw hq hM' st => k r H' W bv ⟨ys, hpm, hpw, hq⟩ (fun s' hA => ?_) st⟩
    cases hA with
    | beat ys' hpm' hpw' =>
      rw [sorted_eq hpm' hpw' hpm hpw]
      refine ⟨hM', hS.beat hpm, fun b hb => .inl ?_⟩
      have e : ofoot M dv lk (s.beat ys) W = ofoot M dv lk s W := by
        unfold ofoot MixS.names
        show _ :: _ :: _ :: own W ((s.vs.map s.step).map (·.1)) = _
        rw [List.map_map]
        rfl
      rw [e] at hb
      exact hb
  | add n pn pb wt ld =>
    refine ⟨hL.1, by have := hS.six; omega, hL.2.2.2.2.2.2.2.2.2.1, hL.2.2.2.2.2.2.2.2.2.2, fun D0 C0 H' hD hC hDC hM' st => k .non H' (W.put n (D0, C0)) bv rfl (fun s' hA => ?_) (st.sub (by simp [ofoot]))⟩
    cases hA with
    | add _ _ _ _ _ A =>
      refine ⟨hM' A, hS.add hL, fun b hb => ?_⟩
      rcases ofoot_or hb with h | h | h | ⟨e, he, h⟩
      · exact .inl (by rw [h]; simp [ofoot])
      · exact .inl (by rw [h]; simp [ofoot])
      · exact .inl (by rw [h]; simp [ofoot])
      · rcases (by simpa using he : e ∈ s.vs ∨ e = (n, A, VoiceS.new pn pb (s.coming + wt) ld)) with q | rfl
        · have hne : e.1 ≠ n := fun z => hL.1 (List.mem_map.mpr ⟨e, q, z⟩)
          rw [show W.put n (D0, C0) e.1 = W e.1 from if_neg hne] at h
          exact .inl (ofoot_v q h)
        · rw [show W.put n (D0, C0) n = (D0, C0) from if_pos rfl] at h
          rcases h with h | h
          · exact .inr (by rw [h]; exact hD)
          · exact .inr (by rw [h]; exact hC)
  | vc n d =>
    obtain ⟨e, he, rfl, hok⟩ := hL
    refine ⟨e, he, rfl, hok, by have := (hS.li e he).2; omega, hS.vo e he, fun H' hM' st => k .non H' W (bvd bv e.1 d) rfl (fun s' hA => ?_) (st.sub fun b hb => ofoot_v he (by simpa using hb))⟩
    generalize en : e.1 = n at hA
    cases hA with
    | vc e' _ he' =>
      have := nodup_inj hS.nd he' he en.symm
      subst this
      refine ⟨hM', hS.vc (by omega) he hok, fun b hb => .inl ?_⟩
      rw [ofoot_set] at hb
      exact hb
end Mx

namespace L2
open PySem PySem.Spec PyProof.Rows LamX
/-! ### sorted(xs, key=lambda p: (p[1], p[0])), any length -/
section
variable {prog : Program} {w : World} {A : Around} {s : Shared}
theorem sub_raw {env : Env} {E : Value → Shared → Prop} {Q : Value → Shared → Prop} {a : Str} {t : Addr} {its : Array Value} {m : Str → Option Value} {i : Int} {j : Nat} {x : Value} {j0 : Nat} {p1 p2 p3 : Pos} (hk : env.scope.kind = .function) (hl : env.kindOf a = some .local) (hn : s.heap.Ns env.locals m) (hv : m a = some (.ref t))
    (ht : IsTup s.heap t its) (hlo : -(2 ^ 63) ≤ i) (hhi : i < 2 ^ 63) (hj : seqIndex? i its.size = some j) (hx : its[j]? = some x) (hd : (a == ("__debug__" : Str)) = false) (h : ∀ tk, Q x { s with toks := tk }) :
    wpAny (model prog w) A (eval (.Subscript (.Name a p1) (.Constant (.int i) j0 p2) p3) env) Q E s := by
  refine Subscript_ (wpAny_Name (wpAny_loadName_local hk hl hn hv ?_) hd)
  refine wpAny_Constant_int ?_
  exact subscriptTail_builtinR (x := x) (s := { s with toks := s.toks + 1 }) ht.typeIs slot_tuple_getitem.lookup (getItem_tuple (s := { s with toks := s.toks + 1 }) (Q := fun r s' => r = x ∧ Q r s') ht hlo hhi hj hx ⟨rfl, h _⟩) (by rfl)
theorem swap_call {f c' t : Addr} {qual a : Str} {params : Arguments} {scope : Scope} {clos : List (Str × Addr)} {pm ctv : Value} {n b : Int} {tn tb : Tok} {p1 p2 p3 p4 p5 p6 p7 : Pos} {j1 j2 x1 : Nat}
    (hbind : bindArgs (PySem.W.kla_fn "<lambda>" qual params (.Tuple [.Subscript (.Name a p1) (.Constant (.int 1) j1 p2) p3, .Subscript (.Name a p4) (.Constant (.int 0) j2 p5) p6] x1 p7) scope clos pm (.ref c') ctv) ⟨[.ref t], []⟩ = pure [(a, .ref t)])
    (hkd : scope.kind = .function) (hco : scope.isCoroutine = false) (hgen : scope.isGenerator = false) (hpar : scope.names.lookup a = some .local) (hcell : ∀ x ∈ scope.names, x.2 ≠ .cell) (hd : (a == ("__debug__" : Str)) = false)
    (hroom : A.depth < recursionLimit) (nl : s.heap.NoLimit) (hob : s.heap.get? f = some (PySem.W.kla_obj "<lambda>" qual params (.Tuple [.Subscript (.Name a p1) (.Constant (.int 1) j1 p2) p3, .Subscript (.Name a p4) (.Constant (.int 0) j2 p5) p6] x1 p7) scope clos pm c' ctv))
    (hcode : ∃ (oc : Obj) (vs : Array Value) (tq : Tok), s.heap.get? c' = some oc ∧ oc.data = .fields vs ∧ vs[1]? = some (.str qual tq)) (ht : IsTup s.heap t #[.int n tn, .int b tb]) :
    wpAny (model prog w) A (call (.ref f) [.ref t]) (PySem.W.KeyPure (.tuple [.int b, .int n]) s) (fun _ _ => False) s := by
  obtain ⟨oc, vs, tq, ho1, ho2, ho3⟩ := hcode
  refine wpAny_call ?_
  refine PySem.W.kla_callFunE hroom hob rfl hco hgen rfl ⟨c', oc, vs, tq, rfl, ho1, ho2, ho3⟩ ?_
  rw [hbind]
  refine wpAny_pure (wpAny_newFunctionEnv hcell (fun y hy => by obtain rfl := List.mem_singleton.mp hy; exact hpar) (fun hn hns hsb => ⟨nl.fresh _ hsb, ?_⟩) hkd)
  have kk : ∀ b o, s.heap.get? b = some o → hn.get? b = some o := fun b o e => hsb.extBut b o (Nat.ne_of_lt (Heap.lt_size e)) (Heap.get?_push_of_some _ e)
  have htn : IsTup hn t #[.int n tn, .int b tb] := by
    obtain ⟨o, e, h1, h2⟩ := ht
    exact ⟨o, kk _ _ e, h1, h2⟩
  refine PySem.W.kla_codeExpr ?_
  refine wpAny_Tuple_spliced ?_
  show wpAny _ _ (spliced [(false, eval (.Subscript (.Name a p1) (.Constant (.int 1) j1 p2) p3) _), (false, eval (.Subscript (.Name a p4) (.Constant (.int 0) j2 p5) p6) _)]) _ _ _
  refine Calls.spliced_cons (sub_raw (j := 1) (x := .int b tb) hkd hpar hns (by simp [List.lookup]) htn (by decide) (by decide) rfl rfl hd fun tk => ?_)
  refine Calls.spliced_cons (sub_raw (s := { s with heap := hn, toks := tk }) (j := 0) (x := .int n tn) hkd hpar hns (by simp [List.lookup]) htn (by decide) (by decide) rfl rfl hd fun tk => ?_)
  refine Calls.spliced_nil ⟨by show 2 ≤ sizeLine; decide, ?_⟩
  exact ⟨_, tk, rfl, fun b o e => Heap.get?_push_of_some _ (kk b o e), .tuple (Heap.get?_push_size _ rfl) rfl rfl (.cons (.int _ _) (.cons (.int _ _) .nil))⟩
end
end L2

namespace L2
open PySem PySem.Spec PyProof.Rows LamX
def swLe (k : V → Int × Int) (x y : V) : Prop := (k x).2 < (k y).2 ∨ ((k x).2 = (k y).2 ∧ (k x).1 ≤ (k y).1)
def tSortK (K : PySem.W.Frag) (T : List (Addr × Str)) (te : TA) : TE := fun σ H Q => te σ H fun xs H1 => Tabs T H1 ∧ ∃ (l : Addr) (ys : List V) (k : V → Int × Int), xs = [.ref l] ∧ SqL K H1 l ys ∧ ys.length ≤ 100000 ∧ (∀ y ∈ ys, ∃ t, y = .ref t ∧ H1 t = some (.tup [.int (k y).1, .int (k y).2])) ∧
  ∀ (zs : List V) (p : Addr) (H2 : Hp), ExtN H1 H2 → Tabs T H2 → H2 p = some (.lst zs) → zs.Perm ys → zs.Pairwise (swLe k) → Q (.ref p) H2
theorem sqL_ext {K : PySem.W.Frag} {H H' : Hp} {a : Addr} {xs : List V} (h : SqL K H a xs) (e : ExtN H H') : SqL K H' a xs := by
  rcases h with (h | ⟨o, h⟩) | h
  · exact .inl (.inl (e _ _ h fun _ z => nomatch z))
  · exact .inl (.inr ⟨o, e _ _ h fun _ z => nomatch z⟩)
  · exact .inr h
/-- a value and the thing that it is, a pair of ints in the heap h -/
def IsPr (h : Heap) (k : V → Int × Int) (u : Value) (y : V) : Prop := RelV y u ∧ ∃ (t : Addr) (tn tb : Tok), u = .ref t ∧ IsTup h t #[.int (k y).1 tn, .int (k y).2 tb]
theorem each_pr {h : Heap} {k : V → Int × Int} : ∀ {ys : List V} {us : List Value}, Vals ys us → (∀ y ∈ ys, ∀ u, RelV y u → ∃ (t : Addr) (tn tb : Tok), u = .ref t ∧ IsTup h t #[.int (k y).1 tn, .int (k y).2 tb]) → PySem.W.EachIs (IsPr h k) us ys
  | _, _, .nil, _ => .nil
  | _, _, .cons r t, q => .cons ⟨r, q _ List.mem_cons_self _ r⟩ (each_pr t fun y hy => q y (List.mem_cons_of_mem _ hy))
theorem each_vals {h : Heap} {k : V → Int × Int} : ∀ {us : List Value} {ys : List V}, PySem.W.EachIs (IsPr h k) us ys → Vals ys us
  | _, _, .nil => .nil
  | _, _, .cons r t => .cons r.1 (each_vals t)
section
variable {X : Cx} {x : Str} {T : List (Addr × Str)} {c P : Addr}
theorem pe_sortK {e : Expr} {t : TA} {params : Arguments} {scope : Scope} {a : Str} {p lpos kpos pos : Pos} {p1 p2 p3 p4 p5 p6 p7 : Pos} {j1 j2 x1 n : Nat}
    (hg : Gl X "sorted") (hm : X.mg "sorted" = none) (ha : PA X [e] t) (TB : TabB X.base X.mg c P) (hcode : X.env.code = .ref c) (hmT : (P, X.env.qual ++ "<lambda>") ∈ T) (hu : ∀ p ∈ T, p.1 = P → p.2 = X.env.qual ++ "<lambda>") (hr : Room (n + 1) X.A) (hdef : defaultsOf params X.env = ([], []))
    (hbind : ∀ (q : Str) (cl : List (Str × Addr)) (pm cv ctv v : Value), bindArgs (PySem.W.kla_fn "<lambda>" q params (.Tuple [.Subscript (.Name a p1) (.Constant (.int 1) j1 p2) p3, .Subscript (.Name a p4) (.Constant (.int 0) j2 p5) p6] x1 p7) scope cl pm cv ctv) ⟨[v], []⟩ = pure [(a, v)])
    (hkd : scope.kind = .function) (hco : scope.isCoroutine = false) (hgen : scope.isGenerator = false) (hpar : scope.names.lookup a = some .local) (hcell : ∀ x ∈ scope.names, x.2 ≠ .cell) (hfree : ∀ y ∈ scope.names, y.2 ≠ .free) (hd : (a == ("__debug__" : Str)) = false)
    (he : backTo pos (starEach [e] X.env) = (false, eval e X.env) :: backTo pos (starEach [] X.env) := by rfl) (hpl : (backTo pos (starEach [e] X.env)).any (·.1) = false := by rfl) :
    PE X (.Call (.Name "sorted" p) [e] [⟨some "key", .Lambda params (.Tuple [.Subscript (.Name a p1) (.Constant (.int 1) j1 p2) p3, .Subscript (.Name a p4) (.Constant (.int 0) j2 p5) p6] x1 p7) scope lpos, kpos⟩] pos) (tSortK X.K T t) := by
  refine ⟨fun pins s σ H Q I h => ?_⟩
  refine wpAny_Call_Name_kw (ld_blt I hg hm PyProof.Rows.boot_sorted ?_ (by decide) (by decide))
  refine PyProof.Rows.callWith_kw (thn (ha.run pos pins s σ H _ I h) fun us s1 ⟨vs, H1, I1, r1, hT, l, ys, k, ev, hl, hz, hy, q⟩ => ?_) he hpl (by rfl) (by rfl)
  subst ev
  obtain rfl := Vals.ref1 r1
  show wpAny _ _ (evalAll ((do let v ← eval (.Lambda params _ scope lpos) X.env; standAt pos; pure v) :: [])) _ _ s1
  refine wpAny_evalAll_cons (wpAny_bind (lam_make2 I1 TB hcode hmT hu hT hdef (fun y hy e => absurd e (hfree y hy)) fun f c' pm ctv HL sL IL eL TL hob hfn hfr hco' => wpAny_bind (wpAny_standAt (wpAny_pure (wpAny_evalAll_nil ?_)))))
  show wpAny _ _ (call (.builtin "sorted") [.ref l] [(Str.ofString "key", .ref f)]) _ _ sL
  obtain ⟨its, rv, pl, _⟩ := IL.list (sqL_ext hl eL)
  obtain ⟨⟨oc, ws, tq, ho1, ho2, ho3⟩, _, _⟩ := IL.hok c' _ hco'
  have hE : PySem.W.EachIs (IsPr sL.heap k) its ys := each_pr rv fun y hy' u ru => by
    obtain ⟨t, rfl, ht⟩ := hy y hy'
    obtain rfl : u = Value.ref t := ru
    obtain ⟨_, w2, rw, hw⟩ := IL.hok t _ (eL _ _ ht fun _ z => nomatch z)
    obtain ⟨u1, u2, rfl, e1, e2⟩ := vals2 rw
    obtain ⟨tn, rfl⟩ := e1
    obtain ⟨tb, rfl⟩ := e2
    exact ⟨t, tn, tb, rfl, hw⟩
  have hun := hr.un
  have hd1 : ∀ y, (PyData.tuple [.int (k y).2, .int (k y).1]).depth = 1 := fun y => by simp [PyData.depth, PyData.depthAll]
  refine PySem.W.sorted_key_data (b := false) (fun y : V => .tuple [.int (k y).2, .int (k y).1]) pl.isList hE (PySem.W.AllAlike.of fun _ _ => by simp [PySem.W.alike, PySem.W.alikeAll]) (PySem.W.Sortable.tuples fun _ => ⟨_, _, rfl⟩) (Nat.le_trans hz (by decide)) (fun y _ => ?_) (ksk_s1 _ _) (fun _ => ksk_l1 _ _) (fun _ => ksk_t1 _ _)
    (fun v y ⟨ry, t, tn, tb, ev, ht⟩ _ h tk kp => ?_) fun out cc h' tk kp _ hD hlen hO => ?_
  · rw [hd1]
    omega
  · subst ev
    obtain ⟨o, eo, ho, hs⟩ := ht
    exact swap_call (s := { sL with heap := h, toks := tk }) (hbind _ _ _ _ _ _) hkd hco hgen hpar hcell hd hr.depth (I.ok.mod.nolimit.keeps fun b o e => kp _ _ (IL.bk b o e)) (kp _ _ hob) ⟨oc, ws, tq, kp _ _ ho1, ho2, ho3⟩ ⟨o, kp _ _ eo, ho, hs⟩
  · rw [PySem.W.dataLe_ii (β := V) (fun y => (k y).2) (fun y => (k y).1)] at hO
    have hperm := List.mergeSort_perm ys (fun p q => decide ((k p).2 < (k q).2 ∨ ((k p).2 = (k q).2 ∧ (k p).1 ≤ (k q).1)))
    have hsrt := List.pairwise_mergeSort (le := fun p q => decide ((k p).2 < (k q).2 ∨ ((k p).2 = (k q).2 ∧ (k p).1 ≤ (k q).1))) (fun a b c h1 h2 => by
      simp only [decide_eq_true_eq] at h1 h2 ⊢
      omega) (fun a b => by
      simp only [Bool.or_eq_true, decide_eq_true_eq]
      omega) ys
    have fresh : HL (sL.heap.objs.size + 1) = none := IL.hok.fresh (Nat.le_succ _)
    have hv := each_vals hO
    generalize ys.mergeSort (fun p q => decide ((k p).2 < (k q).2 ∨ ((k p).2 = (k q).2 ∧ (k p).1 ≤ (k q).1))) = zs at hO hperm hsrt hv
    have eN : ∀ b o, HL b = some o → upd HL (sL.heap.objs.size + 1) (.lst zs) b = some o := fun b o e => by rw [upd_ne (ne_of_none e fresh)]; exact e
    refine ⟨.ref _, upd HL (sL.heap.objs.size + 1) (.lst zs), IL.laid (t' := tk) kp (Nat.le_succ _) ⟨by rw [hperm.length_eq]; exact Nat.le_trans hz (by decide), out, cc, hv, hD⟩, rfl, ?_⟩
    exact q zs _ _ (eL.trans (.of eN)) (TL.ext eN) upd_same hperm (hsrt.imp fun h => by simpa [swLe] using h)
end
end L2

namespace Mx
open PySem L2
theorem partOf_map (s : MixS) (n : Int) : partOf s n = (((s.vs.map fun e => (e.1, e.2.2)).find? fun p => decide (p.1 = n)).map fun p => (p.2.give s.coming s.soft).part).getD 0 := by
  unfold partOf
  rw [List.find?_map]
  show _ = (Option.map _ (Option.map _ (s.vs.find? fun e => decide (e.1 = n)))).getD 0
  cases s.vs.find? fun e => decide (e.1 = n) <;> rfl
theorem lackN_map (vs : List MV) (t n : Int) : lackN vs t n = ((vs.map fun e => (e.1, e.2.2)).any fun p => decide (p.1 = n) && p.2.line.lacks t) := by
  unfold lackN
  rw [List.any_map]
  rfl
/-- a mixer with one voice of the other one's, if it is there -/
structure One (n : Int) (s o : MixS) : Prop where
  so : o.soft = s.soft
  co : o.coming = s.coming
  vs : o.vs.map (fun e => (e.1, e.2.2)) = (s.vs.filter fun e => decide (e.1 = n)).map fun e => (e.1, e.2.2)
  lk : o.lacked = s.lacked.filter fun p => decide (p.1 = n)
theorem filter_map_fst {α : Type} (f : MV → MV) (hf : ∀ e, (f e).1 = e.1) (g : MV → α) (n : Int) : ∀ vs : List MV, ((vs.map f).filter fun e => decide (e.1 = n)).map g = (vs.filter fun e => decide (e.1 = n)).map fun e => g (f e)
  | [] => rfl
  | e :: r => by
    rw [List.map_cons, List.filter_cons, List.filter_cons, hf e]
    by_cases h : e.1 = n
    · rw [if_pos (by simpa using h), if_pos (by simpa using h), List.map_cons, List.map_cons, filter_map_fst f hf g n r]
    · rw [if_neg (by simpa using h), if_neg (by simpa using h), filter_map_fst f hf g n r]
section
variable {n : Int} {s o : MixS}
theorem One.nm (h : One n s o) : o.vs.map (·.1) = (s.vs.map (·.1)).filter fun k => decide (k = n) := by
  have := congrArg (List.map (·.1)) h.vs
  rw [List.map_map, List.map_map] at this
  refine Eq.trans (show _ = _ from this) ?_
  rw [List.filter_map]
  rfl
theorem One.mem (h : One n s o) {e : MV} (he : e ∈ o.vs) : ∃ e' ∈ s.vs, e'.1 = e.1 ∧ e'.2.2 = e.2.2 ∧ e.1 = n := by
  have : (e.1, e.2.2) ∈ (s.vs.filter fun e => decide (e.1 = n)).map fun e => (e.1, e.2.2) := by
    rw [← h.vs]
    exact List.mem_map.mpr ⟨e, he, rfl⟩
  obtain ⟨e', he', q⟩ := List.mem_map.mp this
  obtain ⟨h1, h2⟩ := List.mem_filter.mp he'
  have e1 : e'.1 = e.1 := (Prod.mk.inj q).1
  exact ⟨e', h1, e1, (Prod.mk.inj q).2, by rw [← e1]; simpa using h2⟩
theorem One.mem' (h : One n s o) {e : MV} (he : e ∈ s.vs) (hn : e.1 = n) : ∃ e' ∈ o.vs, e'.1 = n ∧ e'.2.2 = e.2.2 := by
  have : (e.1, e.2.2) ∈ o.vs.map fun e => (e.1, e.2.2) := by
    rw [h.vs]
    exact List.mem_map.mpr ⟨e, List.mem_filter.mpr ⟨he, by simpa using hn⟩, rfl⟩
  obtain ⟨e', he', q⟩ := List.mem_map.mp this
  exact ⟨e', he', (Prod.mk.inj q).1.trans hn, (Prod.mk.inj q).2⟩
theorem One.part (h : One n s o) : partOf o n = partOf s n := by
  rw [partOf_map, partOf_map, h.vs, h.so, h.co, List.find?_map, List.find?_map, List.find?_filter]
  congr 4
  funext e
  simp
theorem One.lack (h : One n s o) (t : Int) : lackN o.vs t n = lackN s.vs t n := by
  rw [lackN_map, h.vs, List.any_map, List.any_filter]
  unfold lackN
  congr 1
  funext e
  show (decide (e.1 = n) && (decide (e.1 = n) && e.2.2.line.lacks t)) = _
  rw [← Bool.and_assoc, Bool.and_self]
theorem One.ys (h : One n s o) {ys zs : List Int} (h1 : ys.Perm (s.vs.map (·.1))) (h2 : ys.Pairwise (· ≤ ·)) (g1 : zs.Perm (o.vs.map (·.1))) (g2 : zs.Pairwise (· ≤ ·)) : zs = ys.filter fun k => decide (k = n) := by
  rw [h.nm] at g1
  exact sorted_eq g1 g2 (h1.filter _) (h2.filter _)
theorem One.beat (h : One n s o) {ys zs : List Int} (h1 : ys.Perm (s.vs.map (·.1))) (h2 : ys.Pairwise (· ≤ ·)) (g1 : zs.Perm (o.vs.map (·.1))) (g2 : zs.Pairwise (· ≤ ·)) : One n (s.beat ys) (o.beat zs) := by
  have ez := h.ys h1 h2 g1 g2
  refine ⟨h.so, by show o.coming + 1 = s.coming + 1; rw [h.co], ?_, ?_⟩
  · show (o.vs.map o.step).map _ = ((s.vs.map s.step).filter _).map _
    rw [filter_map_fst s.step (fun _ => rfl), List.map_map]
    have := congrArg (List.map fun p : Int × VoiceS => (p.1, p.2.give o.coming o.soft)) h.vs
    rw [List.map_map, List.map_map] at this
    refine Eq.trans (show _ = _ from this) (List.map_congr_left fun e _ => ?_)
    show (e.1, e.2.2.give o.coming o.soft) = (e.1, e.2.2.give s.coming s.soft)
    rw [h.co, h.so]
  · show o.lacked ++ (zs.filter (lackN o.vs o.coming)).map (fun n => (n, o.coming)) = (s.lacked ++ (ys.filter (lackN s.vs s.coming)).map fun n => (n, s.coming)).filter _
    rw [List.filter_append, h.lk, h.co]
    congr 1
    rw [List.filter_map, List.filter_filter, ez, List.filter_filter]
    congr 1
    refine List.filter_congr fun k _ => ?_
    show (lackN o.vs s.coming k && decide (k = n)) = (decide (k = n) && lackN s.vs s.coming k)
    by_cases hk : k = n
    · subst hk
      rw [h.lack, Bool.and_comm]
    · rw [decide_eq_false hk, Bool.and_false, Bool.false_and]
theorem One.set (h : One n s o) (v : VoiceS) : One n { s with vs := setV s.vs n v } { o with vs := setV o.vs n v } := by
  refine ⟨h.so, h.co, ?_, h.lk⟩
  show (setV o.vs n v).map _ = ((setV s.vs n v).filter _).map _
  unfold setV
  rw [filter_map_fst (fun e : MV => if e.1 = n then (e.1, e.2.1, v) else e) (fun e => by split <;> rfl), List.map_map]
  have := congrArg (List.map fun p : Int × VoiceS => if p.1 = n then (p.1, v) else p) h.vs
  rw [List.map_map, List.map_map] at this
  refine Eq.trans (List.map_congr_left fun x _ => ?_) (this.trans (List.map_congr_left fun x _ => ?_))
  · show ((if x.1 = n then (x.1, x.2.1, v) else x).1, (if x.1 = n then (x.1, x.2.1, v) else x).2.2) = if x.1 = n then (x.1, v) else (x.1, x.2.2)
    split <;> rfl
  · show (if x.1 = n then (x.1, v) else (x.1, x.2.2)) = ((if x.1 = n then (x.1, x.2.1, v) else x).1, (if x.1 = n then (x.1, x.2.1, v) else x).2.2)
    split <;> rfl
theorem One.set' (h : One n s o) {k : Int} (hk : k ≠ n) (v : VoiceS) : One n { s with vs := setV s.vs k v } o := by
  refine ⟨h.so, h.co, ?_, h.lk⟩
  show o.vs.map _ = ((setV s.vs k v).filter _).map _
  unfold setV
  rw [filter_map_fst (fun e : MV => if e.1 = k then (e.1, e.2.1, v) else e) (fun e => by split <;> rfl), h.vs]
  refine List.map_congr_left fun e he => ?_
  have hn : e.1 = n := by simpa using (List.mem_filter.mp he).2
  rw [if_neg (by rw [hn]; exact fun z => hk z.symm)]
theorem One.more (h : One n s o) (A A' : VA) (v : VoiceS) : One n { s with vs := s.vs ++ [(n, A, v)] } { o with vs := o.vs ++ [(n, A', v)] } := by
  refine ⟨h.so, h.co, ?_, h.lk⟩
  show (o.vs ++ [_]).map _ = ((s.vs ++ [_]).filter _).map _
  rw [List.filter_append, List.map_append, List.map_append, h.vs]
  congr 1
  rw [List.filter_cons, if_pos (by simp)]
  rfl
theorem One.more' (h : One n s o) {k : Int} (hk : k ≠ n) (A : VA) (v : VoiceS) : One n { s with vs := s.vs ++ [(k, A, v)] } o := by
  refine ⟨h.so, h.co, ?_, h.lk⟩
  show o.vs.map _ = ((s.vs ++ [_]).filter _).map _
  rw [List.filter_append, List.filter_cons, if_neg (by simpa using hk), List.filter_nil, List.append_nil]
  exact h.vs
def Deed.nm : Deed → Int
  | .beat => 0
  | .add n _ _ _ _ => n
  | .vc n _ => n
theorem One.legal (h : One n s o) {dd : Deed} (hd : dd ≠ .beat) (hn : dd.nm = n) (hL : Legal s dd) : Legal o dd := by
  cases dd with
  | beat => exact absurd rfl hd
  | add k pn pb wt ld =>
    obtain ⟨h1, r⟩ := hL
    refine ⟨fun z => h1 ?_, r⟩
    rw [h.nm] at z
    exact (List.mem_filter.mp z).1
  | vc k d =>
    obtain ⟨e, he, e1, hok⟩ := hL
    obtain ⟨e', he', g1, g2⟩ := h.mem' he (e1.trans hn)
    exact ⟨e', he', g1.trans hn.symm, by rw [g2]; exact hok⟩
theorem One.own (h : One n s o) (nd : (s.vs.map (·.1)).Nodup) {dd : Deed} (hd : dd ≠ .beat) (hn : dd.nm = n) {s1 o1 : MixS} (hA : After s dd s1) (hB : After o dd o1) : One n s1 o1 := by
  cases hA with
  | beat ys _ _ => exact absurd rfl hd
  | add k pn pb wt ld A =>
    cases hB with
    | add _ _ _ _ _ A' =>
      obtain rfl : k = n := hn
      have := h.more A A' (VoiceS.new pn pb (s.coming + wt) ld)
      have e : VoiceS.new pn pb (o.coming + wt) ld = VoiceS.new pn pb (s.coming + wt) ld := by rw [h.co]
      rw [e]
      exact this
  | vc e d he =>
    generalize ek : e.1 = k at hB hn
    cases hB with
    | vc e' _ he' =>
      obtain rfl : e'.1 = n := hn
      obtain ⟨e2, he2, g1, g2, _⟩ := h.mem he'
      have := nodup_inj nd he2 he (g1.trans ek.symm)
      subst this
      rw [← g2]
      exact h.set _
theorem One.other (h : One n s o) {dd : Deed} (hd : dd ≠ .beat) (hn : dd.nm ≠ n) {s1 : MixS} (hA : After s dd s1) : One n s1 o := by
  cases hA with
  | beat ys _ _ => exact absurd rfl hd
  | add k pn pb wt ld A => exact h.more' hn A _
  | vc e d he => exact h.set' hn _
end
theorem One.nil (n soft : Int) : One n ⟨soft, 0, [], []⟩ ⟨soft, 0, [], []⟩ := ⟨rfl, rfl, rfl, rfl⟩
/-- what lacked, by beats, then names -/
structure LkS (s : MixS) : Prop where
  pw : s.lacked.Pairwise fun p q => p.2 < q.2 ∨ (p.2 = q.2 ∧ p.1 ≤ q.1)
  bd : ∀ p ∈ s.lacked, p.2 < s.coming ∧ 0 ≤ p.1 ∧ p.1 ≤ 5
theorem LkS.after {s s' : MixS} {dd : Deed} (h : LkS s) (nm : ∀ e ∈ s.vs, 0 ≤ e.1 ∧ e.1 ≤ 5) (hA : After s dd s') : LkS s' := by
  cases hA with
  | beat ys hpm hpw =>
    have hin : ∀ k ∈ ys, 0 ≤ k ∧ k ≤ 5 := fun k hk => by
      obtain ⟨e, he, rfl⟩ := List.mem_map.mp (hpm.mem_iff.mp hk)
      exact nm e he
    refine ⟨?_, fun p hp => ?_⟩
    · show (s.lacked ++ (ys.filter (lackN s.vs s.coming)).map fun n => (n, s.coming)).Pairwise _
      refine List.pairwise_append.mpr ⟨h.pw, ?_, fun p hp q hq => ?_⟩
      · rw [List.pairwise_map]
        exact (hpw.filter _).imp fun h => .inr ⟨rfl, h⟩
      · obtain ⟨k, hk, rfl⟩ := List.mem_map.mp hq
        exact .inl (h.bd p hp).1
    · show p.2 < s.coming + 1 ∧ _
      rcases List.mem_append.mp hp with hp | hp
      · have := h.bd p hp
        omega
      · obtain ⟨k, hk, rfl⟩ := List.mem_map.mp hp
        have := hin k (List.mem_filter.mp hk).1
        exact ⟨by show s.coming < s.coming + 1; omega, this⟩
  | add => exact ⟨h.pw, h.bd⟩
  | vc => exact ⟨h.pw, h.bd⟩
/-! sums, names, what lacked: one after the other -/
def six (j : Nat) : List Int := (List.range j).map fun k : Nat => (k : Int)
def nmj (s : MixS) (j : Nat) : List Int := (six j).filter fun k => decide (k ∈ s.vs.map (·.1))
theorem six_succ (j : Nat) : six (j + 1) = six j ++ [(j : Int)] := by
  unfold six
  rw [List.range_succ, List.map_append]
  rfl
theorem nmj_succ (s : MixS) (j : Nat) : nmj s (j + 1) = nmj s j ++ if (j : Int) ∈ s.vs.map (·.1) then [(j : Int)] else [] := by
  unfold nmj
  rw [six_succ, List.filter_append]
  congr 1
  by_cases h : (j : Int) ∈ s.vs.map (·.1)
  · rw [if_pos h, List.filter_cons, if_pos (by simpa using h)]
    rfl
  · rw [if_neg h, List.filter_cons, if_neg (by simpa using h)]
    rfl
theorem nodup_filter_eq {ys : List Int} (h : ys.Nodup) (n : Int) : (ys.filter fun k => decide (k = n)) = if n ∈ ys then [n] else [] := by
  induction ys with
  | nil => rfl
  | cons y r ih =>
    rw [List.nodup_cons] at h
    have ih := ih h.2
    by_cases e : y = n
    · subst e
      rw [List.filter_cons, if_pos (by simp), ih, if_neg h.1, if_pos List.mem_cons_self]
    · rw [List.filter_cons, if_neg (by simpa using e), ih]
      by_cases hn : n ∈ r
      · rw [if_pos hn, if_pos (List.mem_cons_of_mem _ hn)]
      · rw [if_neg hn, if_neg (fun z => (List.mem_cons.mp z).elim (fun q => e q.symm) hn)]
theorem One.zs {j : Nat} {s o : MixS} (h : One (j : Int) s o) (nd : (s.vs.map (·.1)).Nodup) {zs : List Int} (g1 : zs.Perm (o.vs.map (·.1))) (g2 : zs.Pairwise (· ≤ ·)) : zs = if (j : Int) ∈ s.vs.map (·.1) then [(j : Int)] else [] := by
  have h1 : zs.Perm (if (j : Int) ∈ s.vs.map (·.1) then [(j : Int)] else []) := by
    rw [← nodup_filter_eq nd, ← h.nm]
    exact g1
  by_cases hj : (j : Int) ∈ s.vs.map (·.1)
  · rw [if_pos hj] at h1 ⊢
    exact List.perm_singleton.mp h1
  · rw [if_neg hj] at h1 ⊢
    exact List.perm_nil.mp h1
theorem nmj_sum {j : Nat} {s o : MixS} (h : One (j : Int) s o) (nd : (s.vs.map (·.1)).Nodup) {zs : List Int} (g1 : zs.Perm (o.vs.map (·.1))) (g2 : zs.Pairwise (· ≤ ·)) : sumOf s (nmj s (j + 1)) = sumOf s (nmj s j) + sumOf o zs := by
  rw [h.zs nd g1 g2, nmj_succ]
  by_cases hj : (j : Int) ∈ s.vs.map (·.1)
  · rw [if_pos hj, sumOf_snoc]
    congr 1
    show _ = partOf o j + 0
    rw [h.part]
    grind
  · rw [if_neg hj, List.append_nil]
    show _ = sumOf s (nmj s j) + 0
    grind
theorem six_mem {k : Int} (h0 : 0 ≤ k) (h5 : k ≤ 5) : k ∈ six 6 := by
  show k ∈ [((0 : Nat) : Int), ((1 : Nat) : Int), ((2 : Nat) : Int), ((3 : Nat) : Int), ((4 : Nat) : Int), ((5 : Nat) : Int)]
  simp only [List.mem_cons, List.not_mem_nil, or_false]
  omega
theorem nmj_six {s : MixS} (nd : (s.vs.map (·.1)).Nodup) (nm : ∀ e ∈ s.vs, 0 ≤ e.1 ∧ e.1 ≤ 5) {ys : List Int} (h1 : ys.Perm (s.vs.map (·.1))) (h2 : ys.Pairwise (· ≤ ·)) : nmj s 6 = ys := by
  have n6 : (six 6).Nodup := by decide
  have p6 : (six 6).Pairwise (· ≤ ·) := by decide
  refine sorted_eq ?_ (p6.filter _) h1 h2
  refine (List.perm_ext_iff_of_nodup (n6.filter _) nd).mpr fun k => ?_
  rw [List.mem_filter]
  refine ⟨fun h => by simpa using h.2, fun h => ⟨?_, by simpa using h⟩⟩
  obtain ⟨e, he, rfl⟩ := List.mem_map.mp h
  exact six_mem (nm e he).1 (nm e he).2
def lkj (s : MixS) (j : Nat) : List (Int × Int) := (six j).flatMap fun k => s.lacked.filter fun p => decide (p.1 = k)
theorem lkj_succ {j : Nat} {s o : MixS} (h : One (j : Int) s o) : lkj s (j + 1) = lkj s j ++ o.lacked := by
  unfold lkj
  rw [six_succ, List.flatMap_append, h.lk]
  simp
theorem perm_in {α : Type} {p : α} {A X Y : List α} (h : X.Perm (p :: Y)) : (A ++ X).Perm (p :: (A ++ Y)) := (h.append_left A).trans List.perm_middle
theorem lkj_perm {s : MixS} (h : LkS s) : (lkj s 6).Perm s.lacked := by
  have key : ∀ L : List (Int × Int), (∀ p ∈ L, 0 ≤ p.1 ∧ p.1 ≤ 5) → ((six 6).flatMap fun k => L.filter fun p => decide (p.1 = k)).Perm L := by
    intro L
    induction L with
    | nil => intro _; exact List.Perm.refl _
    | cons p r ih =>
      intro hb
      have ih := ih fun q hq => hb q (List.mem_cons_of_mem _ hq)
      have hp := hb p List.mem_cons_self
      have e6 : six 6 = [0, 1, 2, 3, 4, 5] := rfl
      rw [e6] at ih ⊢
      simp only [List.flatMap_cons, List.flatMap_nil, List.append_nil, List.filter_cons, decide_eq_true_eq] at ih ⊢
      have h6 : p.1 = 0 ∨ p.1 = 1 ∨ p.1 = 2 ∨ p.1 = 3 ∨ p.1 = 4 ∨ p.1 = 5 := by omega
      rcases h6 with e | e | e | e | e | e <;> simp only [e, if_true, Int.reduceEq, if_false]
      · exact ih.cons p
      · exact (perm_in (List.Perm.refl _)).trans (ih.cons p)
      · exact (perm_in (perm_in (List.Perm.refl _))).trans (ih.cons p)
      · exact (perm_in (perm_in (perm_in (List.Perm.refl _)))).trans (ih.cons p)
      · exact (perm_in (perm_in (perm_in (perm_in (List.Perm.refl _))))).trans (ih.cons p)
      · exact (perm_in (perm_in (perm_in (perm_in (perm_in (List.Perm.refl _)))))).trans (ih.cons p)
  exact key _ fun p hp => (h.bd p hp).2
theorem lkj_sorted {s : MixS} (h : LkS s) : (lkj s 6).Pairwise fun p q => p.1 < q.1 ∨ (p.1 = q.1 ∧ p.2 ≤ q.2) := by
  have one : ∀ k : Int, (s.lacked.filter fun p => decide (p.1 = k)).Pairwise fun p q => p.1 < q.1 ∨ (p.1 = q.1 ∧ p.2 ≤ q.2) := fun k => by
    refine (h.pw.filter _).imp_of_mem fun {p q} hp hq hh => ?_
    have e1 : p.1 = k := by simpa using (List.mem_filter.mp hp).2
    have e2 : q.1 = k := by simpa using (List.mem_filter.mp hq).2
    omega
  have hm : ∀ (k : Int) (p : Int × Int), (p ∈ s.lacked.filter fun p => decide (p.1 = k)) → p.1 = k := fun k p hp => by simpa using (List.mem_filter.mp hp).2
  have key : ∀ l : List Int, l.Pairwise (· < ·) → (l.flatMap fun k => s.lacked.filter fun p => decide (p.1 = k)).Pairwise fun p q => p.1 < q.1 ∨ (p.1 = q.1 ∧ p.2 ≤ q.2) := by
    intro l
    induction l with
    | nil => intro _; exact .nil
    | cons k r ih =>
      intro hp
      rw [List.pairwise_cons] at hp
      rw [List.flatMap_cons]
      refine List.pairwise_append.mpr ⟨one k, ih hp.2, fun p hp1 q hq => ?_⟩
      obtain ⟨k2, hk2, hq⟩ := List.mem_flatMap.mp hq
      have := hp.1 k2 hk2
      rw [hm k p hp1, hm k2 q hq]
      exact .inl this
  exact key _ (by decide)
end Mx

namespace Mx
open PySem L2 LamX
/-! ### what stays, tables apart -/
theorem sq_ext {K : PySem.W.Frag} {H H' : Hp} {a : Addr} {xs : List V} (h : SqL K H a xs) (e : ExtN H H') : SqL K H' a xs := L2.sqL_ext h e
theorem RowAt.ext {K : PySem.W.Frag} {H H' : Hp} {r sc : Addr} {ns : List Int} (h : RowAt K H r sc ns) (e : ExtN H H') : RowAt K H' r sc ns := by
  obtain ⟨pos, mix, p0, m0, m1, hr, hs, hn⟩ := h
  exact ⟨pos, mix, p0, m0, m1, e _ _ hr ((fun _ => nofun)), sq_ext hs e, hn⟩
/-- no table, no code object -/
def NT (o : HO) : Prop := (∀ ps, o ≠ .tbl ps) ∧ ∀ φ, o ≠ .ext φ
def NTs (H : Hp) (F : List Addr) : Prop := ∀ b ∈ F, ∀ o, H b = some o → NT o
theorem tabs_nt {T : List (Addr × Str)} {F : List Addr} {H H' : Hp} (t : Tabs T H) (s : Stp F H H') (hF : NTs H F) : Tabs T H' := by
  intro p hp
  obtain ⟨ps, h1, h2, h3⟩ := t p hp
  refine ⟨ps, s.keep _ _ h1 fun z => (hF _ z _ h1).1 _ rfl, h2, fun pos cv hc => ?_⟩
  obtain ⟨c, e, hcc⟩ := h3 pos cv hc
  refine ⟨c, e, s.keep _ _ hcc fun z => ?_⟩
  have := (hF _ z _ hcc).2
  unfold CodeO at this
  exact this _ rfl
theorem row_nt {K : PySem.W.Frag} {H : Hp} {r sc : Addr} {ns : List Int} (h : RowAt K H r sc ns) : NTs H [r] := fun b hb o ho => by
  rw [List.mem_singleton.mp hb] at ho
  obtain ⟨_, _, _, _, _, h1, _⟩ := h
  rw [h1] at ho
  cases ho
  exact ⟨nofun, nofun⟩
theorem TupAt.ext {K : PySem.W.Frag} {H H' : Hp} {a : Addr} {xs : List V} (h : TupAt K H a xs) (e : ExtN H H') : TupAt K H' a xs := h.elim (fun q => .inl (e _ _ q (fun _ => nofun))) .inr
theorem IsQ.ext {K : PySem.W.Frag} {H H' : Hp} {v : V} {q : Rat} (h : IsQ K H v q) (s : ExtN H H') : IsQ K H' v q := by
  obtain ⟨a, e, t⟩ := h
  exact ⟨a, e, t.ext s⟩
theorem IsPair.ext {H H' : Hp} {v : V} {p : Int × Int} (h : IsPair H v p) (s : ExtN H H') : IsPair H' v p := by
  obtain ⟨a, e, g⟩ := h
  exact ⟨a, e, s _ _ g (fun _ => nofun)⟩
theorem LineAt.ext {C : Addr} {H H' : Hp} {l c : Addr} {s : LineS} (h : LineAt C H l c s) (k : ExtN H H') : LineAt C H' l c s := by
  obtain ⟨dx, tp, h1, ht⟩ := h.ob
  exact ⟨⟨dx, tp, k _ _ h1 (fun _ => nofun), k _ _ ht (fun _ => nofun)⟩, k _ _ h.dc (fun _ => nofun)⟩
theorem LoudAt.ext {K : PySem.W.Frag} {C : Addr} {H H' : Hp} {q : Addr} {s : LoudS} (h : LoudAt K C H q s) (k : ExtN H H') : LoudAt K C H' q s := by
  obtain ⟨dx, lv, st, h1, h2, h3⟩ := h
  exact ⟨dx, lv, st, k _ _ h1 (fun _ => nofun), h2.ext k, h3.ext k⟩
theorem VObj.ext {K : PySem.W.Frag} {C : Addr} {H H' : Hp} {a l q : Addr} {v : VoiceS} (h : VObj K C H a l q v) (k : ExtN H H') : VObj K C H' a l q v := by
  obtain ⟨dx, pv, hv, h1, h2, h3⟩ := h
  exact ⟨dx, pv, hv, k _ _ h1 (fun _ => nofun), h2.ext k, h3.ext k⟩
theorem VoiceAt.ext {K : PySem.W.Frag} {cs : Cs} {H H' : Hp} {A : VA} {v : VoiceS} (h : VoiceAt K cs H A v) (k : ExtN H H') : VoiceAt K cs H' A v := ⟨h.ob.ext k, h.line.ext k, h.loud.ext k, h.nd⟩
theorem pairs_ext {H H' : Hp} (s : ExtN H H') {ls : List V} {ps : List (Int × Int)} (h : Paired (IsPair H) ls ps) : Paired (IsPair H') ls ps := pr_map (fun _ _ q => q.ext s) h
theorem MixAt.ext {K : PySem.W.Frag} {cs : Cs} {H H' : Hp} {m d k : Addr} {s : MixS} (h : MixAt K cs H m d k s) (g : ExtN H H') : MixAt K cs H' m d k s := by
  obtain ⟨⟨dx, h1⟩, h2, ⟨ls, h3, h4⟩, h5, h6, h7, h8⟩ := h
  exact ⟨⟨dx, g _ _ h1 (fun _ => nofun)⟩, g _ _ h2 (fun _ => nofun), ⟨ls, g _ _ h3 (fun _ => nofun), pairs_ext g h4⟩, fun e he => (h5 e he).ext g, h6, h7, h8⟩
theorem GoalIs.ext {K : PySem.W.Frag} {H H' : Hp} {n : Nat} {gv : V} {s : LoudS} (h : GoalIs K H n gv s) (g : ExtN H H') : GoalIs K H' n gv s := by
  rcases h with h | ⟨a, fa, la, F, L, B, O, h1, h2, h3, h4, h5⟩
  · exact .inl h
  · exact .inr ⟨a, fa, la, F, L, B, O, h1, g _ _ h2 (fun _ => nofun), h3.ext g, h4.ext g, h5⟩
theorem OwnK.ext {K : PySem.W.Frag} {H H' : Hp} {kv : List (Key × V)} {c : Addr} {v : VoiceS} {n : Nat} (h : OwnK K H kv c v n) (g : ExtN H H') : OwnK K H' kv c v n := by
  obtain ⟨⟨tp, p1, p2⟩, h2, h3, h4, ⟨gv, g1, g2⟩, h6, ⟨lv, l1, l2⟩, h8, h9, ⟨pv, q1, q2⟩, ⟨hv, r1, r2⟩⟩ := h
  exact ⟨⟨tp, p1, g _ _ p2 (fun _ => nofun)⟩, h2, h3, h4, ⟨gv, g1, g2.ext g⟩, h6, ⟨lv, l1, l2.ext g⟩, h8, h9, ⟨pv, q1, q2.ext g⟩, ⟨hv, r1, fun z => (r2 z).ext g⟩⟩
theorem OwnV.ext {K : PySem.W.Frag} {H H' : Hp} {d c : Addr} {v : VoiceS} {n : Nat} (h : OwnV K H d c v n) (g : ExtN H H') : OwnV K H' d c v n := by
  obtain ⟨kv, kc, h1, h2, h3, h4⟩ := h
  exact ⟨kv, kc, g _ _ h1 (fun _ => nofun), h2.ext g, g _ _ h3 (fun _ => nofun), h4⟩
theorem OMx.ext {K : PySem.W.Frag} {H H' : Hp} {M dv lk : Addr} {s : MixS} {W : WD} {bv : Int → Nat} (h : OMx K H M dv lk s W bv) (g : ExtN H H') : OMx K H' M dv lk s W bv := by
  obtain ⟨⟨kv, h1, h1'⟩, h2, ⟨ls, h3, h4⟩, h5, h6, h7, h8, h9⟩ := h
  exact ⟨⟨kv, g _ _ h1 (fun _ => nofun), h1'⟩, g _ _ h2 (fun _ => nofun), ⟨ls, g _ _ h3 (fun _ => nofun), pairs_ext g h4⟩, fun e he => (h5 e he).ext g, h6, h7, h8, h9⟩
theorem nt_of {H : Hp} {b : Addr} {u : HO} (h : H b = some u) (n : NT u) : ∀ o, H b = some o → NT o := fun o ho => by
  rw [h] at ho
  cases ho
  exact n
theorem VoiceAt.nt {K : PySem.W.Frag} {cs : Cs} {H : Hp} {A : VA} {v : VoiceS} (h : VoiceAt K cs H A v) : NTs H A.foot := by
  obtain ⟨⟨dx, pv, hv, h1, _⟩, ⟨⟨dy, tp, h2, _⟩, h3⟩, ⟨dz, lv, st, h4, _⟩, _⟩ := h
  intro b hb
  simp only [VA.foot, List.mem_cons, List.not_mem_nil, or_false] at hb
  rcases hb with e | e | e | e <;> subst e
  · exact nt_of h1 ⟨nofun, nofun⟩
  · exact nt_of h2 ⟨nofun, nofun⟩
  · exact nt_of h3 ⟨nofun, nofun⟩
  · exact nt_of h4 ⟨nofun, nofun⟩
theorem MixAt.nt {K : PySem.W.Frag} {cs : Cs} {H : Hp} {m d k : Addr} {s : MixS} (h : MixAt K cs H m d k s) : NTs H (s.foot m d k) := by
  obtain ⟨⟨dx, h1⟩, h2, ⟨ls, h3, h4⟩, h5, h6, h7, h8⟩ := h
  intro b hb
  unfold MixS.foot at hb
  rcases List.mem_cons.mp hb with e | hb
  · rw [e]; exact nt_of h1 ⟨nofun, nofun⟩
  rcases List.mem_cons.mp hb with e | hb
  · rw [e]; exact nt_of h2 ⟨nofun, nofun⟩
  rcases List.mem_cons.mp hb with e | hb
  · rw [e]; exact nt_of h3 ⟨nofun, nofun⟩
  obtain ⟨e, he, hb⟩ := List.mem_flatMap.mp hb
  exact (h5 e he).nt b hb
theorem OMx.nt {K : PySem.W.Frag} {H : Hp} {M dv lk : Addr} {s : MixS} {W : WD} {bv : Int → Nat} (h : OMx K H M dv lk s W bv) : NTs H (ofoot M dv lk s W) := by
  obtain ⟨⟨kv, h1, _⟩, h2, ⟨ls, h3, _⟩, h5, _⟩ := h
  intro b hb
  rcases ofoot_or hb with rfl | rfl | rfl | ⟨e, he, hb⟩
  · exact nt_of h1 ⟨nofun, nofun⟩
  · exact nt_of h2 ⟨nofun, nofun⟩
  · exact nt_of h3 ⟨nofun, nofun⟩
  · obtain ⟨kv', kc, g1, g2, g3, _⟩ := h5 e he
    rcases hb with rfl | rfl
    · exact nt_of g1 ⟨nofun, nofun⟩
    · exact nt_of g3 ⟨nofun, nofun⟩
/-! ### ten things apart -/
/-- where they lie: six mixers of one voice, the whole one, the own one, the row, the list of the six -/
def feet (mo dO kO : Nat → Addr) (so : Nat → MixS) (m d k M dv lk r ol : Addr) (s : MixS) (W : WD) (i : Nat) : List Addr :=
  if i < 6 then (so i).foot (mo i) (dO i) (kO i) else if i = 6 then s.foot m d k else if i = 7 then ofoot M dv lk s W else if i = 8 then [r] else [ol]
def Apart (ft : Nat → List Addr) : Prop := ∀ i j, i < 10 → j < 10 → i ≠ j → ∀ b ∈ ft i, b ∉ ft j
/-- one of them grows by what is new -/
theorem Apart.grow {ft ft' : Nat → List Addr} {H : Hp} {i : Nat} (h : Apart ft) (hs : ∀ j, j < 10 → j ≠ i → ft' j = ft j) (hi : ∀ b ∈ ft' i, b ∈ ft i ∨ H b = none) (hn : ∀ j, j < 10 → ∀ b ∈ ft j, H b ≠ none) : Apart ft' := fun a b ha hb hab x hx hy => by
  by_cases ea : a = i
  · subst ea
    rw [hs b hb (Ne.symm hab)] at hy
    rcases hi x hx with z | z
    · exact h a b ha hb hab x z hy
    · exact hn b hb x hy z
  · rw [hs a ha ea] at hx
    by_cases eb : b = i
    · subst eb
      rcases hi x hy with z | z
      · exact h a b ha hb hab x hx z
      · exact hn a ha x hx z
    · rw [hs b hb eb] at hy
      exact h a b ha hb hab x hx hy
end Mx

namespace Mx
open PySem L2 LamX
theorem use_all {K : PySem.W.Frag} {cs : Cs} {H3 : Hp} {m d k : Addr} {s : MixS} {bv : Int → Nat} {i : Nat} {dd : Deed} {Q : VK} (hM : MixAt K cs H3 m d k s) (hS : MS s bv i) (hi : i ≤ 160) (hL : Legal s dd)
    (q : ∀ v H4 s', After s dd s' → DueOk K H4 s v dd → MixAt K cs H4 m d k s' → Stp (s.foot m d k) H3 H4 → (∀ b ∈ s'.foot m d k, b ∈ s.foot m d k ∨ H3 b = none) → Q v H4) : UseDone K cs m d k s bv H3 Q dd := by
  have hMO := hS.ok hi
  cases dd with
  | beat => exact ⟨hMO.1, fun r ys H' hpm hpw hq hM' st => q r H' _ (.beat ys hpm hpw) ⟨ys, hpm, hpw, hq⟩ hM' st (fun b hb => .inl (by rw [foot_beat] at hb; exact hb))⟩
  | add n pn pb wt ld =>
    refine ⟨hL, by have := hS.six; omega, fun A H' hA hM' st => q .non H' _ (.add n pn pb wt ld A) rfl hM' (st.sub (by simp [MixS.foot])) (fun b hb => ?_)⟩
    rw [foot_more] at hb
    rcases List.mem_append.mp hb with z | z
    · exact .inl z
    · exact .inr (hA b z)
  | vc n d =>
    obtain ⟨e, he, rfl, hok⟩ := hL
    have hRb : Rb (bv e.1) e.2.2.loud.level := by
      obtain ⟨D, a, b, hI, hD⟩ := (hS.vo e he).loud
      exact (hI.rb hD).1
    exact ⟨e, he, rfl, (hS.nm e he).1, (hS.nm e he).2, hok, by have := (hS.li e he).2; omega, ⟨bv e.1, hRb, by have := (hMO.2 e he).1; omega, by have := (hMO.2 e he).2; omega⟩, fun H' hM' st => q .non H' _ (.vc e d he) rfl hM' (st.sub fun b hb => mem_foot he hb) (fun b hb => .inl (by rw [foot_set] at hb; exact hb))⟩
theorem MS.after {s s' : MixS} {bv : Int → Nat} {i : Nat} {dd : Deed} (h : MS s bv i) (hi : i ≤ 160) (hL : Legal s dd) (hA : After s dd s') : ∃ bv', MS s' bv' (i + 1) := by
  cases hA with
  | beat ys h1 h2 => exact ⟨bv, h.beat h1⟩
  | add n pn pb wt ld A => exact ⟨bv, h.add hL⟩
  | vc e d he =>
    obtain ⟨e', he', hn, hok⟩ := hL
    have := nodup_inj h.nd he he' hn.symm
    subst this
    exact ⟨_, h.vc (by omega) he hok⟩
theorem MS.more {s : MixS} {bv : Int → Nat} {i : Nat} (h : MS s bv i) : MS s bv (i + 1) :=
  ⟨h.s1, h.s2, h.nm, h.nd, h.vo, h.b7, fun n => by have := h.bt n; omega, h.b0, by have := h.bs; omega, fun e he => ⟨(h.li e he).1, by have := (h.li e he).2; omega⟩, by have := h.lk; omega⟩
theorem ms0 {soft : Int} (so1 : 1 ≤ soft) (so2 : soft ≤ 16) : MS ⟨soft, 0, [], []⟩ (fun _ => 7) 0 := ⟨so1, so2, (fun _ h => nomatch h), List.nodup_nil, (fun _ h => nomatch h), fun _ => Nat.le_refl _, fun _ => Nat.le_refl _, fun _ _ => rfl, Nat.le_refl _, (fun _ h => nomatch h), Nat.le_refl _⟩
theorem eq_st {K : PySem.W.Frag} {H : Hp} {v w : V} {n : Int} {x : VoiceS} (hw : x.word = wH ∨ x.word = wR ∨ x.word = wO ∨ x.word = wF) (h : IsSt K H v n x) (g : IsSt K H w n x) : EqT K H 2 v w := by
  obtain ⟨a, pv, lv, rfl, h1, h2, h3⟩ := h
  obtain ⟨b, pw, lw, rfl, g1, g2, g3⟩ := g
  have ok : PyData.strOk x.word = true := by rcases hw with h | h | h | h <;> rw [h] <;> decide +kernel
  exact .inr ⟨a, b, _, _, rfl, rfl, .inl ⟨.inl h1, .inl g1⟩, by show 4 ≤ 100000; decide, .cons (.inl (.inl ⟨n, rfl, rfl⟩)) (.cons (.inl (.inr (.inl ⟨_, ok, rfl, rfl⟩))) (.cons (EqT.q h2 g2) (.cons (EqT.q h3 g3) .nil)))⟩
theorem eq_pairs {K : PySem.W.Frag} {H : Hp} : ∀ {xs ys : List V} {ps : List (Int × Int)}, Paired (IsPair H) xs ps → Paired (IsPair H) ys ps → Paired (EqT K H 2) xs ys
  | _, _, _, .nil, .nil => .nil
  | _, _, _, .cons (b := p) h r, .cons g t => by
    refine .cons ?_ (eq_pairs r t)
    obtain ⟨a, rfl, h1⟩ := h
    obtain ⟨b, rfl, g1⟩ := g
    exact .inr ⟨a, b, _, _, rfl, rfl, .inl ⟨.inl h1, .inl g1⟩, by show 2 ≤ 100000; decide, .cons (.inl (.inl ⟨_, rfl, rfl⟩)) (.cons (.inl (.inl ⟨_, rfl, rfl⟩)) .nil)⟩
abbrev StP (K : PySem.W.Frag) (H : Hp) (s : MixS) : V → Int → Prop := fun v n => ∃ e ∈ s.vs, e.1 = n ∧ IsSt K H v n e.2.2
theorem eq_sts {K : PySem.W.Frag} {H : Hp} {s : MixS} (hn : (s.vs.map (·.1)).Nodup) (hw : ∀ e ∈ s.vs, e.2.2.word = wH ∨ e.2.2.word = wR ∨ e.2.2.word = wO ∨ e.2.2.word = wF) : ∀ {xs ys : List V} {ns : List Int}, Paired (StP K H s) xs ns → Paired (StP K H s) ys ns → Paired (EqT K H 2) xs ys
  | _, _, _, .nil, .nil => .nil
  | _, _, _, .cons h r, .cons g t => by
    refine .cons ?_ (eq_sts hn hw r t)
    obtain ⟨e, he, rfl, h1⟩ := h
    obtain ⟨e', he', e1, g1⟩ := g
    rw [nodup_inj hn he' he e1] at g1
    exact eq_st (hw e he) h1 g1
theorem st_st {K : PySem.W.Frag} {H H' : Hp} {F : List Addr} {s : MixS} (g : Stp F H H') {xs : List V} {ns : List Int} (h : Paired (StP K H s) xs ns) : Paired (StP K H' s) xs ns := pr_map (fun _ _ ⟨e, he, e1, q⟩ => ⟨e, he, e1, q.st g⟩) h
/-- the states of one voice alone are the whole one's -/
theorem st_one {K : PySem.W.Frag} {H : Hp} {n : Int} {s o : MixS} (h : One n s o) {xs : List V} {ns : List Int} (hp : Paired (StP K H o) xs ns) : Paired (StP K H s) xs ns := pr_map (fun _ _ ⟨e, he, e1, q⟩ => by
  obtain ⟨e', he', g1, g2, _⟩ := h.mem he
  exact ⟨e', he', g1.trans e1, by rw [g2]; exact q⟩) hp
theorem pr_append {α β : Type} {R : α → β → Prop} : ∀ {xs : List α} {ys : List β} {xs' : List α} {ys' : List β}, Paired R xs ys → Paired R xs' ys' → Paired R (xs ++ xs') (ys ++ ys')
  | _, _, _, _, .nil, h => h
  | _, _, _, _, .cons a r, h => .cons a (pr_append r h)
theorem sB_le {bv : Int → Nat} {s : MixS} : ∀ {j : Nat}, j ≤ 6 → sB bv (nmj s j) ≤ sB bv (nmj s 6) := by
  have step : ∀ j, sB bv (nmj s j) ≤ sB bv (nmj s (j + 1)) := fun j => by
    rw [nmj_succ]
    by_cases hj : (j : Int) ∈ s.vs.map (·.1)
    · rw [if_pos hj, sB_snoc]
      omega
    · rw [if_neg hj, List.append_nil]
      exact Nat.le_refl _
  intro j hj
  have h0 : sB bv (nmj s 0) ≤ sB bv (nmj s 1) := step 0
  have h1 : sB bv (nmj s 1) ≤ sB bv (nmj s 2) := step 1
  have h2 : sB bv (nmj s 2) ≤ sB bv (nmj s 3) := step 2
  have h3 : sB bv (nmj s 3) ≤ sB bv (nmj s 4) := step 3
  have h4 : sB bv (nmj s 4) ≤ sB bv (nmj s 5) := step 4
  have h5 : sB bv (nmj s 5) ≤ sB bv (nmj s 6) := step 5
  rcases (show j = 0 ∨ j = 1 ∨ j = 2 ∨ j = 3 ∨ j = 4 ∨ j = 5 ∨ j = 6 by omega) with rfl | rfl | rfl | rfl | rfl | rfl | rfl <;> omega
theorem lkj_len (s : MixS) (hn : ∀ j : Nat, ∃ o, One (j : Int) s o) : ∀ j, (lkj s j).length ≤ j * s.lacked.length
  | 0 => Nat.zero_le _
  | j + 1 => by
    obtain ⟨o, ho⟩ := hn j
    rw [lkj_succ ho, List.length_append, ho.lk, Nat.succ_mul]
    have := lkj_len s hn j
    have := List.length_filter_le (fun p : Int × Int => decide (p.1 = (j : Int))) s.lacked
    omega
theorem One.ex (n : Int) (s : MixS) : ∃ o, One n s o := ⟨⟨s.soft, s.coming, s.vs.filter fun e => decide (e.1 = n), s.lacked.filter fun p => decide (p.1 = n)⟩, rfl, rfl, rfl, rfl⟩
/-- the pair that a value is -/
def kOf (H : Hp) : V → Int × Int
  | .ref t => match H t with
    | some (.tup [.int a, .int b]) => (a, b)
    | _ => (0, 0)
  | _ => (0, 0)
theorem kOf_pr {H : Hp} {v : V} {p : Int × Int} (h : IsPair H v p) : kOf H v = p := by
  obtain ⟨a, rfl, e⟩ := h
  show (match H a with
    | some (.tup [.int a, .int b]) => (a, b)
    | _ => (0, 0)) = p
  rw [e]
theorem kOf_at {H : Hp} {v : V} {p : Int × Int} (h : IsPair H v p) : ∃ t, v = .ref t ∧ H t = some (.tup [.int (kOf H v).1, .int (kOf H v).2]) := by
  rw [kOf_pr h]
  obtain ⟨a, e1, e2⟩ := h
  exact ⟨a, e1, e2⟩
theorem kOf_map {H : Hp} : ∀ {xs : List V} {ps : List (Int × Int)}, Paired (IsPair H) xs ps → xs.map (kOf H) = ps
  | _, _, .nil => rfl
  | _, _, .cons h r => by rw [List.map_cons, kOf_pr h, kOf_map r]
theorem pr_in {H : Hp} : ∀ {xs : List V} {ps : List (Int × Int)}, Paired (IsPair H) xs ps → ∀ x ∈ xs, ∃ p, IsPair H x p
  | _, _, .nil, _, h => nomatch h
  | _, _, .cons h r, x, hx => (List.mem_cons.mp hx).elim (fun e => e ▸ ⟨_, h⟩) (pr_in r x)
theorem pr_self {H : Hp} : ∀ {xs : List V}, (∀ x ∈ xs, ∃ p, IsPair H x p) → Paired (IsPair H) xs (xs.map (kOf H))
  | [], _ => .nil
  | x :: r, h => by
    obtain ⟨p, hp⟩ := h x List.mem_cons_self
    rw [List.map_cons, kOf_pr hp]
    exact .cons hp (pr_self fun y hy => h y (List.mem_cons_of_mem _ hy))
/-- a list of pairs, sorted: which pairs -/
theorem sort_pairs {H : Hp} {xs zs : List V} {ps qs : List (Int × Int)} (le : Int × Int → Int × Int → Prop) (anti : ∀ a b, le a b → le b a → a = b) (h : Paired (IsPair H) xs ps) (hp : zs.Perm xs) (hs : zs.Pairwise fun x y => le (kOf H x) (kOf H y)) (hq : qs.Perm ps) (hqs : qs.Pairwise le) : Paired (IsPair H) zs qs := by
  have h1 : Paired (IsPair H) zs (zs.map (kOf H)) := pr_self fun z hz => pr_in h z (hp.mem_iff.mp hz)
  have e : zs.map (kOf H) = qs := by
    refine List.Perm.eq_of_pairwise (fun a b _ _ h1 h2 => anti a b h1 h2) (List.pairwise_map.mpr hs) hqs ?_
    have h3 := hp.map (kOf H)
    rw [kOf_map h] at h3
    exact h3.trans hq.symm
  rw [e] at h1
  exact h1
abbrev N04 : List Str := ["_law_script", "_law_row", "_law_soft", "_law_m", "_law_mixer_here", "_law_ones", "_law_step", "_law_deed_here", "_law_found", "_law_due", "_law_one", "_law_states", "_law_missed", "_law_name"]
theorem sc_law : FnScope N04 ["_law_script"] (defScope s_law) := ⟨rfl, rfl, rfl, by decide +kernel, rfl, by decide +kernel, by decide +kernel⟩
abbrev qL : Str := ("law" ++ ".<locals>." : Str) ++ "<lambda>"
def forBody : Stmt → List Stmt
  | .For _ _ b _ _ => b
  | _ => []
abbrev bS : List Stmt := forBody ((defBody s_law).getD 4 pass0d)
abbrev XL (P : Program) (w : World) (K : PySem.W.Frag) (mg : Str → Option Value) (base : Heap) (f : Addr) (cdv : Value) (A : Around) (outer : List Env) (s : Shared) (H : Hp) (E : XK) : Cx := (cxOf CX0 P w K mg base N04 "law" (defScope s_law) f cdv A outer s H E).nox
structure G04 (P : Program) (w : World) (K : PySem.W.Frag) (mg : Str → Option Value) (base : Heap) (cs : Cs) : Prop where
  taken : OwnF P w K mg base "_law_taken" 1 ["_law_row", "_law_many"] (sp_taken K)
  mixer : OwnC P w K mg base cs.M "Mixer" 3 ["self", "soft"] (sp_Mixer_init K cs)
  own : OwnF P w K mg base "_law_mixer" 1 ["_law_soft"] (sp_own_mixer K)
  deed : OwnF P w K mg base "_law_deed" 4 ["_law_row", "_law_m"] (sp_law_deed K)
  doo : OwnF P w K mg base "_law_do" 7 ["_law_m", "_law_deed_here"] (sp_own_do K)
  use : OwnF P w K mg base "_law_use" 9 ["_law_mixer_here", "_law_deed_here"] (sp_law_use K cs)
  beat : OwnM P w K mg base cs.M "beat" 8 ["self"] (sp_Mixer_beatV K cs)
  plus : OwnF P w K mg base "_law_plus" 2 ["_law_one", "_law_other"] (sp_two (· + ·) K)
  alike : OwnF P w K mg base "_law_alike" 3 ["_law_found", "_law_due"] (sp_eq K 2)
  missed : OwnM P w K mg base cs.M "missed" 1 ["self"] (sp_Mixer_missed K cs)
  states : OwnM P w K mg base cs.M "states" 2 ["self"] (sp_Mixer_states K cs)
end Mx

namespace Mx
open PySem L2 LamX
/-- where things lie -/
structure Lay where
  mo : Nat → Addr
  dO : Nat → Addr
  kO : Nat → Addr
  m : Addr
  d : Addr
  k : Addr
  M : Addr
  dv : Addr
  lk : Addr
  r : Addr
  ol : Addr
  sc : Addr
abbrev Lay.ft (L : Lay) (so : Nat → MixS) (s t : MixS) (W : WD) : Nat → List Addr := feet L.mo L.dO L.kO so L.m L.d L.k L.M L.dv L.lk L.r L.ol s W |> fun f i => if i = 7 then ofoot L.M L.dv L.lk t W else f i
/-- all of them: six mixers of one voice, the whole one, the own one, the row, the list -/
structure Al (K : PySem.W.Frag) (cs : Cs) (H : Hp) (L : Lay) (ns : List Int) (so : Nat → MixS) (s t : MixS) (W : WD) (bv : Int → Nat) : Prop where
  row : RowAt K H L.r L.sc ns
  ol : H L.ol = some (.lst ((List.range 6).map fun n => V.ref (L.mo n)))
  fam : ∀ n, n < 6 → MixAt K cs H (L.mo n) (L.dO n) (L.kO n) (so n)
  mx : MixAt K cs H L.m L.d L.k s
  om : OMx K H L.M L.dv L.lk t W bv
  ap : Apart (L.ft so s t W)
  sq : (∀ H' : Hp, SqL K H' L.sc (ns.map V.int)) ∨ ((∀ j, j < 10 → L.sc ∉ L.ft so s t W j) ∧ H L.sc ≠ none)
section
variable {K : PySem.W.Frag} {cs : Cs} {H H' : Hp} {L : Lay} {ns : List Int} {so so' : Nat → MixS} {s s' t t' : MixS} {W W' : WD} {bv bv' : Int → Nat} {F : List Addr}
theorem ft_one {n : Nat} (h : n < 6) : L.ft so s t W n = (so n).foot (L.mo n) (L.dO n) (L.kO n) := by
  show (if n = 7 then _ else if n < 6 then _ else _) = _
  rw [if_neg (by omega), if_pos h]
theorem ft_6 : L.ft so s t W 6 = s.foot L.m L.d L.k := rfl
theorem ft_7 : L.ft so s t W 7 = ofoot L.M L.dv L.lk t W := rfl
theorem ft_8 : L.ft so s t W 8 = [L.r] := rfl
theorem ft_9 : L.ft so s t W 9 = [L.ol] := rfl
theorem ten {j : Nat} (h : j < 10) : j < 6 ∨ j = 6 ∨ j = 7 ∨ j = 8 ∨ j = 9 := by omega
theorem Al.there (h : Al K cs H L ns so s t W bv) : ∀ j, j < 10 → ∀ b ∈ L.ft so s t W j, H b ≠ none := fun j hj b hb => by
  rcases ten hj with z | rfl | rfl | rfl | rfl
  · rw [ft_one z] at hb
    exact (h.fam j z).some b hb
  · exact h.mx.some b hb
  · exact h.om.there b hb
  · rw [ft_8] at hb
    rw [List.mem_singleton.mp hb]
    exact row_there h.row
  · rw [ft_9] at hb
    rw [List.mem_singleton.mp hb, h.ol]
    exact nofun
theorem Al.nt (h : Al K cs H L ns so s t W bv) : ∀ j, j < 10 → NTs H (L.ft so s t W j) := fun j hj => by
  rcases ten hj with z | rfl | rfl | rfl | rfl
  · rw [ft_one z]
    exact (h.fam j z).nt
  · exact h.mx.nt
  · exact h.om.nt
  · exact row_nt h.row
  · rw [ft_9]
    intro b hb
    rw [List.mem_singleton.mp hb]
    exact nt_of h.ol ⟨nofun, nofun⟩
/-- the others stay -/
theorem Al.off (h : Al K cs H L ns so s t W bv) {i j : Nat} (hi : i < 10) (hj : j < 10) (hij : j ≠ i) (hF : ∀ b ∈ F, b ∈ L.ft so s t W i) : ∀ b ∈ L.ft so s t W j, b ∉ F := fun b hb z => h.ap j i hj hi hij b hb (hF b z)
theorem Al.row_off (h : Al K cs H L ns so s t W bv) {i : Nat} (hi : i < 8) (hF : ∀ b ∈ F, b ∈ L.ft so s t W i) (g : Stp F H H') : RowAt K H' L.r L.sc ns := by
  obtain ⟨pos, mix, p0, m0, m1, hr, hs, hn⟩ := h.row
  refine ⟨pos, mix, p0, m0, m1, g.keep _ _ hr (h.off (i := i) (j := 8) (by omega) (by decide) (by omega) hF _ (by rw [ft_8]; simp)), ?_, hn⟩
  rcases h.sq with q | ⟨q, _⟩
  · exact q _
  · exact seq_st hs g fun z => q i (by omega) (hF _ z)
theorem Al.ol_off (h : Al K cs H L ns so s t W bv) {i : Nat} (hi : i < 9) (hF : ∀ b ∈ F, b ∈ L.ft so s t W i) (g : Stp F H H') : H' L.ol = some (.lst ((List.range 6).map fun n => V.ref (L.mo n))) :=
  g.keep _ _ h.ol (h.off (i := i) (j := 9) (by omega) (by decide) (by omega) hF _ (by rw [ft_9]; simp))
theorem Al.fam_off (h : Al K cs H L ns so s t W bv) {i n : Nat} (hi : i < 10) (hn : n < 6) (hin : n ≠ i) (hF : ∀ b ∈ F, b ∈ L.ft so s t W i) (g : Stp F H H') : MixAt K cs H' (L.mo n) (L.dO n) (L.kO n) (so n) :=
  (h.fam n hn).st g fun b hb => h.off (i := i) (j := n) hi (by omega) hin hF b (by rw [ft_one hn]; exact hb)
theorem Al.mx_off (h : Al K cs H L ns so s t W bv) {i : Nat} (hi : i < 10) (hin : i ≠ 6) (hF : ∀ b ∈ F, b ∈ L.ft so s t W i) (g : Stp F H H') : MixAt K cs H' L.m L.d L.k s :=
  h.mx.st g fun b hb => h.off (i := i) (j := 6) hi (by decide) (Ne.symm hin) hF b hb
theorem Al.om_off (h : Al K cs H L ns so s t W bv) {i : Nat} (hi : i < 10) (hin : i ≠ 7) (hF : ∀ b ∈ F, b ∈ L.ft so s t W i) (g : Stp F H H') : OMx K H' L.M L.dv L.lk t W bv :=
  h.om.st g fun b hb => h.off (i := i) (j := 7) hi (by decide) (Ne.symm hin) hF b hb
theorem Al.sq_off (h : Al K cs H L ns so s t W bv) {i : Nat} (hi : i < 10) (hF : ∀ b ∈ F, b ∈ L.ft so s t W i) (g : Stp F H H') {ft' : Nat → List Addr} (hs : ∀ j, j < 10 → j ≠ i → ft' j = L.ft so s t W j) (hg : ∀ b ∈ ft' i, b ∈ L.ft so s t W i ∨ H b = none) :
    (∀ H' : Hp, SqL K H' L.sc (ns.map V.int)) ∨ ((∀ j, j < 10 → L.sc ∉ ft' j) ∧ H' L.sc ≠ none) := by
  rcases h.sq with q | ⟨q, n⟩
  · exact .inl q
  · refine .inr ⟨fun j hj z => ?_, ?_⟩
    · by_cases e : j = i
      · subst e
        rcases hg _ z with w | w
        · exact q j hj w
        · exact n w
      · rw [hs j hj e] at z
        exact q j hj z
    · cases e : H L.sc with
      | none => exact absurd e n
      | some o =>
        rw [g.keep _ _ e fun z => q i hi (hF _ z)]
        exact nofun
theorem Al.st0 (h : Al K cs H L ns so s t W bv) (g : Stp [] H H') : Al K cs H' L ns so s t W bv := by
  refine ⟨h.row.st0 g, g.keep _ _ h.ol (by simp), fun n hn => (h.fam n hn).st0 g, h.mx.st0 g, h.om.st0 g, h.ap, ?_⟩
  rcases h.sq with q | ⟨q, n⟩
  · exact .inl q
  · refine .inr ⟨q, ?_⟩
    cases e : H L.sc with
    | none => exact absurd e n
    | some o =>
      rw [g.keep _ _ e (by simp)]
      exact nofun
theorem Al.ext (h : Al K cs H L ns so s t W bv) (g : ExtN H H') : Al K cs H' L ns so s t W bv := by
  refine ⟨h.row.ext g, g _ _ h.ol (fun _ => nofun), fun n hn => (h.fam n hn).ext g, h.mx.ext g, h.om.ext g, h.ap, ?_⟩
  rcases h.sq with q | ⟨q, n⟩
  · exact .inl q
  · by_cases hst : ∀ H' : Hp, SqL K H' L.sc (ns.map V.int)
    · exact .inl hst
    · refine .inr ⟨q, ?_⟩
      obtain ⟨_, _, _, _, _, _, hs, _⟩ := h.row
      rcases hs with (e | ⟨o, e⟩) | e
      · rw [g _ _ e (fun _ => nofun)]
        exact nofun
      · rw [g _ _ e (fun _ => nofun)]
        exact nofun
      · exact absurd (fun H' => .inr e) hst
theorem Al.row' (h : Al K cs H L ns so s t W bv) (hR : RowAt K H' L.r L.sc ns) (g : Stp [L.r] H H') : Al K cs H' L ns so s t W bv := by
  have hF : ∀ b ∈ [L.r], b ∈ L.ft so s t W 8 := fun b hb => hb
  exact ⟨hR, g.keep _ _ h.ol (h.off (i := 8) (j := 9) (by decide) (by decide) (by decide) hF _ (by rw [ft_9]; simp)), fun n hn => h.fam_off (i := 8) (by decide) hn (by omega) hF g, h.mx_off (i := 8) (by decide) (by decide) hF g, h.om_off (i := 8) (by decide) (by decide) hF g, h.ap,
    h.sq_off (i := 8) (by decide) hF g (fun _ _ _ => rfl) fun b hb => .inl hb⟩
theorem Al.own' (h : Al K cs H L ns so s t W bv) (hO : OMx K H' L.M L.dv L.lk t' W' bv') (g : Stp (ofoot L.M L.dv L.lk t W) H H') (hg : ∀ b ∈ ofoot L.M L.dv L.lk t' W', b ∈ ofoot L.M L.dv L.lk t W ∨ H b = none) : Al K cs H' L ns so s t' W' bv' := by
  have hF : ∀ b ∈ ofoot L.M L.dv L.lk t W, b ∈ L.ft so s t W 7 := fun b hb => hb
  have hs : ∀ j, j < 10 → j ≠ 7 → L.ft so s t' W' j = L.ft so s t W j := fun j hj hne => by
    rcases ten hj with z | rfl | rfl | rfl | rfl
    · rw [ft_one z, ft_one z]
    · rfl
    · exact absurd rfl hne
    · rfl
    · rfl
  exact ⟨h.row_off (i := 7) (by decide) hF g, h.ol_off (i := 7) (by decide) hF g, fun n hn => h.fam_off (i := 7) (by decide) hn (by omega) hF g, h.mx_off (i := 7) (by decide) (by decide) hF g, hO, h.ap.grow (i := 7) hs hg h.there, h.sq_off (i := 7) (by decide) hF g hs hg⟩
theorem Al.whole' (h : Al K cs H L ns so s t W bv) (hM : MixAt K cs H' L.m L.d L.k s') (g : Stp (s.foot L.m L.d L.k) H H') (hg : ∀ b ∈ s'.foot L.m L.d L.k, b ∈ s.foot L.m L.d L.k ∨ H b = none) : Al K cs H' L ns so s' t W bv := by
  have hF : ∀ b ∈ s.foot L.m L.d L.k, b ∈ L.ft so s t W 6 := fun b hb => hb
  have hs : ∀ j, j < 10 → j ≠ 6 → L.ft so s' t W j = L.ft so s t W j := fun j hj hne => by
    rcases ten hj with z | rfl | rfl | rfl | rfl
    · rw [ft_one z, ft_one z]
    · exact absurd rfl hne
    · rfl
    · rfl
    · rfl
  exact ⟨h.row_off (i := 6) (by decide) hF g, h.ol_off (i := 6) (by decide) hF g, fun n hn => h.fam_off (i := 6) (by decide) hn (by omega) hF g, hM, h.om_off (i := 6) (by decide) (by decide) hF g, h.ap.grow (i := 6) hs hg h.there, h.sq_off (i := 6) (by decide) hF g hs hg⟩
def putF6 (so : Nat → MixS) (n : Nat) (o : MixS) : Nat → MixS := fun i => if i = n then o else so i
theorem Al.one' (h : Al K cs H L ns so s t W bv) {n : Nat} (hn : n < 6) {o : MixS} (hM : MixAt K cs H' (L.mo n) (L.dO n) (L.kO n) o) (g : Stp ((so n).foot (L.mo n) (L.dO n) (L.kO n)) H H') (hg : ∀ b ∈ o.foot (L.mo n) (L.dO n) (L.kO n), b ∈ (so n).foot (L.mo n) (L.dO n) (L.kO n) ∨ H b = none) : Al K cs H' L ns (putF6 so n o) s t W bv := by
  have hF : ∀ b ∈ (so n).foot (L.mo n) (L.dO n) (L.kO n), b ∈ L.ft so s t W n := fun b hb => by rw [ft_one hn]; exact hb
  have hs : ∀ j, j < 10 → j ≠ n → L.ft (putF6 so n o) s t W j = L.ft so s t W j := fun j hj hne => by
    rcases ten hj with z | rfl | rfl | rfl | rfl
    · rw [ft_one z, ft_one z]
      unfold putF6
      rw [if_neg hne]
    · rfl
    · rfl
    · rfl
    · rfl
  have hg' : ∀ b ∈ L.ft (putF6 so n o) s t W n, b ∈ L.ft so s t W n ∨ H b = none := fun b hb => by
    rw [ft_one hn] at hb ⊢
    unfold putF6 at hb
    rw [if_pos rfl] at hb
    exact hg b hb
  refine ⟨h.row_off (i := n) (by omega) hF g, h.ol_off (i := n) (by omega) hF g, fun j hj => ?_, h.mx_off (i := n) (by omega) (by omega) hF g, h.om_off (i := n) (by omega) (by omega) hF g, h.ap.grow (i := n) hs hg' h.there, h.sq_off (i := n) (by omega) hF g hs hg'⟩
  unfold putF6
  by_cases e : j = n
  · rw [if_pos e, e]
    exact hM
  · rw [if_neg e]
    exact h.fam_off (i := n) (by omega) hj e hF g
/-- what the states tell of one another -/
structure Rl (so : Nat → MixS) (s : MixS) (bv : Int → Nat) (i : Nat) : Prop where
  ms : MS s bv i
  mo : ∀ n : Nat, n < 6 → ∃ b, MS (so n) b i
  on : ∀ n : Nat, n < 6 → One (n : Int) s (so n)
  lk : LkS s
end
end Mx

namespace Mx
open PySem L2 LamX
set_option hygiene false in
local macro_rules | `(tactic| walk_at "rd") => `(tactic| try simp only [L2.start, List.map_cons, List.map_nil, List.length_cons, List.length_nil, Nat.reduceAdd, Nat.reduceSub, Nat.reduceLT, Nat.reduceLeDiff, List.replicate_succ, List.replicate_zero, List.append_nil, List.nil_append, List.cons_append, List.set_cons_zero, List.set_cons_succ, List.getElem?_cons_zero, List.getElem?_cons_succ,
  Option.some.injEq, List.cons.injEq, and_true, true_and, and_assoc, reduceCtorEq, L2.V.int.injEq, L2.V.ref.injEq, L2.V.bl.injEq, L2.V.str.injEq, L2.V.ty.injEq, L2.HO.ins.injEq, L2.HO.lst.injEq, L2.HO.tup.injEq, L2.HO.dK.injEq, exists_eq_left', exists_eq_left, exists_eq_right, exists_eq', exists_eq, exists_and_left, exists_and_right, reduceIte, Bool.false_eq_true, Bool.not_true, Bool.not_false,
  L2.tSeq, L2.tIfS, L2.tRet, L2.tRetN, L2.tNext, L2.tAsg, L2.gName, L2.tVar, L2.tC, L2.tCons, L2.tNil, L2.tCB, L2.tOp, L2.tUn, L2.tTup, L2.tLst, L2.tB, L2.tOr, L2.tAnd, L2.tNot, L2.tAndV, L2.tOrV, L2.tNotV, L2.tIf, L2.tTest, L2.tChain, L2.rI, L2.rI0, L2.rU, L2.tDrop, L2.tNever, L2.tCall, L2.tMeth, L2.tMake, L2.rGcd, L2.tFld, L2.sFld, L2.sFldAug, Mx.sFldA, Mx.sFldAugA, L2.rAdd, L2.rSub, L2.rEq, L2.rNe, L2.tDGet, L2.tDIn, L2.tDNotIn, L2.sDPut,
  Mx.isi_int_bool, Mx.isi_int_int, Mx.isi_int_tuple, Mx.isi_int_list, Mx.isi_int_str, Mx.scal_int, Mx.scal_str, Mx.scal_bl, Mx.ofString_inj, Mx.ofString_beq, Mx.lk_cons, Mx.pf_nil, Mx.pf_cons, Mx.sz1, Mx.sz2, List.lookup_nil, String.reduceEq, decide_true, decide_false, decide_eq_true_eq, Int.natAbs_natCast, L2.upd_same, L2.upd_upd, L2.cxOf, L2.gSub, L2.tPar, L2.gCons, L2.gNil, Mx.optV, L2.tSl, L2.tPart, L2.tNoPart, L2.tBM, Mx.fsM])
set_option hygiene false in
local macro_rules | `(tactic| walk_at "rds") => `(tactic| try simp only [L2.start, List.map_cons, List.map_nil, List.length_cons, List.length_nil, Nat.reduceAdd, Nat.reduceSub, Nat.reduceLT, Nat.reduceLeDiff, List.replicate_succ, List.replicate_zero, List.append_nil, List.nil_append, List.cons_append, List.set_cons_zero, List.set_cons_succ, List.getElem?_cons_zero, List.getElem?_cons_succ,
  Option.some.injEq, List.cons.injEq, and_true, true_and, and_assoc, reduceCtorEq, L2.V.int.injEq, L2.V.ref.injEq, L2.V.bl.injEq, L2.V.str.injEq, L2.V.ty.injEq, L2.HO.ins.injEq, L2.HO.lst.injEq, L2.HO.tup.injEq, L2.HO.dK.injEq, exists_eq_left', exists_eq_left, exists_eq_right, exists_eq', exists_eq, exists_and_left, exists_and_right, reduceIte, Bool.false_eq_true, Bool.not_true, Bool.not_false,
  L2.tSeq, L2.tIfS, L2.tRet, L2.tRetN, L2.tNext, L2.tAsg, L2.gName, L2.tVar, L2.tC, L2.tCons, L2.tNil, L2.tCB, L2.tOp, L2.tUn, L2.tTup, L2.tLst, L2.tB, L2.tOr, L2.tAnd, L2.tNot, L2.tAndV, L2.tOrV, L2.tNotV, L2.tIf, L2.tTest, L2.tChain, L2.rI, L2.rI0, L2.rU, L2.tDrop, L2.tNever, L2.tCall, L2.tMeth, L2.tMake, L2.rGcd, L2.tFld, L2.sFld, L2.sFldAug, Mx.sFldA, Mx.sFldAugA, L2.rAdd, L2.rSub, L2.rEq, L2.rNe, L2.tDGet, L2.tDIn, L2.tDNotIn, L2.sDPut,
  Mx.isi_int_bool, Mx.isi_int_int, Mx.isi_int_tuple, Mx.isi_int_list, Mx.isi_int_str, Mx.scal_int, Mx.scal_str, Mx.scal_bl, Mx.ofString_inj, Mx.ofString_beq, Mx.lk_cons, Mx.pf_nil, Mx.pf_cons, Mx.sz1, Mx.sz2, List.lookup_nil, String.reduceEq, decide_true, decide_false, decide_eq_true_eq, Int.natAbs_natCast, L2.upd_same, L2.upd_upd, L2.cxOf, L2.gSub, L2.tPar, L2.gCons, L2.gNil, Mx.optV, L2.tSl, L2.tPart, L2.tNoPart, L2.tBM, Mx.fsM, *])

section
variable {P : Program} {w : World} {K : PySem.W.Frag} {mg : Str → Option Value} {base : Heap} {cs : Cs}
theorem ol_at {mo : Nat → Addr} {n : Nat} (h : n < 6) : atI ((List.range 6).map fun n => V.ref (mo n)) ((n : Nat) : Int) = some (.ref (mo n)) := by
  rcases (show n = 0 ∨ n = 1 ∨ n = 2 ∨ n = 3 ∨ n = 4 ∨ n = 5 by omega) with rfl | rfl | rfl | rfl | rfl | rfl <;> rfl
theorem ol_get {mo : Nat → Addr} {n : Nat} {x : V} (h : ((List.range 6).map fun n => V.ref (mo n))[n]? = some x) : n < 6 ∧ x = .ref (mo n) := by
  have hl := (List.getElem?_eq_some_iff.mp h).1
  rw [List.length_map, List.length_range] at hl
  refine ⟨hl, ?_⟩
  rw [List.getElem?_map, List.getElem?_range hl] at h
  exact (Option.some.inj h).symm
theorem ix_0 {H1 : Hp} {a : Addr} {dd : Deed} {Q : VK} (h : dd.at K H1 a) (hd : dd ≠ .beat) (k : ∀ x : Str, V.str x ≠ .str "beat" → Q (.str x) H1) : rIxT K (.ref a) (.int 0) H1 Q := by
  cases dd with
  | beat => exact absurd rfl hd
  | add n pn pb wt ld => exact ixT (xs := [.str "add", .int n, .int pn, .int pb, .int wt, .int ld]) h (x := .str "add") rfl (k _ (by decide))
  | vc n d =>
    cases d with
    | par pl xs =>
      obtain ⟨tt, h1, h2⟩ := h
      exact ixT h1 (x := .str "parcel") rfl (k _ (by decide))
    | fin mn => exact ixT (xs := [.str "end", .int n, .int mn]) h (x := .str "end") rfl (k _ (by decide))
    | lead l b => exact ixT (xs := [.str "lead", .int n, .int l, .int b]) h (x := .str "lead") rfl (k _ (by decide))
    | heard b =>
      cases b with
      | true => exact ixT (xs := [.str "wake", .int n]) h (x := .str "wake") rfl (k _ (by decide))
      | false => exact ixT (xs := [.str "hush", .int n]) h (x := .str "hush") rfl (k _ (by decide))
theorem ix_1 {H1 : Hp} {a : Addr} {dd : Deed} {Q : VK} (h : dd.at K H1 a) (hd : dd ≠ .beat) (k : Q (.int dd.nm) H1) : rIxT K (.ref a) (.int 1) H1 Q := by
  cases dd with
  | beat => exact absurd rfl hd
  | add n pn pb wt ld => exact ixT (xs := [.str "add", .int n, .int pn, .int pb, .int wt, .int ld]) h (x := .int n) rfl k
  | vc n d =>
    cases d with
    | par pl xs =>
      obtain ⟨tt, h1, h2⟩ := h
      exact ixT h1 (x := .int n) rfl k
    | fin mn => exact ixT (xs := [.str "end", .int n, .int mn]) h (x := .int n) rfl k
    | lead l b => exact ixT (xs := [.str "lead", .int n, .int l, .int b]) h (x := .int n) rfl k
    | heard b =>
      cases b with
      | true => exact ixT (xs := [.str "wake", .int n]) h (x := .int n) rfl k
      | false => exact ixT (xs := [.str "hush", .int n]) h (x := .int n) rfl k
theorem nm_bd {s : MixS} {dd : Deed} (hd : dd ≠ .beat) (hL : Legal s dd) (hn : ∀ e ∈ s.vs, 0 ≤ e.1 ∧ e.1 ≤ 5) : 0 ≤ dd.nm ∧ dd.nm ≤ 5 := by
  cases dd with
  | beat => exact absurd rfl hd
  | add n pn pb wt ld => exact ⟨hL.2.1, hL.2.2.1⟩
  | vc n d =>
    obtain ⟨e, he, e1, _⟩ := hL
    have := hn e he
    rw [e1] at this
    exact this
/-- a beat of the six, and the sum -/
theorem bt_ok (B : Blt mg) (G : G04 P w K mg base cs) {f : Addr} {cdv : Value} {A0 : Around} {outer : List Env} {s0 : Shared} {H : Hp} {E : XK} (hr : Room 9 (A0.deeper (PyProof.Rows.envOfC "law" (defScope s_law) s0.heap.objs.size f cdv))) :
    ∃ t, PS (XL P w K mg base f cdv A0 outer s0 H E) (bS.getD 3 pass0d) t ∧ ∀ (D : Ends) (H1 : Hp) (L : Lay) (ns : List Int) (so : Nat → MixS) (s s' t' : MixS) (W : WD) (bv bv2 : Int → Nat) (i : Nat) (a : Addr) (dd : Deed) (fv : V) (x0 x2 x6 x9 x10 x11 x12 : Option V),
      Al K cs H1 L ns so s' t' W bv2 → Rl so s bv i → i ≤ 150 → dd.at K H1 a → Legal s dd → After s dd s' → DueOk K H1 s fv dd →
      (∀ H2 so' y9 y10, Al K cs H2 L ns so' s' t' W bv2 → (∀ n : Nat, n < 6 → One (n : Int) s' (so' n) ∧ ∃ b, MS (so' n) b (i + 1)) → (Tabs [(Pt, qL)] H1 → Tabs [(Pt, qL)] H2) → D.nx [x0, some (.ref L.r), x2, some (.ref L.M), some (.ref L.m), some (.ref L.ol), x6, some (.ref a), some fv, y9, y10, x11, x12, none] H2) →
      t D [x0, some (.ref L.r), x2, some (.ref L.M), some (.ref L.m), some (.ref L.ol), x6, some (.ref a), some fv, x9, x10, x11, x12, none] H1 := by
  have nd := sc_law.nd
  have r2 := hr.mono (show 2 ≤ 9 by decide)
  have r3 := hr.mono (show 3 ≤ 9 by decide)
  have r8 := hr.mono (show 8 ≤ 9 by decide)
  refine ⟨_, (ps_if (pt_cmpR op_eq (pe_ix ix_tup (pv 7) pe_int (fun _ _ => rfl)) pe_str (nomark _))
    (pss_cons (ps_set (i := 9) nd rfl (.inl rfl) (pe_tup (pa_cons pe_int (pa_cons pe_int pa_nil))))
    (pss_cons (ps_for PassesOwn.never rfl (pi_list (pv 5)) (pg_name (i := 10) nd rfl (.inl rfl)) (pss_one (ps_set (i := 9) nd rfl (.inl rfl) (p_call G.plus r2 (pa_cons (pv 9) (pa_cons (p_meth0 G.beat r8 (pv 10)) pa_nil))))))
    (pss_one (ps_if (pt_not (pt_val (p_call G.alike r3 (pa_cons (pv 8) (pa_cons (pv 9) pa_nil))))) pss_never pss_nil))))
    (pss_one (ps_expr (p_call G.use hr (pa_cons (pe_ix ix_list (pv 5) (pe_ix ix_tup (pv 7) pe_int (fun _ _ => rfl)) (fun _ _ => rfl)) (pa_cons (pv 7) pa_nil)))))), ?_⟩
  intro D H1 L ns so s s' t' W bv bv2 i a dd fv x0 x2 x6 x9 x10 x11 x12 hAl hR hi ha hL hA hD q
  have hS := hR.ms
  have hMO := hS.ok (by omega)
  walk_at "rd"
  by_cases hdb : dd = .beat
  · subst hdb
    obtain ⟨ys0, hpm0, hpw0, hfq⟩ := hD
    generalize hdd : Deed.beat = dd0 at hA
    cases hA with
    | add => cases hdd
    | vc => cases hdd
    | beat ys hpm hpw =>
    obtain rfl := sorted_eq hpm0 hpw0 hpm hpw
    refine ixT (xs := [.str "beat"]) ha (x := .str "beat") rfl ⟨rfl, ?_⟩
    rw [if_pos rfl]
    intro p hp
    have t0 := Stp.new (o := .tup [.int 0, .int 1]) hp
    have e0 : upd H1 p (.tup [.int 0, .int 1]) p = some (.tup [.int 0, .int 1]) := upd_same
    have hAl0 := hAl.st0 t0
    have hfq0 := hfq.st t0
    have hT0 : Tabs [(Pt, qL)] H1 → Tabs [(Pt, qL)] (upd H1 p (.tup [.int 0, .int 1])) := fun z => tabs_nt z t0 nofun
    generalize upd H1 p _ = H2 at *
    have hnm6 := nmj_six hS.nd hS.nm hpm hpw
    have hsB6 : ∀ j, j ≤ 6 → sB bv (nmj s j) < 4400 := fun j hj => by
      have := sB_le (bv := bv) (s := s) hj
      rw [hnm6, sB_perm hpm] at this
      have := hMO.1.bits
      omega
    refine ⟨_, rfl, L.ol, rfl, ⟨_, .inl (.inl hAl0.ol)⟩, ?_⟩
    refine for_list (K := K) (a := L.ol) (xs := (List.range 6).map fun n => V.ref (L.mo n)) (fun j σ H' => ∃ so' dv y10, σ = [x0, some (.ref L.r), x2, some (.ref L.M), some (.ref L.m), some (.ref L.ol), x6, some (.ref a), some fv, some dv, y10, x11, x12, none] ∧ IsQ K H' dv (sumOf s (nmj s j)) ∧ Al K cs H' L ns so' (s.beat ys0) t' W bv2 ∧ (∀ n : Nat, n < j → n < 6 → One (n : Int) (s.beat ys0) (so' n) ∧ ∃ b, MS (so' n) b (i + 1)) ∧ (∀ n, j ≤ n → so' n = so n) ∧ IsQ K H' fv (sumOf s ys0) ∧ (Tabs [(Pt, qL)] H1 → Tabs [(Pt, qL)] H'))
      ⟨so, _, _, rfl, ⟨p, rfl, .inl e0⟩, hAl0, fun n h => absurd h (by omega), fun _ _ => rfl, hfq0, hT0⟩ (fun j σ H' _ h => ?_) (fun j x σ H' hx h => ?_) (fun σ H' h => ?_)
    · obtain ⟨_, _, _, _, _, g, _⟩ := h
      exact .inl (.inl g.ol)
    · obtain ⟨so', dv, y10, rfl, hdv, hAl', hon, hso, hfv, hTb⟩ := h
      obtain ⟨hj6, rfl⟩ := ol_get hx
      have hM := hAl'.fam j hj6
      rw [hso j (Nat.le_refl _)] at hM
      obtain ⟨b, hMS⟩ := hR.mo j hj6
      have hMOo := hMS.ok (show i ≤ 160 by omega)
      obtain ⟨dx, hma⟩ := id hM.ob
      walk_at "rd"
      refine ⟨dx, _, hma, by walk_at "rd", L.mo j, L.dO j, L.kO j, so j, b, rfl, hM, hMOo.1, fun r zs H5 g1 g2 hq hM5 s5 => ?_⟩
      obtain ⟨adv, rfl, tdv⟩ := hdv.st s5
      obtain ⟨ar, rfl, tr⟩ := hq
      have hb1 : Rb (1 + sB bv (nmj s j)) (sumOf s (nmj s j)) := sum_rbV hMO.1 hS.nd (nmj s j) fun n hn => by
        obtain ⟨e, he, e1⟩ := List.mem_map.mp (show n ∈ s.vs.map (·.1) by simpa using (List.mem_filter.mp hn).2)
        exact ⟨e, he, e1⟩
      have hb2 : Rb (1 + sB b zs) (sumOf (so j) zs) := sum_rbV hMOo.1 hMS.nd zs fun n hn => by
        obtain ⟨e, he, e1⟩ := List.mem_map.mp (g1.mem_iff.mp hn)
        exact ⟨e, he, e1⟩
      have h1 := hsB6 j (by omega)
      have h2 : sB b zs < 4400 := by
        rw [sB_perm g1]
        exact hMOo.1.bits
      refine ⟨adv, ar, sumOf s (nmj s j), sumOf (so j) zs, 1 + sB bv (nmj s j), 1 + sB b zs, rfl, tdv, tr, hb1, hb2, by omega, by omega, by omega, fun r6 H6 hp6 s6 l6 => ?_⟩
      have hone := hR.on j hj6
      have hg : ∀ x ∈ ((so j).beat zs).foot (L.mo j) (L.dO j) (L.kO j), x ∈ (so' j).foot (L.mo j) (L.dO j) (L.kO j) ∨ H' x = none := fun x hx => .inl (by rw [foot_beat] at hx; rw [hso j (Nat.le_refl _)]; exact hx)
      have hAl5 : Al K cs H5 L ns (putF6 so' j ((so j).beat zs)) (s.beat ys0) t' W bv2 := hAl'.one' hj6 hM5 (by rw [hso j (Nat.le_refl _)]; exact s5) hg
      refine ⟨?_, putF6 so' j ((so j).beat zs), hAl5.st0 s6, fun n hn hn6 => ?_, fun n hn => ?_, (hfv.st s5).st s6, fun z => tabs_nt (tabs_nt (hTb z) s5 hM.nt) s6 nofun⟩
      · rw [nmj_sum hone hS.nd g1 g2]
        exact isQ_of l6
      · unfold putF6
        by_cases e : n = j
        · subst e
          rw [if_pos rfl]
          exact ⟨hone.beat hpm hpw g1 g2, b, hMS.beat g1⟩
        · rw [if_neg e]
          exact hon n (by omega) hn6
      · unfold putF6
        rw [if_neg (by omega)]
        exact hso n (by omega)
    · obtain ⟨so', dv, y10, rfl, hdv, hAl', hon, hso, hfv, hTb⟩ := h
      rw [List.length_map, List.length_range] at hdv hon
      rw [hnm6] at hdv
      walk_at "rd"
      refine ⟨_, _, rfl, (EqT.q hfv hdv).up, fun H5 s5 => ⟨_, rfl, ?_⟩⟩
      rw [if_neg (by decide)]
      exact q H5 so' _ _ (hAl'.st0 s5) (fun n hn => hon n hn hn) fun z => tabs_nt (hTb z) s5 nofun
  · refine ix_0 ha hdb fun x hx => ⟨rfl, ?_⟩
    rw [if_neg hx]
    have hnb := nm_bd hdb hL hS.nm
    obtain ⟨k, hk, hk6⟩ : ∃ k : Nat, dd.nm = (k : Int) ∧ k < 6 := ⟨dd.nm.toNat, by omega, by omega⟩
    refine ix_1 ha hdb ?_
    rw [hk]
    refine ixL (.inl (.inl hAl.ol)) (ol_at hk6) ?_
    obtain ⟨b, hMS⟩ := hR.mo k hk6
    have hM := hAl.fam k hk6
    have hone := hR.on k hk6
    have hLo := hone.legal hdb hk hL
    refine ⟨L.mo k, L.dO k, L.kO k, a, so k, b, dd, rfl, ha, hM, use_all hM hMS (by omega) hLo fun v H4 o' hA' _ hM4 s4 hg => ?_⟩
    refine q H4 (putF6 so k o') _ _ (hAl.one' hk6 hM4 s4 hg) (fun n hn => ?_) fun z => tabs_nt z s4 hM.nt
    unfold putF6
    by_cases e : n = k
    · subst e
      rw [if_pos rfl]
      exact ⟨hone.own hS.nd hdb hk hA hA', hMS.after (by omega) hLo hA'⟩
    · rw [if_neg e]
      obtain ⟨b2, hM2⟩ := hR.mo n hn
      exact ⟨(hR.on n hn).other hdb (by rw [hk]; omega) hA, b2, hM2.more⟩
end
end Mx

namespace Mx
open PySem L2 LamX
set_option hygiene false in
local macro_rules | `(tactic| walk_at "rd") => `(tactic| try simp only [L2.start, List.map_cons, List.map_nil, List.length_cons, List.length_nil, Nat.reduceAdd, Nat.reduceSub, Nat.reduceLT, Nat.reduceLeDiff, List.replicate_succ, List.replicate_zero, List.append_nil, List.nil_append, List.cons_append, List.set_cons_zero, List.set_cons_succ, List.getElem?_cons_zero, List.getElem?_cons_succ,
  Option.some.injEq, List.cons.injEq, and_true, true_and, and_assoc, reduceCtorEq, L2.V.int.injEq, L2.V.ref.injEq, L2.V.bl.injEq, L2.V.str.injEq, L2.V.ty.injEq, L2.HO.ins.injEq, L2.HO.lst.injEq, L2.HO.tup.injEq, L2.HO.dK.injEq, exists_eq_left', exists_eq_left, exists_eq_right, exists_eq', exists_eq, exists_and_left, exists_and_right, reduceIte, Bool.false_eq_true, Bool.not_true, Bool.not_false,
  L2.tSeq, L2.tIfS, L2.tRet, L2.tRetN, L2.tNext, L2.tAsg, L2.gName, L2.tVar, L2.tC, L2.tCons, L2.tNil, L2.tCB, L2.tOp, L2.tUn, L2.tTup, L2.tLst, L2.tB, L2.tOr, L2.tAnd, L2.tNot, L2.tAndV, L2.tOrV, L2.tNotV, L2.tIf, L2.tTest, L2.tChain, L2.rI, L2.rI0, L2.rU, L2.tDrop, L2.tNever, L2.tCall, L2.tMeth, L2.tMake, L2.rGcd, L2.tFld, L2.sFld, L2.sFldAug, Mx.sFldA, Mx.sFldAugA, L2.rAdd, L2.rSub, L2.rEq, L2.rNe, L2.tDGet, L2.tDIn, L2.tDNotIn, L2.sDPut,
  Mx.isi_int_bool, Mx.isi_int_int, Mx.isi_int_tuple, Mx.isi_int_list, Mx.isi_int_str, Mx.scal_int, Mx.scal_str, Mx.scal_bl, Mx.ofString_inj, Mx.ofString_beq, Mx.lk_cons, Mx.pf_nil, Mx.pf_cons, Mx.sz1, Mx.sz2, List.lookup_nil, String.reduceEq, decide_true, decide_false, decide_eq_true_eq, Int.natAbs_natCast, L2.upd_same, L2.upd_upd, L2.cxOf, L2.gSub, L2.tPar, L2.gCons, L2.gNil, Mx.optV, L2.tSl, L2.tPart, L2.tNoPart, L2.tBM, Mx.fsM])
set_option hygiene false in
local macro_rules | `(tactic| walk_at "rds") => `(tactic| try simp only [L2.start, List.map_cons, List.map_nil, List.length_cons, List.length_nil, Nat.reduceAdd, Nat.reduceSub, Nat.reduceLT, Nat.reduceLeDiff, List.replicate_succ, List.replicate_zero, List.append_nil, List.nil_append, List.cons_append, List.set_cons_zero, List.set_cons_succ, List.getElem?_cons_zero, List.getElem?_cons_succ,
  Option.some.injEq, List.cons.injEq, and_true, true_and, and_assoc, reduceCtorEq, L2.V.int.injEq, L2.V.ref.injEq, L2.V.bl.injEq, L2.V.str.injEq, L2.V.ty.injEq, L2.HO.ins.injEq, L2.HO.lst.injEq, L2.HO.tup.injEq, L2.HO.dK.injEq, exists_eq_left', exists_eq_left, exists_eq_right, exists_eq', exists_eq, exists_and_left, exists_and_right, reduceIte, Bool.false_eq_true, Bool.not_true, Bool.not_false,
  L2.tSeq, L2.tIfS, L2.tRet, L2.tRetN, L2.tNext, L2.tAsg, L2.gName, L2.tVar, L2.tC, L2.tCons, L2.tNil, L2.tCB, L2.tOp, L2.tUn, L2.tTup, L2.tLst, L2.tB, L2.tOr, L2.tAnd, L2.tNot, L2.tAndV, L2.tOrV, L2.tNotV, L2.tIf, L2.tTest, L2.tChain, L2.rI, L2.rI0, L2.rU, L2.tDrop, L2.tNever, L2.tCall, L2.tMeth, L2.tMake, L2.rGcd, L2.tFld, L2.sFld, L2.sFldAug, Mx.sFldA, Mx.sFldAugA, L2.rAdd, L2.rSub, L2.rEq, L2.rNe, L2.tDGet, L2.tDIn, L2.tDNotIn, L2.sDPut,
  Mx.isi_int_bool, Mx.isi_int_int, Mx.isi_int_tuple, Mx.isi_int_list, Mx.isi_int_str, Mx.scal_int, Mx.scal_str, Mx.scal_bl, Mx.ofString_inj, Mx.ofString_beq, Mx.lk_cons, Mx.pf_nil, Mx.pf_cons, Mx.sz1, Mx.sz2, List.lookup_nil, String.reduceEq, decide_true, decide_false, decide_eq_true_eq, Int.natAbs_natCast, L2.upd_same, L2.upd_upd, L2.cxOf, L2.gSub, L2.tPar, L2.gCons, L2.gNil, Mx.optV, L2.tSl, L2.tPart, L2.tNoPart, L2.tBM, Mx.fsM, *])

section
variable {P : Program} {w : World} {K : PySem.W.Frag} {mg : Str → Option Value} {base : Heap} {cs : Cs}
theorem s5_ok (B : Blt mg) (G : G04 P w K mg base cs) {f : Addr} {cdv : Value} {A0 : Around} {outer : List Env} {s0 : Shared} {H : Hp} {E : XK} (hr : Room 9 (A0.deeper (PyProof.Rows.envOfC "law" (defScope s_law) s0.heap.objs.size f cdv))) :
    ∃ t, PS (XL P w K mg base f cdv A0 outer s0 H E) (bS.getD 5 pass0d) t ∧ ∀ (D : Ends) (H1 : Hp) (L : Lay) (ns : List Int) (so : Nat → MixS) (s t' : MixS) (W : WD) (bv : Int → Nat) (i : Nat) (p11 p12 : Addr) (x0 x1 x2 x3 x4 x6 x7 x8 x9 x10 : Option V),
      Al K cs H1 L ns so s t' W bv → (∀ n : Nat, n < 6 → One (n : Int) s (so n) ∧ ∃ b, MS (so n) b i) → i ≤ 160 → (s.vs.map (·.1)).Nodup → s.lacked.length ≤ 1000 → H1 p11 = some (.lst []) → H1 p12 = some (.lst []) →
      (∀ H2 y10 p11 p12 ws ls, Stp [] H1 H2 → H2 p11 = some (.lst ws) → Paired (StP K H2 s) ws (nmj s 6) → H2 p12 = some (.lst ls) → Paired (IsPair H2) ls (lkj s 6) → D.nx [x0, x1, x2, x3, x4, some (.ref L.ol), x6, x7, x8, x9, y10, some (.ref p11), some (.ref p12), none] H2) →
      t D [x0, x1, x2, x3, x4, some (.ref L.ol), x6, x7, x8, x9, x10, some (.ref p11), some (.ref p12), none] H1 := by
  have nd := sc_law.nd
  have r1 := hr.mono (show 1 ≤ 9 by decide)
  have r2 := hr.mono (show 2 ≤ 9 by decide)
  refine ⟨_, (ps_for PassesOwn.never rfl (pi_list (pv 5)) (pg_name (i := 10) nd rfl (.inl rfl))
    (pss_cons (ps_set (i := 11) nd rfl (.inl rfl) (pe_op op_cat (pv 11) (p_meth0 G.states r2 (pv 10))))
    (pss_one (ps_set (i := 12) nd rfl (.inl rfl) (pe_op op_cat (pv 12) (p_meth0 G.missed r1 (pv 10))))))), ?_⟩
  intro D H1 L ns so s t' W bv i p11 p12 x0 x1 x2 x3 x4 x6 x7 x8 x9 x10 hAl hon hi hnd hll e11 e12 q
  walk_at "rd"
  refine ⟨_, rfl, L.ol, rfl, ⟨_, .inl (.inl hAl.ol)⟩, ?_⟩
  refine for_list (K := K) (a := L.ol) (xs := (List.range 6).map fun n => V.ref (L.mo n)) (fun j σ H' => ∃ y10 q11 q12 ws ls, σ = [x0, x1, x2, x3, x4, some (.ref L.ol), x6, x7, x8, x9, y10, some (.ref q11), some (.ref q12), none] ∧ Stp [] H1 H' ∧ H' q11 = some (.lst ws) ∧ Paired (StP K H' s) ws (nmj s j) ∧ H' q12 = some (.lst ls) ∧ Paired (IsPair H') ls (lkj s j))
    ⟨_, p11, p12, [], [], rfl, Stp.refl, e11, .nil, e12, .nil⟩ (fun j σ H' _ h => ?_) (fun j x σ H' hx h => ?_) (fun σ H' h => ?_)
  · obtain ⟨_, _, _, _, _, _, g, _⟩ := h
    exact .inl (.inl (g.keep _ _ hAl.ol (by simp)))
  · obtain ⟨y10, q11, q12, ws, ls, rfl, g, w1, w2, w3, w4⟩ := h
    obtain ⟨hj6, rfl⟩ := ol_get hx
    obtain ⟨hone, b, hMS⟩ := hon j hj6
    have hM := (hAl.fam j hj6).st0 g
    obtain ⟨dx, hma⟩ := id hM.ob
    have hlen1 : (nmj s j).length ≤ 6 := by
      unfold nmj six
      refine Nat.le_trans (List.length_filter_le _ _) ?_
      rw [List.length_map, List.length_range]
      omega
    have hlen2 : (lkj s j).length ≤ 6000 := by
      have h1 := lkj_len s (fun j => One.ex _ s) j
      have h2 : j * s.lacked.length ≤ 5 * s.lacked.length := Nat.mul_le_mul_right _ (by omega)
      omega
    walk_at "rd"
    have hsz : (10000 : Nat) ≤ sizeLine := by decide
    have lw1 := w2.length
    have lw2 := w4.length
    refine ⟨dx, _, hma, by walk_at "rd", L.mo j, L.dO j, L.kO j, so j, rfl, hM, by have := hMS.six; omega, fun p3 H3 ws3 zs hp3 s3 g1 g2 hl3 hs3 => ?_⟩
    have ez := hone.zs hnd g1 g2
    have lw3 := hs3.length
    refine ⟨q11, p3, _, _, rfl, rfl, s3.keep _ _ w1 (by simp), hl3, ?_, fun p4 hp4 => ?_⟩
    · have := g1.length_eq
      rw [List.length_map] at this
      have := hMS.six
      omega
    have s4 := Stp.new (o := .lst (ws ++ ws3)) hp4
    have e4 : upd H3 p4 (.lst (ws ++ ws3)) p4 = some (.lst (ws ++ ws3)) := upd_same
    have hst4 : Paired (StP K (upd H3 p4 (.lst (ws ++ ws3))) s) (ws ++ ws3) (nmj s (j + 1)) := by
      rw [nmj_succ, ← ez]
      exact st_st s4 (pr_append (st_st s3 w2) (st_one hone hs3))
    generalize upd H3 p4 (.lst (ws ++ ws3)) = H4 at *
    have s34 : Stp [] H' H4 := (s3.trans s4).sub (by simp)
    have hM4 := hM.st0 s34
    obtain ⟨dx4, hma4⟩ := id hM4.ob
    refine ⟨dx4, _, hma4, by walk_at "rd", L.mo j, L.dO j, L.kO j, so j, rfl, hM4, fun p5 H5 ls5 hp5 s5 hl5 hs5 => ?_⟩
    have lw5 := hs5.length
    have hlo : (so j).lacked.length ≤ 1000 := by
      rw [hone.lk]
      exact Nat.le_trans (List.length_filter_le _ _) hll
    have s35 : Stp [] H' H5 := (s34.trans s5).sub (by simp)
    refine ⟨q12, p5, _, _, rfl, rfl, s35.keep _ _ w3 (by simp), hl5, by omega, fun p6 hp6 => ?_⟩
    have s6 := Stp.new (o := .lst (ls ++ ls5)) hp6
    refine ⟨p4, rfl, p6, rfl, (g.trans (s35.trans s6)).sub (by simp), _, (s5.trans s6).keep _ _ e4 (by simp), st_st s6 (st_st s5 hst4), _, upd_same, ?_⟩
    rw [lkj_succ hone]
    exact pairs_st s6 (pr_append (pairs_st s35 w4) hs5)
  · obtain ⟨y10, q11, q12, ws, ls, rfl, g, w1, w2, w3, w4⟩ := h
    rw [List.length_map, List.length_range] at w2 w4
    exact q H' y10 q11 q12 ws ls g w1 w2 w3 w4
theorem s6_ok (B : Blt mg) (G : G04 P w K mg base cs) {f : Addr} {cdv : Value} {A0 : Around} {outer : List Env} {s0 : Shared} {H : Hp} {E : XK} (hr : Room 9 (A0.deeper (PyProof.Rows.envOfC "law" (defScope s_law) s0.heap.objs.size f cdv))) :
    ∃ t, PS (XL P w K mg base f cdv A0 outer s0 H E) (bS.getD 6 pass0d) t ∧ ∀ (D : Ends) (H1 : Hp) (m d k : Addr) (s : MixS) (bv : Int → Nat) (i : Nat) (p11 p12 : Addr) (ws ls : List V) (x0 x1 x2 x3 x5 x6 x7 x8 x9 x10 : Option V),
      MixAt K cs H1 m d k s → MS s bv i → i ≤ 160 → LkS s → H1 p11 = some (.lst ws) → Paired (StP K H1 s) ws (nmj s 6) → H1 p12 = some (.lst ls) → Paired (IsPair H1) ls (lkj s 6) →
      (∀ H2, Stp [] H1 H2 → D.nx [x0, x1, x2, x3, some (.ref m), x5, x6, x7, x8, x9, x10, some (.ref p11), some (.ref p12), none] H2) →
      t D [x0, x1, x2, x3, some (.ref m), x5, x6, x7, x8, x9, x10, some (.ref p11), some (.ref p12), none] H1 := by
  have nd := sc_law.nd
  have r1 := hr.mono (show 1 ≤ 9 by decide)
  have r2 := hr.mono (show 2 ≤ 9 by decide)
  have hu64 : (A0.deeper (PyProof.Rows.envOfC "law" (defScope s_law) s0.heap.objs.size f cdv)).units + 64 < cLine := by
    have := hr.un
    omega
  refine ⟨_, (ps_if (PW.pt (pw_or (pt_cmpR (op_neD hu64) (p_meth0 G.states r2 (pv 4)) (pv 11) (nomark _)) (pw_or1 (pt_cmpR (op_neD hu64) (pe_callB cr_sortedPO (by rfl) B.sorted PyProof.Rows.boot_sorted (pa_cons (p_meth0 G.missed r1 (pv 4)) pa_nil)) (pv 12) (nomark _))))) pss_never pss_nil), ?_⟩
  intro D H1 m d k s bv i p11 p12 ws ls x0 x1 x2 x3 x5 x6 x7 x8 x9 x10 hM hS hi hLk w1 w2 w3 w4 q
  obtain ⟨dx, hma⟩ := id hM.ob
  have hw : ∀ e ∈ s.vs, e.2.2.word = wH ∨ e.2.2.word = wR ∨ e.2.2.word = wO ∨ e.2.2.word = wF := fun e he => (hS.vo e he).word
  have hlk := hS.lk
  walk_at "rd"
  refine ⟨dx, _, hma, by walk_at "rd", m, d, k, s, rfl, hM, by have := hS.six; omega, fun p3 H3 ws3 zs hp3 s3 g1 g2 hl3 hs3 => ?_⟩
  have ez := nmj_six hS.nd hS.nm g1 g2
  rw [ez] at w2
  refine ne_T (n := 3) (.inr ⟨p3, p11, _, _, rfl, rfl, .inr ⟨hl3, s3.keep _ _ w1 (by simp)⟩, ?_, eq_sts hS.nd hw hs3 (st_st s3 w2)⟩) (by decide) ⟨_, rfl, ?_⟩
  · have h1 := hs3.length
    have h2 := g1.length_eq
    rw [List.length_map] at h2
    have := hS.six
    omega
  rw [if_neg (by decide)]
  have hM3 := hM.st0 s3
  obtain ⟨dx3, hma3⟩ := id hM3.ob
  refine ⟨dx3, _, hma3, by walk_at "rd", m, d, k, s, rfl, hM3, fun p4 H4 ls4 hp4 s4 hl4 hs4 => ?_⟩
  refine ⟨p4, ls4, kOf H4, rfl, .inl (.inl hl4), fun x hx => kOf_at (pr_in hs4 x hx).choose_spec, fun ys p5 hsr hstb hp5 => ?_⟩
  have t5 := Stp.new (o := .lst ys) hp5
  have hsq : Paired (IsPair H4) ys (lkj s 6) := by
    refine sort_pairs (fun p q => p.1 < q.1 ∨ (p.1 = q.1 ∧ p.2 ≤ q.2)) (fun a b h1 h2 => Prod.ext (by omega) (by omega)) hs4 hstb.perm (hsr.imp fun {x y} h => ?_) (lkj_perm hLk) (lkj_sorted hLk)
    have := SrtO.lexB_no.mp h
    omega
  have s14 : Stp [] H1 _ := (s3.trans (s4.trans t5)).sub (by simp)
  refine ne_T (n := 3) (.inr ⟨p5, p12, _, _, rfl, rfl, .inr ⟨upd_same, s14.keep _ _ w3 (by simp)⟩, ?_, eq_pairs (pairs_st t5 hsq) (pairs_st s14 w4)⟩) (by decide) ⟨_, rfl, ?_⟩
  · have h1 := hsq.length
    rw [(lkj_perm hLk).length_eq] at h1
    omega
  rw [if_neg (by decide)]
  exact q _ s14
theorem s7_ok (B : Blt mg) (G : G04 P w K mg base cs) {c Pt : Addr} (TB : TabB base mg c Pt) {f : Addr} {A0 : Around} {outer : List Env} {s0 : Shared} {H : Hp} {E : XK} (hr : Room 9 (A0.deeper (PyProof.Rows.envOfC "law" (defScope s_law) s0.heap.objs.size f (.ref c)))) :
    ∃ t, PS (XL P w K mg base f (.ref c) A0 outer s0 H E) (bS.getD 7 pass0d) t ∧ ∀ (D : Ends) (H1 : Hp) (m d k : Addr) (s : MixS) (bv : Int → Nat) (i : Nat) (p12 : Addr) (ls : List V) (x0 x1 x2 x3 x5 x6 x7 x8 x9 x10 x11 : Option V),
      MixAt K cs H1 m d k s → MS s bv i → i ≤ 160 → LkS s → H1 p12 = some (.lst ls) → Paired (IsPair H1) ls (lkj s 6) → Tabs [(Pt, qL)] H1 →
      (∀ H2, ExtN H1 H2 → Tabs [(Pt, qL)] H2 → D.nx [x0, x1, x2, x3, some (.ref m), x5, x6, x7, x8, x9, x10, x11, some (.ref p12), none] H2) →
      t D [x0, x1, x2, x3, some (.ref m), x5, x6, x7, x8, x9, x10, x11, some (.ref p12), none] H1 := by
  have nd := sc_law.nd
  have r1 := hr.mono (show 1 ≤ 9 by decide)
  have hu64 : (A0.deeper (PyProof.Rows.envOfC "law" (defScope s_law) s0.heap.objs.size f (.ref c))).units + 64 < cLine := by
    have := hr.un
    omega
  refine ⟨_, (ps_if (pt_cmpR (op_neD hu64) (p_meth0 G.missed r1 (pv 4)) (pe_sortK (T := [(Pt, qL)]) (a := "_law_one") (by rfl) B.sorted (pa_cons (pv 12) pa_nil) TB rfl List.mem_cons_self (fun p hp _ => by rw [List.mem_singleton.mp hp]; rfl) hr rfl (fun _ _ _ _ _ _ => rfl) rfl rfl rfl rfl (by decide +kernel) (by decide +kernel) (by decide)) (nomark _)) pss_never pss_nil), ?_⟩
  intro D H1 m d k s bv i p12 ls x0 x1 x2 x3 x5 x6 x7 x8 x9 x10 x11 hM hS hi hLk w3 w4 hT q
  obtain ⟨dx, hma⟩ := id hM.ob
  have hlk := hS.lk
  walk_at "rd"
  refine ⟨dx, _, hma, by walk_at "rd", m, d, k, s, rfl, hM, fun p4 H4 ls4 hp4 s4 hl4 hs4 => ?_⟩
  unfold tSortK
  walk_at "rd"
  have w34 := s4.keep _ _ w3 (by simp)
  have w44 := pairs_st s4 w4
  refine ⟨tabs_nt hT s4 nofun, ls, .inl (.inl w34), ?_, kOf H4, fun y hy => kOf_at (pr_in w44 y hy).choose_spec, fun zs p5 H5 e5 T5 hz hperm hpw => ?_⟩
  · have h1 := w44.length
    rw [(lkj_perm hLk).length_eq] at h1
    omega
  have hsq : Paired (IsPair H4) zs s.lacked := sort_pairs (fun p q => p.2 < q.2 ∨ (p.2 = q.2 ∧ p.1 ≤ q.1)) (fun a b h1 h2 => Prod.ext (by omega) (by omega)) w44 hperm hpw (lkj_perm hLk).symm hLk.pw
  refine ne_T (n := 3) (.inr ⟨p4, p5, _, _, rfl, rfl, .inr ⟨e5 _ _ hl4 (fun _ => nofun), hz⟩, ?_, eq_pairs (pairs_ext e5 hs4) (pairs_ext e5 hsq)⟩) (by decide) ⟨_, rfl, ?_⟩
  · have h1 := hs4.length
    omega
  rw [if_neg (by decide)]
  exact q H5 ((ExtN.of fun b o h => s4.keep b o h (by simp)).trans e5) T5
end
end Mx

namespace Mx
open PySem L2 LamX
set_option hygiene false in
local macro_rules | `(tactic| walk_at "rd") => `(tactic| try simp only [L2.start, List.map_cons, List.map_nil, List.length_cons, List.length_nil, Nat.reduceAdd, Nat.reduceSub, Nat.reduceLT, Nat.reduceLeDiff, List.replicate_succ, List.replicate_zero, List.append_nil, List.nil_append, List.cons_append, List.set_cons_zero, List.set_cons_succ, List.getElem?_cons_zero, List.getElem?_cons_succ,
  Option.some.injEq, List.cons.injEq, and_true, true_and, and_assoc, reduceCtorEq, L2.V.int.injEq, L2.V.ref.injEq, L2.V.bl.injEq, L2.V.str.injEq, L2.V.ty.injEq, L2.HO.ins.injEq, L2.HO.lst.injEq, L2.HO.tup.injEq, L2.HO.dK.injEq, exists_eq_left', exists_eq_left, exists_eq_right, exists_eq', exists_eq, exists_and_left, exists_and_right, reduceIte, Bool.false_eq_true, Bool.not_true, Bool.not_false,
  L2.tSeq, L2.tIfS, L2.tRet, L2.tRetN, L2.tNext, L2.tAsg, L2.gName, L2.tVar, L2.tC, L2.tCons, L2.tNil, L2.tCB, L2.tOp, L2.tUn, L2.tTup, L2.tLst, L2.tB, L2.tOr, L2.tAnd, L2.tNot, L2.tAndV, L2.tOrV, L2.tNotV, L2.tIf, L2.tTest, L2.tChain, L2.rI, L2.rI0, L2.rU, L2.tDrop, L2.tNever, L2.tCall, L2.tMeth, L2.tMake, L2.rGcd, L2.tFld, L2.sFld, L2.sFldAug, Mx.sFldA, Mx.sFldAugA, L2.rAdd, L2.rSub, L2.rEq, L2.rNe, L2.tDGet, L2.tDIn, L2.tDNotIn, L2.sDPut,
  Mx.isi_int_bool, Mx.isi_int_int, Mx.isi_int_tuple, Mx.isi_int_list, Mx.isi_int_str, Mx.scal_int, Mx.scal_str, Mx.scal_bl, Mx.ofString_inj, Mx.ofString_beq, Mx.lk_cons, Mx.pf_nil, Mx.pf_cons, Mx.sz1, Mx.sz2, List.lookup_nil, String.reduceEq, decide_true, decide_false, decide_eq_true_eq, Int.natAbs_natCast, L2.upd_same, L2.upd_upd, L2.cxOf, L2.gSub, L2.tPar, L2.gCons, L2.gNil, Mx.optV, L2.tSl, L2.tPart, L2.tNoPart, L2.tBM, Mx.fsM])
set_option hygiene false in
local macro_rules | `(tactic| walk_at "rds") => `(tactic| try simp only [L2.start, List.map_cons, List.map_nil, List.length_cons, List.length_nil, Nat.reduceAdd, Nat.reduceSub, Nat.reduceLT, Nat.reduceLeDiff, List.replicate_succ, List.replicate_zero, List.append_nil, List.nil_append, List.cons_append, List.set_cons_zero, List.set_cons_succ, List.getElem?_cons_zero, List.getElem?_cons_succ,
  Option.some.injEq, List.cons.injEq, and_true, true_and, and_assoc, reduceCtorEq, L2.V.int.injEq, L2.V.ref.injEq, L2.V.bl.injEq, L2.V.str.injEq, L2.V.ty.injEq, L2.HO.ins.injEq, L2.HO.lst.injEq, L2.HO.tup.injEq, L2.HO.dK.injEq, exists_eq_left', exists_eq_left, exists_eq_right, exists_eq', exists_eq, exists_and_left, exists_and_right, reduceIte, Bool.false_eq_true, Bool.not_true, Bool.not_false,
  L2.tSeq, L2.tIfS, L2.tRet, L2.tRetN, L2.tNext, L2.tAsg, L2.gName, L2.tVar, L2.tC, L2.tCons, L2.tNil, L2.tCB, L2.tOp, L2.tUn, L2.tTup, L2.tLst, L2.tB, L2.tOr, L2.tAnd, L2.tNot, L2.tAndV, L2.tOrV, L2.tNotV, L2.tIf, L2.tTest, L2.tChain, L2.rI, L2.rI0, L2.rU, L2.tDrop, L2.tNever, L2.tCall, L2.tMeth, L2.tMake, L2.rGcd, L2.tFld, L2.sFld, L2.sFldAug, Mx.sFldA, Mx.sFldAugA, L2.rAdd, L2.rSub, L2.rEq, L2.rNe, L2.tDGet, L2.tDIn, L2.tDNotIn, L2.sDPut,
  Mx.isi_int_bool, Mx.isi_int_int, Mx.isi_int_tuple, Mx.isi_int_list, Mx.isi_int_str, Mx.scal_int, Mx.scal_str, Mx.scal_bl, Mx.ofString_inj, Mx.ofString_beq, Mx.lk_cons, Mx.pf_nil, Mx.pf_cons, Mx.sz1, Mx.sz2, List.lookup_nil, String.reduceEq, decide_true, decide_false, decide_eq_true_eq, Int.natAbs_natCast, L2.upd_same, L2.upd_upd, L2.cxOf, L2.gSub, L2.tPar, L2.gCons, L2.gNil, Mx.optV, L2.tSl, L2.tPart, L2.tNoPart, L2.tBM, Mx.fsM, *])

section
variable {P : Program} {w : World} {K : PySem.W.Frag} {mg : Str → Option Value} {base : Heap} {cs : Cs}
theorem b_ok (B : Blt mg) (G : G04 P w K mg base cs) {c Pt : Addr} (TB : TabB base mg c Pt) {f : Addr} {A0 : Around} {outer : List Env} {s0 : Shared} {H : Hp} {E : XK} (hr : Room 9 (A0.deeper (PyProof.Rows.envOfC "law" (defScope s_law) s0.heap.objs.size f (.ref c)))) :
    ∃ t, PSs (XL P w K mg base f (.ref c) A0 outer s0 H E) bS t ∧ ∀ (D : Ends) (H1 : Hp) (L : Lay) (ns : List Int) (so : Nat → MixS) (s : MixS) (W : WD) (bv : Int → Nat) (i : Nat) (x0 x2 x6 x7 x8 x9 x10 x11 x12 : Option V),
      Al K cs H1 L ns so s s W bv → Rl so s bv i → Tabs [(Pt, qL)] H1 → i ≤ 140 →
      (∀ H2 so' s' W' bv' y7 y8 y9 y10 y11 y12, Al K cs H2 L ns so' s' s' W' bv' → Rl so' s' bv' (i + 1) → Tabs [(Pt, qL)] H2 → D.nx [x0, some (.ref L.r), x2, some (.ref L.M), some (.ref L.m), some (.ref L.ol), x6, y7, y8, y9, y10, y11, y12, none] H2) →
      t D [x0, some (.ref L.r), x2, some (.ref L.M), some (.ref L.m), some (.ref L.ol), x6, x7, x8, x9, x10, x11, x12, none] H1 := by
  have nd := sc_law.nd
  have r4 := hr.mono (show 4 ≤ 9 by decide)
  have r7 := hr.mono (show 7 ≤ 9 by decide)
  obtain ⟨t3, h3, q3⟩ := bt_ok (Pt := Pt) B G (outer := outer) (H := H) (E := E) hr
  obtain ⟨t5, h5, q5⟩ := s5_ok B G (outer := outer) (H := H) (E := E) hr
  obtain ⟨t6, h6, q6⟩ := s6_ok B G (outer := outer) (H := H) (E := E) hr
  obtain ⟨t7, h7, q7⟩ := s7_ok B G TB (outer := outer) (H := H) (E := E) hr
  refine ⟨_, (pss_cons (ps_set (i := 7) nd rfl (.inl rfl) (p_call G.deed r4 (pa_cons (pv 1) (pa_cons (pv 3) pa_nil))))
    (pss_cons (ps_expr (p_call G.doo r7 (pa_cons (pv 3) (pa_cons (pv 7) pa_nil))))
    (pss_cons (ps_set (i := 8) nd rfl (.inl rfl) (p_call G.use hr (pa_cons (pv 4) (pa_cons (pv 7) pa_nil))))
    (pss_cons h3
    (pss_cons (ps_par (i := 11) (j := 12) (by rfl) nd rfl rfl (by decide) rfl rfl (pa_cons (pe_lst pa_nil) (pa_cons (pe_lst pa_nil) pa_nil)) (by rfl))
    (pss_cons h5 (pss_cons h6 (pss_one h7)))))))), ?_⟩
  intro D H1 L ns so s W bv i x0 x2 x6 x7 x8 x9 x10 x11 x12 hAl hR hT hi q
  have hS := hR.ms
  walk_at "rd"
  have hrf : L.r ∉ ofoot L.M L.dv L.lk s W := fun z => hAl.ap 8 7 (by decide) (by decide) (by decide) L.r (by rw [ft_8]; simp) z
  refine ⟨L.r, L.sc, L.M, L.dv, L.lk, ns, s, W, bv, rfl, hAl.row, hAl.om, hrf, hS.six, fun e he => ⟨(hS.li e he).1, by have := (hS.li e he).2; omega⟩, fun a H2 dd hL hR2 s2 ha => ?_⟩
  have Al2 := hAl.row' hR2 s2
  have T2 := tabs_nt hT s2 (row_nt hAl.row)
  walk_at "rd"
  refine ⟨L.M, L.dv, L.lk, a, s, W, bv, dd, rfl, ha, Al2.om, own_all Al2.om hS (by omega) hL fun due H3 W' bv' hD hAll s3 => ?_⟩
  have mx3 := Al2.mx_off (i := 7) (by decide) (by decide) (fun b hb => hb) s3
  have T3 := tabs_nt T2 s3 Al2.om.nt
  walk_at "rd"
  refine ⟨L.m, L.d, L.k, a, s, bv, dd, rfl, ha.st s3, mx3, use_all mx3 hS (by omega) hL fun fv H4 s' hA hDw hM4 s4 hg => ?_⟩
  obtain ⟨hO3, hS3, hof⟩ := hAll s' hA
  have Al4 := (Al2.own' hO3 s3 hof).whole' hM4 s4 hg
  have T4 := tabs_nt T3 s4 mx3.nt
  have hLk := hR.lk.after hS.nm hA
  refine q3 _ H4 L ns so s s' s' W' bv bv' i a dd fv _ _ _ _ _ _ _ Al4 hR (by omega) ((ha.st s3).st s4) hL hA hDw fun H5 so' y9 y10 Al5 hon T5 => ?_
  have T5 := T5 T4
  walk_at "rd"
  refine ⟨Nat.zero_le _, fun p11 hp11 => ⟨Nat.zero_le _, fun p12 hp12 => ?_⟩⟩
  have t6 := Stp.new (o := .lst []) hp11
  have e6 : upd H5 p11 (.lst []) p11 = some (.lst []) := upd_same
  generalize upd H5 p11 (.lst []) = H6 at *
  have t7 := Stp.new (o := .lst []) hp12
  have e7 : upd H6 p12 (.lst []) p12 = some (.lst []) := upd_same
  have e67 := t7.keep _ _ e6 (by simp)
  generalize upd H6 p12 (.lst []) = H7 at *
  have s57 : Stp [] H5 H7 := (t6.trans t7).sub (by simp)
  have Al7 := Al5.st0 s57
  have hlk3 := hS3.lk
  refine q5 _ H7 L ns so' s' s' W' bv' (i + 1) p11 p12 _ _ _ _ _ _ _ _ _ _ Al7 hon (by omega) hS3.nd (by omega) e67 e7 fun H8 y10 q11 q12 ws ls s8 w1 w2 w3 w4 => ?_
  have Al8 := Al7.st0 s8
  refine q6 _ H8 L.m L.d L.k s' bv' (i + 1) q11 q12 ws ls _ _ _ _ _ _ _ _ _ _ Al8.mx hS3 (by omega) hLk w1 w2 w3 w4 fun H9 s9 => ?_
  have Al9 := Al8.st0 s9
  have T9 := tabs_nt T5 ((s57.trans (s8.trans s9)).sub (G := []) (by simp)) nofun
  refine q7 _ H9 L.m L.d L.k s' bv' (i + 1) q12 ls _ _ _ _ _ _ _ _ _ _ _ Al9.mx hS3 (by omega) hLk (s9.keep _ _ w3 (by simp)) (pairs_st s9 w4) T9 fun H10 e10 T10 => ?_
  exact q H10 so' s' W' bv' _ _ _ _ _ _ (Al9.ext e10) ⟨hS3, fun n hn => (hon n hn).2, fun n hn => (hon n hn).1, hLk⟩ T10
end
end Mx

namespace Mx
open PySem L2 LamX
theorem foot0 {m d k : Addr} {soft : Int} {b : Addr} (h : b ∈ MixS.foot m d k ⟨soft, 0, [], []⟩) : b = m ∨ b = d ∨ b = k := by
  unfold MixS.foot at h
  simpa using h
/-- so many fresh mixers -/
structure Fr6 (K : PySem.W.Frag) (cs : Cs) (H0 H : Hp) (D : Addr) (soft : Int) (n : Nat) (mo dO kO : Nat → Addr) : Prop where
  st : Stp [] H0 H
  ls : H D = some (.lst ((List.range n).map fun i => V.ref (mo i)))
  mx : ∀ i, i < n → MixAt K cs H (mo i) (dO i) (kO i) ⟨soft, 0, [], []⟩
  fr : ∀ i, i < n → ∀ b ∈ MixS.foot (mo i) (dO i) (kO i) ⟨soft, 0, [], []⟩, H0 b = none ∧ b ≠ D
  ap : ∀ i j, i < n → j < n → i ≠ j → ∀ b ∈ MixS.foot (mo i) (dO i) (kO i) ⟨soft, 0, [], []⟩, b ∉ MixS.foot (mo j) (dO j) (kO j) ⟨soft, 0, [], []⟩
def putA (f : Nat → Addr) (n : Nat) (a : Addr) : Nat → Addr := fun i => if i = n then a else f i
theorem putA_s {f : Nat → Addr} {n : Nat} {a : Addr} : putA f n a n = a := if_pos rfl
theorem putA_o {f : Nat → Addr} {n i : Nat} {a : Addr} (h : i < n) : putA f n a i = f i := if_neg (by omega)
theorem Fr6.more {K : PySem.W.Frag} {cs : Cs} {H0 H H4 : Hp} {D : Addr} {soft : Int} {n : Nat} {mo dO kO : Nat → Addr} (h : Fr6 K cs H0 H D soft n mo dO kO) {m d k : Addr} (hm : H m = none) (hd : H d = none) (hk : H k = none) (hM : MixAt K cs H4 m d k ⟨soft, 0, [], []⟩) (s : Stp [] H H4) (hD0 : H0 D = none) :
    Fr6 K cs H0 (upd H4 D (.lst (((List.range n).map fun i => V.ref (mo i)) ++ [.ref m]))) D soft (n + 1) (putA mo n m) (putA dO n d) (putA kO n k) := by
  have hD4 := s.keep _ _ h.ls (by simp)
  have sP := Stp.put (o := .lst (((List.range n).map fun i => V.ref (mo i)) ++ [.ref m])) hD4 (fun xs z => nomatch z)
  have nw : ∀ b ∈ MixS.foot m d k ⟨soft, 0, [], []⟩, H b = none := fun b hb => by
    rcases foot0 hb with e | e | e <;> rw [e] <;> assumption
  have nwD : ∀ b ∈ MixS.foot m d k ⟨soft, 0, [], []⟩, b ≠ D := fun b hb z => by
    have := nw b hb
    rw [z, h.ls] at this
    cases this
  have old : ∀ i, i < n → ∀ b ∈ MixS.foot (mo i) (dO i) (kO i) ⟨soft, 0, [], []⟩, b ∉ MixS.foot m d k ⟨soft, 0, [], []⟩ := fun i hi b hb z => (h.mx i hi).some b hb (nw b z)
  refine ⟨((h.st.trans s).trans sP).subN fun b hb => .inr ((show b = D by simpa using hb) ▸ hD0), ?_, fun i hi => ?_, fun i hi b hb => ?_, fun i j hi hj hij b hb => ?_⟩
  · rw [upd_same, List.range_succ, List.map_append]
    congr 3
    · exact List.map_congr_left fun i hi => by rw [putA_o (List.mem_range.mp hi)]
    · show [V.ref m] = [V.ref (putA mo n m n)]
      rw [putA_s]
  · rcases Nat.lt_or_ge i n with q | q
    · rw [putA_o q, putA_o q, putA_o q]
      exact ((h.mx i q).st0 s).st sP fun b hb z => (h.fr i q b hb).2 (List.mem_singleton.mp z)
    · obtain rfl : i = n := by omega
      rw [putA_s, putA_s, putA_s]
      exact hM.st sP fun b hb z => nwD b hb (List.mem_singleton.mp z)
  · rcases Nat.lt_or_ge i n with q | q
    · rw [putA_o q, putA_o q, putA_o q] at hb
      exact h.fr i q b hb
    · obtain rfl : i = n := by omega
      rw [putA_s, putA_s, putA_s] at hb
      exact ⟨h.st.free (nw b hb) (by simp), nwD b hb⟩
  · rcases Nat.lt_or_ge i n with q | q
    · rw [putA_o q, putA_o q, putA_o q] at hb
      rcases Nat.lt_or_ge j n with q2 | q2
      · rw [putA_o q2, putA_o q2, putA_o q2]
        exact h.ap i j q q2 hij b hb
      · obtain rfl : j = n := by omega
        rw [putA_s, putA_s, putA_s]
        exact old i q b hb
    · obtain rfl : i = n := by omega
      rw [putA_s, putA_s, putA_s] at hb
      have q2 : j < i := by omega
      rw [putA_o q2, putA_o q2, putA_o q2]
      exact fun z => old j q2 b z hb
def sp_law (K : PySem.W.Frag) (Pt : Addr) : Sp := fun vs H Q _ => ∃ (a : Addr) (ns : List Int), vs = [.ref a] ∧ SqL K H a (ns.map V.int) ∧ ns.length ≤ 63 ∧ Tabs [(Pt, qL)] H ∧ ∀ H', Q (.bl true) H'
set_option hygiene false in
local macro_rules | `(tactic| walk_at "rd") => `(tactic| try simp only [L2.start, List.map_cons, List.map_nil, List.length_cons, List.length_nil, Nat.reduceAdd, Nat.reduceSub, Nat.reduceLT, Nat.reduceLeDiff, List.replicate_succ, List.replicate_zero, List.append_nil, List.nil_append, List.cons_append, List.set_cons_zero, List.set_cons_succ, List.getElem?_cons_zero, List.getElem?_cons_succ,
  Option.some.injEq, List.cons.injEq, and_true, true_and, and_assoc, reduceCtorEq, L2.V.int.injEq, L2.V.ref.injEq, L2.V.bl.injEq, L2.V.str.injEq, L2.V.ty.injEq, L2.HO.ins.injEq, L2.HO.lst.injEq, L2.HO.tup.injEq, L2.HO.dK.injEq, exists_eq_left', exists_eq_left, exists_eq_right, exists_eq', exists_eq, exists_and_left, exists_and_right, reduceIte, Bool.false_eq_true, Bool.not_true, Bool.not_false,
  L2.tSeq, L2.tIfS, L2.tRet, L2.tRetN, L2.tNext, L2.tAsg, L2.gName, L2.tVar, L2.tC, L2.tCons, L2.tNil, L2.tCB, L2.tOp, L2.tUn, L2.tTup, L2.tLst, L2.tB, L2.tOr, L2.tAnd, L2.tNot, L2.tAndV, L2.tOrV, L2.tNotV, L2.tIf, L2.tTest, L2.tChain, L2.rI, L2.rI0, L2.rU, L2.tDrop, L2.tNever, L2.tCall, L2.tMeth, L2.tMake, L2.rGcd, L2.tFld, L2.sFld, L2.sFldAug, Mx.sFldA, Mx.sFldAugA, L2.rAdd, L2.rSub, L2.rEq, L2.rNe, L2.tDGet, L2.tDIn, L2.tDNotIn, L2.sDPut,
  Mx.isi_int_bool, Mx.isi_int_int, Mx.isi_int_tuple, Mx.isi_int_list, Mx.isi_int_str, Mx.scal_int, Mx.scal_str, Mx.scal_bl, Mx.ofString_inj, Mx.ofString_beq, Mx.lk_cons, Mx.pf_nil, Mx.pf_cons, Mx.sz1, Mx.sz2, List.lookup_nil, String.reduceEq, decide_true, decide_false, decide_eq_true_eq, Int.natAbs_natCast, L2.upd_same, L2.upd_upd, L2.cxOf, L2.gSub, L2.tPar, L2.gCons, L2.gNil, Mx.optV, L2.tSl, L2.tPart, L2.tNoPart, L2.tBM, Mx.fsM])
set_option hygiene false in
local macro_rules | `(tactic| walk_at "rds") => `(tactic| try simp only [L2.start, List.map_cons, List.map_nil, List.length_cons, List.length_nil, Nat.reduceAdd, Nat.reduceSub, Nat.reduceLT, Nat.reduceLeDiff, List.replicate_succ, List.replicate_zero, List.append_nil, List.nil_append, List.cons_append, List.set_cons_zero, List.set_cons_succ, List.getElem?_cons_zero, List.getElem?_cons_succ,
  Option.some.injEq, List.cons.injEq, and_true, true_and, and_assoc, reduceCtorEq, L2.V.int.injEq, L2.V.ref.injEq, L2.V.bl.injEq, L2.V.str.injEq, L2.V.ty.injEq, L2.HO.ins.injEq, L2.HO.lst.injEq, L2.HO.tup.injEq, L2.HO.dK.injEq, exists_eq_left', exists_eq_left, exists_eq_right, exists_eq', exists_eq, exists_and_left, exists_and_right, reduceIte, Bool.false_eq_true, Bool.not_true, Bool.not_false,
  L2.tSeq, L2.tIfS, L2.tRet, L2.tRetN, L2.tNext, L2.tAsg, L2.gName, L2.tVar, L2.tC, L2.tCons, L2.tNil, L2.tCB, L2.tOp, L2.tUn, L2.tTup, L2.tLst, L2.tB, L2.tOr, L2.tAnd, L2.tNot, L2.tAndV, L2.tOrV, L2.tNotV, L2.tIf, L2.tTest, L2.tChain, L2.rI, L2.rI0, L2.rU, L2.tDrop, L2.tNever, L2.tCall, L2.tMeth, L2.tMake, L2.rGcd, L2.tFld, L2.sFld, L2.sFldAug, Mx.sFldA, Mx.sFldAugA, L2.rAdd, L2.rSub, L2.rEq, L2.rNe, L2.tDGet, L2.tDIn, L2.tDNotIn, L2.sDPut,
  Mx.isi_int_bool, Mx.isi_int_int, Mx.isi_int_tuple, Mx.isi_int_list, Mx.isi_int_str, Mx.scal_int, Mx.scal_str, Mx.scal_bl, Mx.ofString_inj, Mx.ofString_beq, Mx.lk_cons, Mx.pf_nil, Mx.pf_cons, Mx.sz1, Mx.sz2, List.lookup_nil, String.reduceEq, decide_true, decide_false, decide_eq_true_eq, Int.natAbs_natCast, L2.upd_same, L2.upd_upd, L2.cxOf, L2.gSub, L2.tPar, L2.gCons, L2.gNil, Mx.optV, L2.tSl, L2.tPart, L2.tNoPart, L2.tBM, Mx.fsM, *])

section
variable {P : Program} {w : World} {K : PySem.W.Frag} {mg : Str → Option Value} {base : Heap} {cs : Cs}
theorem law_body {c Pt : Addr} {f : Addr} (B : Blt mg) (G : G04 P w K mg base cs) (TB : TabB base mg c Pt)
    (A : Around) (outer : List Env) (s : Shared) (H : Hp) (vs : List V) (Q : VK) (E : XK) (hr : Room 9 (A.deeper (PyProof.Rows.envOfC "law" (defScope s_law) s.heap.objs.size f (.ref c)))) (h : sp_law K Pt vs H Q E) :
    ∃ t, PSs (XL P w K mg base f (.ref c) A outer s H E) (defBody s_law) t ∧ t { nx := fun _ H' => Q .non H', rt := Q } (L2.start N04 vs) H := by
  obtain ⟨sc, ns, rfl, hsq, hns, hT, kk⟩ := h
  have nd := sc_law.nd
  have r1 := hr.mono (show 1 ≤ 9 by decide)
  have r4 := hr.mono (show 4 ≤ 9 by decide)
  obtain ⟨tb, hB, qB⟩ := b_ok B G TB (outer := outer) (H := H) (E := E) hr
  refine ⟨_, (pss_cons (ps_set (i := 1) nd rfl (.inl rfl) (pe_lst (pa_cons (pv 0) (pa_cons pe_int (pa_cons pe_int pa_nil)))))
    (pss_cons (ps_set (i := 2) nd rfl (.inr rfl) (pe_op op_add pe_int (p_call G.taken r1 (pa_cons (pv 1) (pa_cons (pe_ix ix_list (pe_lst (pa_cons pe_int (pa_cons pe_int pa_nil))) (p_call G.taken r1 (pa_cons (pv 1) (pa_cons pe_int pa_nil))) (fun _ _ => rfl)) pa_nil)))))
    (pss_cons (ps_set (i := 3) nd rfl (.inl rfl) (p_call G.own r1 (pa_cons (pv 2) pa_nil)))
    (pss_cons (ps_par (i := 4) (j := 5) (by rfl) nd rfl rfl (by decide) rfl rfl (pa_cons (p_make G.mixer r4 (pa_cons (pv 2) pa_nil)) (pa_cons (pe_lc (own := [("_law_name", 13)]) (te := tMake cs.M (sp_Mixer_init K cs) [] E0 (tCons (tVar 2) tNil)) rfl nd (pi_range1 (by rfl) B.range (pa_cons pe_int pa_nil)) (blkOk_by (N := N04) (sc := defScope s_law) (by decide +kernel)) (fun _ _ _ _ _ => pg_name (i := 13) nd rfl (.inl rfl)) (fun _ _ _ _ _ => pts_nil) (fun _ _ _ _ _ => p_make G.mixer r4 (pa_cons (pv 2) pa_nil))) pa_nil)) (by rfl))
    (pss_cons (ps_for PassesOwn.never rfl (pi_range1 (by rfl) B.range (pa_cons (p_call G.taken r1 (pa_cons (pv 1) (pa_cons pe_int pa_nil))) pa_nil)) (pg_name (i := 6) nd rfl (.inl rfl)) hB)
    (pss_one (ps_ret pe_bl))))))), ?_⟩
  walk_at "rd"
  refine ⟨by decide, fun r hr0 => ?_⟩
  have hsr : sc ≠ r ∨ ∀ H', SqL K H' sc (ns.map V.int) := by
    rcases hsq with (q | ⟨o, q⟩) | q
    · exact .inl (ne_of_none q hr0)
    · exact .inl (ne_of_none q hr0)
    · exact .inr fun H' => .inr q
  have t1 := Stp.new (o := .lst [.ref sc, .int 0, .int 0]) hr0
  have hb : RowAt K (upd H r (.lst [.ref sc, .int 0, .int 0])) r sc ns := ⟨0, 0, by decide, by decide, by decide, upd_same, seq_st hsq t1 (by simp), hsr⟩
  have T1 := tabs_nt hT t1 nofun
  generalize upd H r (.lst [.ref sc, .int 0, .int 0]) = Hb at *
  intro p1 hp1
  have t2 := Stp.new (o := .lst [.int 3, .int 16]) hp1
  have e2 : upd Hb p1 (.lst [.int 3, .int 16]) p1 = some (.lst [.int 3, .int 16]) := upd_same
  have n2 := row_ne hb hp1
  have hR1 := hb.st0 t2
  have T2 := tabs_nt T1 t2 nofun
  generalize upd Hb p1 (.lst [.int 3, .int 16]) = H1 at *
  refine ⟨r, sc, ns, 2, rfl, hR1, by decide, fun ix H2 i0 i1 hR2 s2 => ?_⟩
  have T3 := tabs_nt T2 s2 (row_nt hR1)
  obtain ⟨mx, m1, m2, hat⟩ : ∃ c : Int, 1 ≤ c ∧ c ≤ 16 ∧ atI [V.int 3, V.int 16] ix = some (.int c) := by
    rcases (show ix = 0 ∨ ix = 1 by omega) with rfl | rfl
    · exact ⟨3, by decide, by decide, rfl⟩
    · exact ⟨16, by decide, by decide, rfl⟩
  refine ixL (.inl (.inl (s2.keep _ _ e2 (by simpa using n2)))) hat ?_
  refine ⟨r, sc, ns, mx, rfl, hR2, m1, fun sf H3 sf0 sf1 hR3 s3 => ⟨_, rfl, ?_⟩⟩
  have T4 := tabs_nt T3 s3 (row_nt hR2)
  obtain ⟨soft, hsoft⟩ : ∃ soft, soft = 1 + sf := ⟨_, rfl⟩
  have so1 : 1 ≤ soft := by omega
  have so2 : soft ≤ 16 := by omega
  rw [← hsoft]
  clear hR1 T2 T3 T1 hT hb t2 e2 s2 s3 hR2
  refine ⟨soft, rfl, fun M dv lk H4 hM0 hdv0 hlk0 hO4 s4 => ?_⟩
  have hOM := hO4 (fun _ => (0, 0)) (fun _ => 7)
  have own3 : ∀ b ∈ ofoot M dv lk ⟨soft, 0, [], []⟩ (fun _ => (0, 0)), H3 b = none := fun b hb => by
    rcases ofoot_or hb with h | h | h | ⟨e, he, _⟩
    · rw [h]; exact hM0
    · rw [h]; exact hdv0
    · rw [h]; exact hlk0
    · cases he
  intro m dx hm0 hdx0 hne0
  have s5 := stp_made (C := cs.M) hm0 hdx0
  have e5 : upd (upd H4 dx (.own m)) m (.ins cs.M dx []) m = some (.ins cs.M dx []) := upd_same
  generalize upd (upd H4 dx (.own m)) m (.ins cs.M dx []) = H5 at *
  refine ⟨m, dx, soft, rfl, e5, so1, so2, fun d k H6 hd0 hk0 hM6 s6 => ⟨rfl, ?_⟩⟩
  have hd4 : H4 d = none := s5.free hd0 (by simp)
  have hk4 : H4 k = none := s5.free hk0 (by simp)
  have s46 : Stp [] H4 H6 := (s5.trans s6).subN fun b hb => .inr ((show b = m by simpa using hb) ▸ hm0)
  have whole4 : ∀ b ∈ MixS.foot m d k ⟨soft, 0, [], []⟩, H4 b = none := fun b hb => by
    rcases foot0 hb with e | e | e <;> rw [e] <;> assumption
  refine ⟨6, rfl, by decide, by decide, fun D hD => lc_range (lo := 0) (n := 6) (fun n H' => ∃ mo dO kO, Fr6 K cs H6 H' D soft n mo dO kO) ⟨fun _ => 0, fun _ => 0, fun _ => 0, Stp.new hD, upd_same, fun i h => absurd h (by omega), fun i h => absurd h (by omega), fun i j h => absurd h (by omega)⟩ (fun n H7 hn h => ?_) (fun H7 h => ?_)⟩
  · obtain ⟨mo, dO, kO, h7⟩ := h
    refine ⟨wipe1, ?_⟩
    simp only [tYes, reduceIte]
    refine ⟨_, rfl, ?_⟩
    walk_at "rd"
    intro m2 dx2 hm2 hdx2 hne2
    have u5 := stp_made (C := cs.M) hm2 hdx2
    have f5 : upd (upd H7 dx2 (.own m2)) m2 (.ins cs.M dx2 []) m2 = some (.ins cs.M dx2 []) := upd_same
    generalize upd (upd H7 dx2 (.own m2)) m2 (.ins cs.M dx2 []) = H8 at *
    refine ⟨m2, dx2, soft, rfl, f5, so1, so2, fun d2 k2 H9 hd2 hk2 hM9 u6 => ⟨rfl, ?_⟩⟩
    have u7 : Stp [] H7 H9 := (u5.trans u6).subN fun b hb => .inr ((show b = m2 by simpa using hb) ▸ hm2)
    refine ⟨_, u7.keep _ _ h7.ls (by simp), ?_, _, _, _, h7.more hm2 (u5.free hd2 (by simp)) (u5.free hk2 (by simp)) hM9 u7 hD⟩
    rw [List.length_map, List.length_range]
    exact Nat.lt_of_lt_of_le (show n < 100 by omega) (by decide)
  · obtain ⟨mo, dO, kO, h7⟩ := h
    have s37 : Stp [] H3 H7 := (s4.trans (s46.trans h7.st)).sub (by simp)
    have hR4 := hR3.st0 s4
    have hR6 := hR4.st0 s46
    have hOM6 := hOM.st0 s46
    have T7 := tabs_nt T4 s37 nofun
    have hrt : H3 r ≠ none := row_there hR3
    obtain ⟨L, hL⟩ : ∃ L : Lay, L = ⟨mo, dO, kO, m, d, k, M, dv, lk, r, D, sc⟩ := ⟨_, rfl⟩
    obtain ⟨so, hso⟩ : ∃ so : Nat → MixS, so = fun _ => ⟨soft, 0, [], []⟩ := ⟨_, rfl⟩
    have Al7 : Al K cs H7 L ns so ⟨soft, 0, [], []⟩ ⟨soft, 0, [], []⟩ (fun _ => (0, 0)) (fun _ => 7) := by
      subst hL hso
      have f6 : ∀ j, j < 6 → ∀ b ∈ Lay.ft ⟨mo, dO, kO, m, d, k, M, dv, lk, r, D, sc⟩ (fun _ => ⟨soft, 0, [], []⟩) ⟨soft, 0, [], []⟩ ⟨soft, 0, [], []⟩ (fun _ => (0, 0)) j, H6 b = none ∧ b ≠ D := fun j hj b hb => by
        rw [ft_one hj] at hb
        exact h7.fr j hj b hb
      have g6 : ∀ b ∈ MixS.foot m d k ⟨soft, 0, [], []⟩, H6 b ≠ none := hM6.some
      have g7 : ∀ b ∈ ofoot M dv lk ⟨soft, 0, [], []⟩ (fun _ => (0, 0)), H6 b ≠ none ∧ H4 b ≠ none := fun b hb => ⟨hOM6.there b hb, hOM.there b hb⟩
      have g8 : H6 r ≠ none ∧ H4 r ≠ none := ⟨row_there hR6, row_there hR4⟩
      refine ⟨hR3.st0 s37, h7.ls, h7.mx, hM6.st0 h7.st, hOM6.st0 h7.st, fun i j hi hj hij b hx hy => ?_, ?_⟩
      · have key : ∀ i j, i < j → i < 10 → j < 10 → ∀ b, b ∈ Lay.ft ⟨mo, dO, kO, m, d, k, M, dv, lk, r, D, sc⟩ (fun _ => ⟨soft, 0, [], []⟩) ⟨soft, 0, [], []⟩ ⟨soft, 0, [], []⟩ (fun _ => (0, 0)) i → b ∈ Lay.ft ⟨mo, dO, kO, m, d, k, M, dv, lk, r, D, sc⟩ (fun _ => ⟨soft, 0, [], []⟩) ⟨soft, 0, [], []⟩ ⟨soft, 0, [], []⟩ (fun _ => (0, 0)) j → False := by
          intro i j hij hi hj b hx hy
          rcases ten hj with z | rfl | rfl | rfl | rfl
          · have zi : i < 6 := by omega
            rw [ft_one z] at hy
            rw [ft_one zi] at hx
            exact h7.ap i j zi z (by omega) b hx hy
          · exact g6 b hy (f6 i (by omega) b hx).1
          · rcases ten hi with z | rfl | rfl | rfl | rfl
            · exact (g7 b hy).1 (f6 i z b hx).1
            · exact (g7 b hy).2 (whole4 b hx)
            all_goals omega
          · rw [ft_8] at hy
            rw [List.mem_singleton.mp hy] at hx
            rcases ten hi with z | rfl | rfl | rfl | rfl
            · exact g8.1 (f6 i z _ hx).1
            · exact g8.2 (whole4 _ hx)
            · exact hrt (own3 _ hx)
            all_goals omega
          · rw [ft_9] at hy
            rw [List.mem_singleton.mp hy] at hx
            rcases ten hi with z | rfl | rfl | rfl | rfl
            · exact (f6 i z _ hx).2 rfl
            · exact g6 _ hx hD
            · exact (g7 _ hx).1 hD
            · rw [ft_8] at hx
              have e : D = r := List.mem_singleton.mp hx
              exact g8.1 (e ▸ hD)
            · omega
        rcases Nat.lt_or_ge i j with q | q
        · exact key i j q hi hj b hx hy
        · exact key j i (by omega) hj hi b hy hx
      · obtain ⟨_, _, _, _, _, _, hs3, hn3⟩ := hR3
        rcases hn3 with hn3 | hn3
        · have tr : (∀ H' : Hp, SqL K H' sc (ns.map V.int)) ∨ H3 sc ≠ none := by
            rcases hs3 with (q | ⟨o, q⟩) | q
            · exact .inr (by rw [q]; exact nofun)
            · exact .inr (by rw [q]; exact nofun)
            · exact .inl fun H' => .inr q
          rcases tr with tr | tr
          · exact .inl tr
          · have up : ∀ H', Stp [] H3 H' → H' sc ≠ none := fun H' g => by
              cases e : H3 sc with
              | none => exact absurd e tr
              | some o =>
                rw [g.keep _ _ e (by simp)]
                exact nofun
            refine .inr ⟨fun j hj z => ?_, up _ s37⟩
            have u4 := up H4 s4
            have u6 := up H6 ((s4.trans s46).sub (by simp))
            rcases ten hj with q | rfl | rfl | rfl | rfl
            · exact u6 (f6 j q _ z).1
            · exact u4 (whole4 _ z)
            · exact tr (own3 _ z)
            · rw [ft_8] at z
              exact hn3 (List.mem_singleton.mp z)
            · rw [ft_9] at z
              rw [show sc = D from List.mem_singleton.mp z] at u6
              exact u6 hD
        · exact .inl hn3
    have Rl7 : Rl so ⟨soft, 0, [], []⟩ (fun _ => 7) 0 := by
      subst hso
      exact ⟨ms0 so1 so2, fun n _ => ⟨_, ms0 so1 so2⟩, fun n _ => One.nil n soft, ⟨.nil, fun _ h => nomatch h⟩⟩
    have eL : L.mo = mo ∧ L.m = m ∧ L.M = M ∧ L.r = r ∧ L.ol = D ∧ L.sc = sc := by subst hL; exact ⟨rfl, rfl, rfl, rfl, rfl, rfl⟩
    obtain ⟨_, em, eM, er, eD, esc⟩ := eL
    rw [← em, ← eM, ← er, ← eD, ← esc]
    refine ⟨_, rfl, L.r, L.sc, ns, 121, rfl, Al7.row, by decide, fun n H8 n0 n1 hR8 s8 => ⟨n, rfl, by omega, by omega, ?_⟩⟩
    have Al8 := Al7.row' hR8 s8
    have T8 := tabs_nt T7 s8 (row_nt Al7.row)
    refine for_range (lo := 0) (n := n.toNat) (fun j σ H' => ∃ so s W bv y6 y7 y8 y9 y10 y11 y12, σ = [some (.ref L.sc), some (.ref L.r), some (.int soft), some (.ref L.M), some (.ref L.m), some (.ref L.ol), y6, y7, y8, y9, y10, y11, y12, none] ∧ Al K cs H' L ns so s s W bv ∧ Rl so s bv j ∧ Tabs [(Pt, qL)] H')
      ⟨_, _, _, _, _, _, _, _, _, _, _, rfl, Al8, Rl7, T8⟩ (fun j σ H' hj h => ?_) (fun σ H' h => kk H')
    obtain ⟨so', s', W', bv', y6, y7, y8, y9, y10, y11, y12, rfl, hAl, hRl, hTb⟩ := h
    exact qB _ H' L ns so' s' W' bv' j _ _ _ _ _ _ _ _ _ hAl hRl hTb (by omega) fun H2 so2 s2 W2 bv2 z7 z8 z9 z10 z11 z12 a1 a2 a3 => ⟨so2, s2, W2, bv2, _, _, _, _, _, _, _, rfl, a1, a2, a3⟩
end
end Mx

namespace Mx
open PySem L2
set_option hygiene false in
local macro_rules | `(tactic| walk_at "rd") => `(tactic| try simp only [L2.start, List.map_cons, List.map_nil, List.length_cons, List.length_nil, Nat.reduceAdd, Nat.reduceSub, Nat.reduceLT, Nat.reduceLeDiff, List.replicate_succ, List.replicate_zero, List.append_nil, List.nil_append, List.cons_append, List.set_cons_zero, List.set_cons_succ, List.getElem?_cons_zero, List.getElem?_cons_succ,
  Option.some.injEq, List.cons.injEq, and_true, true_and, and_assoc, reduceCtorEq, L2.V.int.injEq, L2.V.ref.injEq, L2.V.bl.injEq, L2.V.str.injEq, L2.V.ty.injEq, L2.HO.ins.injEq, L2.HO.lst.injEq, L2.HO.tup.injEq, L2.HO.dK.injEq, exists_eq_left', exists_eq_left, exists_eq_right, exists_eq', exists_eq, exists_and_left, exists_and_right, reduceIte, Bool.false_eq_true, Bool.not_true, Bool.not_false,
  L2.tSeq, L2.tIfS, L2.tRet, L2.tRetN, L2.tNext, L2.tAsg, L2.gName, L2.tVar, L2.tC, L2.tCons, L2.tNil, L2.tCB, L2.tOp, L2.tUn, L2.tTup, L2.tLst, L2.tB, L2.tOr, L2.tAnd, L2.tNot, L2.tAndV, L2.tOrV, L2.tNotV, L2.tIf, L2.tTest, L2.tChain, L2.rI, L2.rI0, L2.rU, L2.tDrop, L2.tNever, L2.tCall, L2.tMeth, L2.tMake, L2.rGcd, L2.tFld, L2.sFld, L2.sFldAug, Mx.sFldA, Mx.sFldAugA, L2.rAdd, L2.rSub, L2.rEq, L2.rNe, L2.tDGet, L2.tDIn, L2.tDNotIn, L2.sDPut,
  Mx.isi_int_bool, Mx.isi_int_int, Mx.isi_int_tuple, Mx.isi_int_list, Mx.isi_int_str, Mx.scal_int, Mx.scal_str, Mx.scal_bl, Mx.ofString_inj, Mx.ofString_beq, Mx.lk_cons, Mx.pf_nil, Mx.pf_cons, Mx.sz1, Mx.sz2, List.lookup_nil, String.reduceEq, decide_true, decide_false, decide_eq_true_eq, Int.natAbs_natCast, L2.upd_same, L2.upd_upd, L2.cxOf, L2.gSub, L2.tPar, L2.gCons, L2.gNil])
set_option hygiene false in
local macro_rules | `(tactic| walk_at "rds") => `(tactic| try simp only [L2.start, List.map_cons, List.map_nil, List.length_cons, List.length_nil, Nat.reduceAdd, Nat.reduceSub, Nat.reduceLT, Nat.reduceLeDiff, List.replicate_succ, List.replicate_zero, List.append_nil, List.nil_append, List.cons_append, List.set_cons_zero, List.set_cons_succ, List.getElem?_cons_zero, List.getElem?_cons_succ,
  Option.some.injEq, List.cons.injEq, and_true, true_and, and_assoc, reduceCtorEq, L2.V.int.injEq, L2.V.ref.injEq, L2.V.bl.injEq, L2.V.str.injEq, L2.V.ty.injEq, L2.HO.ins.injEq, L2.HO.lst.injEq, L2.HO.tup.injEq, L2.HO.dK.injEq, exists_eq_left', exists_eq_left, exists_eq_right, exists_eq', exists_eq, exists_and_left, exists_and_right, reduceIte, Bool.false_eq_true, Bool.not_true, Bool.not_false,
  L2.tSeq, L2.tIfS, L2.tRet, L2.tRetN, L2.tNext, L2.tAsg, L2.gName, L2.tVar, L2.tC, L2.tCons, L2.tNil, L2.tCB, L2.tOp, L2.tUn, L2.tTup, L2.tLst, L2.tB, L2.tOr, L2.tAnd, L2.tNot, L2.tAndV, L2.tOrV, L2.tNotV, L2.tIf, L2.tTest, L2.tChain, L2.rI, L2.rI0, L2.rU, L2.tDrop, L2.tNever, L2.tCall, L2.tMeth, L2.tMake, L2.rGcd, L2.tFld, L2.sFld, L2.sFldAug, Mx.sFldA, Mx.sFldAugA, L2.rAdd, L2.rSub, L2.rEq, L2.rNe, L2.tDGet, L2.tDIn, L2.tDNotIn, L2.sDPut,
  Mx.isi_int_bool, Mx.isi_int_int, Mx.isi_int_tuple, Mx.isi_int_list, Mx.isi_int_str, Mx.scal_int, Mx.scal_str, Mx.scal_bl, Mx.ofString_inj, Mx.ofString_beq, Mx.lk_cons, Mx.pf_nil, Mx.pf_cons, Mx.sz1, Mx.sz2, List.lookup_nil, String.reduceEq, decide_true, decide_false, decide_eq_true_eq, Int.natAbs_natCast, L2.upd_same, L2.upd_upd, L2.cxOf, L2.gSub, L2.tPar, L2.gCons, L2.gNil, *])

section
variable {P : Program} {w : World} {K : PySem.W.Frag} {mg : Str → Option Value} {base : Heap}
theorem sc_law_plus : FnScope ["_law_one", "_law_other"] ["_law_one", "_law_other"] (defScope s_law_plus) := ⟨rfl, rfl, rfl, by decide +kernel, rfl, by decide +kernel, by decide +kernel⟩
theorem ok_law_plus {f : Addr} {fd : FuncData} (F : Fun K "_law_plus" "_law_plus" s_law_plus f fd) (G : OwnF P w K mg base "_law_share" 1 ["_law_top", "_law_bottom"] sp_ratio) : FnOk P w K mg base CX0 2 f fd ["_law_one", "_law_other"] (sp_two (· + ·) K) := by
  refine F.ok sc_law_plus (fun vs H Q E h => ?_) (fun cdv A outer s H vs Q E hr h => ?_)
  · obtain ⟨a, b, q, r, n, m, rfl, _⟩ := h
    rfl
  · obtain ⟨a, b, q, r, n, m, rfl, ha, hb, hn, hm, hl, hn0, hm0, k⟩ := h
    refine ⟨_, pss_one (ps_ret (p_call G hr (pa_cons (pe_op op_add (pe_op op_mulW (pe_ix ix_tup (pv 0) pe_int (fun _ _ => rfl)) (pe_ix ix_tup (pv 1) pe_int (fun _ _ => rfl))) (pe_op op_mulW (pe_ix ix_tup (pv 1) pe_int (fun _ _ => rfl)) (pe_ix ix_tup (pv 0) pe_int (fun _ _ => rfl))))
      (pa_cons (pe_op op_mulW (pe_ix ix_tup (pv 0) pe_int (fun _ _ => rfl)) (pe_ix ix_tup (pv 1) pe_int (fun _ _ => rfl))) pa_nil)))), ?_⟩
    walk_at "rd"
    have e1 : 2 ^ n * 2 ^ m = 2 ^ (n + m) := (Nat.pow_add 2 n m).symm
    refine ixT_0 ha (ixT_1 hb ⟨_, rfl, _, rfl, wide_mul hn.num (by simpa using hm.den) hn0 hm0 (by omega), ixT_0 hb (ixT_1 ha ⟨_, rfl, _, rfl, wide_mul hm.num (by simpa using hn.den) hm0 hn0 (by omega), ixT_1 ha (ixT_1 hb ⟨_, rfl, _, rfl, wide_mul (by simpa using hn.den) (by simpa using hm.den) hn0 hm0 (by omega), ?_⟩)⟩)⟩)
    have hd : (q.den : Int) * (r.den : Int) = ((q.den * r.den : Nat) : Int) := by simp
    refine ⟨_, _, rfl, ?_, ?_, fun p H' hp hs hl' => k p H' hp hs ?_⟩
    · rw [hd]
      have := Nat.mul_pos q.den_pos r.den_pos
      omega
    · rw [hd, Int.natAbs_natCast]
      exact Nat.lt_of_lt_of_le (Nat.mul_lt_mul'' hn.den hm.den) (by rw [e1]; exact Nat.pow_le_pow_right (by decide) (by omega))
    · rw [hd, Int.toNat_natCast, add_mk] at hl'
      exact hl'
end
end Mx

namespace Mx
open PySem L2 LamX
theorem all_mk {l : PySem.W.OpenLaw} {w : World} {K : PySem.W.Frag} {h : Heap} {mg : Str → Option Value} {fa cs_L cs_D cs_V cs_M f_is_whole f_check_soft f_check_name f_check_pace f_check_wait f_check_loudness f_ratio f_plus f_minus f_times f_Line_init f_Line_room f_Line_begun f_spot f_wanted f_Line_wants f_Line_over f_Line_lacks f_Line_ready f_Line_value f_Line_take f_Line_close f_Loudness_init f_Loudness_lead_on f_Loudness_lead_to f_check_lead f_Voice_fall f_Voice_rise f_Voice_begin_fall f_Voice_sound f_Voice_init f_Voice_give f_Mixer_init f_Mixer_voice_of f_Mixer_add f_Mixer_parcel f_Mixer_end f_Mixer_beat f_Mixer_lead f_Mixer_now f_Mixer_missed f_Mixer_state_of f_Mixer_states f_Mixer_hush f_Mixer_wake f_law_taken f_law_share f_law_plus f_law_times f_law_number f_law_pace f_law_loud f_law_places f_law_is_over f_law_lacks f_law_alike f_law_value f_law_may f_law_led f_law_sound f_law_mixer f_law_beat f_law_do f_law_added f_law_parcel f_law_deed f_law_use f_law aN cL Pt : Addr} (X : K.In h) (G : h.Ns mainGlobals mg) (hfa : mg "law" = some (.ref fa)) (OT : OwnTab K fa h)
    {od_is_whole an_is_whole od_check_soft an_check_soft od_check_name an_check_name od_check_pace an_check_pace od_check_wait an_check_wait od_check_loudness an_check_loudness od_ratio an_ratio od_plus an_plus od_minus an_minus od_times an_times od_Line_init an_Line_init od_Line_room an_Line_room od_Line_begun an_Line_begun od_spot an_spot od_wanted an_wanted od_Line_wants an_Line_wants od_Line_over an_Line_over od_Line_lacks an_Line_lacks od_Line_ready an_Line_ready od_Line_value an_Line_value od_Line_take an_Line_take od_Line_close an_Line_close od_Loudness_init an_Loudness_init od_Loudness_lead_on an_Loudness_lead_on od_Loudness_lead_to an_Loudness_lead_to od_check_lead an_check_lead od_Voice_fall an_Voice_fall od_Voice_rise an_Voice_rise od_Voice_begin_fall an_Voice_begin_fall od_Voice_sound an_Voice_sound od_Voice_init an_Voice_init od_Voice_give an_Voice_give od_Mixer_init an_Mixer_init od_Mixer_voice_of an_Mixer_voice_of od_Mixer_add an_Mixer_add od_Mixer_parcel an_Mixer_parcel od_Mixer_end an_Mixer_end od_Mixer_beat an_Mixer_beat od_Mixer_lead an_Mixer_lead od_Mixer_now an_Mixer_now od_Mixer_missed an_Mixer_missed od_Mixer_state_of an_Mixer_state_of od_Mixer_states an_Mixer_states od_Mixer_hush an_Mixer_hush od_Mixer_wake an_Mixer_wake od_law_taken an_law_taken od_law_share an_law_share od_law_plus an_law_plus od_law_times an_law_times od_law_number an_law_number od_law_pace an_law_pace od_law_loud an_law_loud od_law_places an_law_places od_law_is_over an_law_is_over od_law_lacks an_law_lacks od_law_alike an_law_alike od_law_value an_law_value od_law_may an_law_may od_law_led an_law_led od_law_sound an_law_sound od_law_mixer an_law_mixer od_law_beat an_law_beat od_law_do an_law_do od_law_added an_law_added od_law_parcel an_law_parcel od_law_deed an_law_deed od_law_use an_law_use od_law an_law odN ddL : Option Addr} {sl_is_whole sl_check_soft sl_check_name sl_check_pace sl_check_wait sl_check_loudness sl_ratio sl_plus sl_minus sl_times sl_Line_init sl_Line_room sl_Line_begun sl_spot sl_wanted sl_Line_wants sl_Line_over sl_Line_lacks sl_Line_ready sl_Line_value sl_Line_take sl_Line_close sl_Loudness_init sl_Loudness_lead_on sl_Loudness_lead_to sl_check_lead sl_Voice_fall sl_Voice_rise sl_Voice_begin_fall sl_Voice_sound sl_Voice_init sl_Voice_give sl_Mixer_init sl_Mixer_voice_of sl_Mixer_add sl_Mixer_parcel sl_Mixer_end sl_Mixer_beat sl_Mixer_lead sl_Mixer_now sl_Mixer_missed sl_Mixer_state_of sl_Mixer_states sl_Mixer_hush sl_Mixer_wake sl_law_taken sl_law_share sl_law_plus sl_law_times sl_law_number sl_law_pace sl_law_loud sl_law_places sl_law_is_over sl_law_lacks sl_law_alike sl_law_value sl_law_may sl_law_led sl_law_sound sl_law_mixer sl_law_beat sl_law_do sl_law_added sl_law_parcel sl_law_deed sl_law_use sl_law slN slL : Array (Option Value)} {oc_is_whole kV_is_whole dc_is_whole pm_is_whole ct_is_whole cd_is_whole oc_check_soft kV_check_soft dc_check_soft pm_check_soft ct_check_soft cd_check_soft oc_check_name kV_check_name dc_check_name pm_check_name ct_check_name cd_check_name oc_check_pace kV_check_pace dc_check_pace pm_check_pace ct_check_pace cd_check_pace oc_check_wait kV_check_wait dc_check_wait pm_check_wait ct_check_wait cd_check_wait oc_check_loudness kV_check_loudness dc_check_loudness pm_check_loudness ct_check_loudness cd_check_loudness oc_ratio kV_ratio dc_ratio pm_ratio ct_ratio cd_ratio oc_plus kV_plus dc_plus pm_plus ct_plus cd_plus oc_minus kV_minus dc_minus pm_minus ct_minus cd_minus oc_times kV_times dc_times pm_times ct_times cd_times oc_Line_init kV_Line_init dc_Line_init pm_Line_init ct_Line_init cd_Line_init oc_Line_room kV_Line_room dc_Line_room pm_Line_room ct_Line_room cd_Line_room oc_Line_begun kV_Line_begun dc_Line_begun pm_Line_begun ct_Line_begun cd_Line_begun oc_spot kV_spot dc_spot pm_spot ct_spot cd_spot oc_wanted kV_wanted dc_wanted pm_wanted ct_wanted cd_wanted oc_Line_wants kV_Line_wants dc_Line_wants pm_Line_wants ct_Line_wants cd_Line_wants oc_Line_over kV_Line_over dc_Line_over pm_Line_over ct_Line_over cd_Line_over oc_Line_lacks kV_Line_lacks dc_Line_lacks pm_Line_lacks ct_Line_lacks cd_Line_lacks oc_Line_ready kV_Line_ready dc_Line_ready pm_Line_ready ct_Line_ready cd_Line_ready oc_Line_value kV_Line_value dc_Line_value pm_Line_value ct_Line_value cd_Line_value oc_Line_take kV_Line_take dc_Line_take pm_Line_take ct_Line_take cd_Line_take oc_Line_close kV_Line_close dc_Line_close pm_Line_close ct_Line_close cd_Line_close oc_Loudness_init kV_Loudness_init dc_Loudness_init pm_Loudness_init ct_Loudness_init cd_Loudness_init oc_Loudness_lead_on kV_Loudness_lead_on dc_Loudness_lead_on pm_Loudness_lead_on ct_Loudness_lead_on cd_Loudness_lead_on oc_Loudness_lead_to kV_Loudness_lead_to dc_Loudness_lead_to pm_Loudness_lead_to ct_Loudness_lead_to cd_Loudness_lead_to oc_check_lead kV_check_lead dc_check_lead pm_check_lead ct_check_lead cd_check_lead oc_Voice_fall kV_Voice_fall dc_Voice_fall pm_Voice_fall ct_Voice_fall cd_Voice_fall oc_Voice_rise kV_Voice_rise dc_Voice_rise pm_Voice_rise ct_Voice_rise cd_Voice_rise oc_Voice_begin_fall kV_Voice_begin_fall dc_Voice_begin_fall pm_Voice_begin_fall ct_Voice_begin_fall cd_Voice_begin_fall oc_Voice_sound kV_Voice_sound dc_Voice_sound pm_Voice_sound ct_Voice_sound cd_Voice_sound oc_Voice_init kV_Voice_init dc_Voice_init pm_Voice_init ct_Voice_init cd_Voice_init oc_Voice_give kV_Voice_give dc_Voice_give pm_Voice_give ct_Voice_give cd_Voice_give oc_Mixer_init kV_Mixer_init dc_Mixer_init pm_Mixer_init ct_Mixer_init cd_Mixer_init oc_Mixer_voice_of kV_Mixer_voice_of dc_Mixer_voice_of pm_Mixer_voice_of ct_Mixer_voice_of cd_Mixer_voice_of oc_Mixer_add kV_Mixer_add dc_Mixer_add pm_Mixer_add ct_Mixer_add cd_Mixer_add oc_Mixer_parcel kV_Mixer_parcel dc_Mixer_parcel pm_Mixer_parcel ct_Mixer_parcel cd_Mixer_parcel oc_Mixer_end kV_Mixer_end dc_Mixer_end pm_Mixer_end ct_Mixer_end cd_Mixer_end oc_Mixer_beat kV_Mixer_beat dc_Mixer_beat pm_Mixer_beat ct_Mixer_beat cd_Mixer_beat oc_Mixer_lead kV_Mixer_lead dc_Mixer_lead pm_Mixer_lead ct_Mixer_lead cd_Mixer_lead oc_Mixer_now kV_Mixer_now dc_Mixer_now pm_Mixer_now ct_Mixer_now cd_Mixer_now oc_Mixer_missed kV_Mixer_missed dc_Mixer_missed pm_Mixer_missed ct_Mixer_missed cd_Mixer_missed oc_Mixer_state_of kV_Mixer_state_of dc_Mixer_state_of pm_Mixer_state_of ct_Mixer_state_of cd_Mixer_state_of oc_Mixer_states kV_Mixer_states dc_Mixer_states pm_Mixer_states ct_Mixer_states cd_Mixer_states oc_Mixer_hush kV_Mixer_hush dc_Mixer_hush pm_Mixer_hush ct_Mixer_hush cd_Mixer_hush oc_Mixer_wake kV_Mixer_wake dc_Mixer_wake pm_Mixer_wake ct_Mixer_wake cd_Mixer_wake oc_law_taken kV_law_taken dc_law_taken pm_law_taken ct_law_taken cd_law_taken oc_law_share kV_law_share dc_law_share pm_law_share ct_law_share cd_law_share oc_law_plus kV_law_plus dc_law_plus pm_law_plus ct_law_plus cd_law_plus oc_law_times kV_law_times dc_law_times pm_law_times ct_law_times cd_law_times oc_law_number kV_law_number dc_law_number pm_law_number ct_law_number cd_law_number oc_law_pace kV_law_pace dc_law_pace pm_law_pace ct_law_pace cd_law_pace oc_law_loud kV_law_loud dc_law_loud pm_law_loud ct_law_loud cd_law_loud oc_law_places kV_law_places dc_law_places pm_law_places ct_law_places cd_law_places oc_law_is_over kV_law_is_over dc_law_is_over pm_law_is_over ct_law_is_over cd_law_is_over oc_law_lacks kV_law_lacks dc_law_lacks pm_law_lacks ct_law_lacks cd_law_lacks oc_law_alike kV_law_alike dc_law_alike pm_law_alike ct_law_alike cd_law_alike oc_law_value kV_law_value dc_law_value pm_law_value ct_law_value cd_law_value oc_law_may kV_law_may dc_law_may pm_law_may ct_law_may cd_law_may oc_law_led kV_law_led dc_law_led pm_law_led ct_law_led cd_law_led oc_law_sound kV_law_sound dc_law_sound pm_law_sound ct_law_sound cd_law_sound oc_law_mixer kV_law_mixer dc_law_mixer pm_law_mixer ct_law_mixer cd_law_mixer oc_law_beat kV_law_beat dc_law_beat pm_law_beat ct_law_beat cd_law_beat oc_law_do kV_law_do dc_law_do pm_law_do ct_law_do cd_law_do oc_law_added kV_law_added dc_law_added pm_law_added ct_law_added cd_law_added oc_law_parcel kV_law_parcel dc_law_parcel pm_law_parcel ct_law_parcel cd_law_parcel oc_law_deed kV_law_deed dc_law_deed pm_law_deed ct_law_deed cd_law_deed oc_law_use kV_law_use dc_law_use pm_law_use ct_law_use cd_law_use oc_law kV_law dc_law pm_law ct_law : Value} {t_MOST t_FULL t_HUSHED t_RISING t_ON t_FALLING tN0 tN1 tfL tgL ttL : Tok} {nN : Nat} {vsL : Array Value}
    {fileL : Str} {inL : Bool} {flL teL : Int}
    (aC_L : PySem.W.nsIn K mainGlobals "Line" = some (some (.ref cs_L)))
    (pg_L : PySem.W.plainGet K cs_L Str.empty = true)
    (hd_L : PySem.W.hasDictIn K cs_L = true)
    (po_L : PySem.W.plainOver K cs_L = true)
    (sa_L : PySem.W.findIn K (.ref cs_L) "__setattr__" = some (some (.builtin "object.__setattr__")))
    (mk_L : PySem.W.makesIn K cs_L = true)
    (kc_L : PySem.W.keepIn K (.ref cs_L) = true)
    (nL1 : PySem.W.findIn K (.ref cs_L) "pace" = some none)
    (nL2 : PySem.W.findIn K (.ref cs_L) "begin" = some none)
    (nL3 : PySem.W.findIn K (.ref cs_L) "came" = some none)
    (nL4 : PySem.W.findIn K (.ref cs_L) "reach" = some none)
    (nL5 : PySem.W.findIn K (.ref cs_L) "many" = some none)
    (aC_D : PySem.W.nsIn K mainGlobals "Loudness" = some (some (.ref cs_D)))
    (pg_D : PySem.W.plainGet K cs_D Str.empty = true)
    (hd_D : PySem.W.hasDictIn K cs_D = true)
    (po_D : PySem.W.plainOver K cs_D = true)
    (sa_D : PySem.W.findIn K (.ref cs_D) "__setattr__" = some (some (.builtin "object.__setattr__")))
    (mk_D : PySem.W.makesIn K cs_D = true)
    (kc_D : PySem.W.keepIn K (.ref cs_D) = true)
    (nD1 : PySem.W.findIn K (.ref cs_D) "level" = some none)
    (nD2 : PySem.W.findIn K (.ref cs_D) "stride" = some none)
    (nD3 : PySem.W.findIn K (.ref cs_D) "left" = some none)
    (aC_V : PySem.W.nsIn K mainGlobals "Voice" = some (some (.ref cs_V)))
    (pg_V : PySem.W.plainGet K cs_V Str.empty = true)
    (hd_V : PySem.W.hasDictIn K cs_V = true)
    (po_V : PySem.W.plainOver K cs_V = true)
    (sa_V : PySem.W.findIn K (.ref cs_V) "__setattr__" = some (some (.builtin "object.__setattr__")))
    (mk_V : PySem.W.makesIn K cs_V = true)
    (kc_V : PySem.W.keepIn K (.ref cs_V) = true)
    (nV1 : PySem.W.findIn K (.ref cs_V) "line" = some none)
    (nV2 : PySem.W.findIn K (.ref cs_V) "loudness" = some none)
    (nV3 : PySem.W.findIn K (.ref cs_V) "heard" = some none)
    (nV4 : PySem.W.findIn K (.ref cs_V) "state" = some none)
    (nV5 : PySem.W.findIn K (.ref cs_V) "steps" = some none)
    (nV6 : PySem.W.findIn K (.ref cs_V) "part" = some none)
    (nV7 : PySem.W.findIn K (.ref cs_V) "height" = some none)
    (aC_M : PySem.W.nsIn K mainGlobals "Mixer" = some (some (.ref cs_M)))
    (pg_M : PySem.W.plainGet K cs_M Str.empty = true)
    (hd_M : PySem.W.hasDictIn K cs_M = true)
    (po_M : PySem.W.plainOver K cs_M = true)
    (sa_M : PySem.W.findIn K (.ref cs_M) "__setattr__" = some (some (.builtin "object.__setattr__")))
    (mk_M : PySem.W.makesIn K cs_M = true)
    (kc_M : PySem.W.keepIn K (.ref cs_M) = true)
    (nM1 : PySem.W.findIn K (.ref cs_M) "soft" = some none)
    (nM2 : PySem.W.findIn K (.ref cs_M) "coming" = some none)
    (nM3 : PySem.W.findIn K (.ref cs_M) "voices" = some none)
    (nM4 : PySem.W.findIn K (.ref cs_M) "lacked" = some none)
    (a_is_whole : PySem.W.nsIn K mainGlobals "is_whole" = some (some (.ref f_is_whole)))
    (l_is_whole : K.lookup f_is_whole = some ⟨oc_is_whole, od_is_whole, .func (PySem.W.fnOf "is_whole" "is_whole" (defArgs s_is_whole) (defBody s_is_whole) (defScope s_is_whole) .none kV_is_whole dc_is_whole pm_is_whole an_is_whole cd_is_whole ct_is_whole), sl_is_whole⟩)
    (c_is_whole : PySem.W.codeIn K cd_is_whole "is_whole" = true)
    (k_is_whole : PySem.W.keepIn K (.ref f_is_whole) = true)
    (a_check_soft : PySem.W.nsIn K mainGlobals "check_soft" = some (some (.ref f_check_soft)))
    (l_check_soft : K.lookup f_check_soft = some ⟨oc_check_soft, od_check_soft, .func (PySem.W.fnOf "check_soft" "check_soft" (defArgs s_check_soft) (defBody s_check_soft) (defScope s_check_soft) .none kV_check_soft dc_check_soft pm_check_soft an_check_soft cd_check_soft ct_check_soft), sl_check_soft⟩)
    (c_check_soft : PySem.W.codeIn K cd_check_soft "check_soft" = true)
    (k_check_soft : PySem.W.keepIn K (.ref f_check_soft) = true)
    (a_check_name : PySem.W.nsIn K mainGlobals "check_name" = some (some (.ref f_check_name)))
    (l_check_name : K.lookup f_check_name = some ⟨oc_check_name, od_check_name, .func (PySem.W.fnOf "check_name" "check_name" (defArgs s_check_name) (defBody s_check_name) (defScope s_check_name) .none kV_check_name dc_check_name pm_check_name an_check_name cd_check_name ct_check_name), sl_check_name⟩)
    (c_check_name : PySem.W.codeIn K cd_check_name "check_name" = true)
    (k_check_name : PySem.W.keepIn K (.ref f_check_name) = true)
    (a_check_pace : PySem.W.nsIn K mainGlobals "check_pace" = some (some (.ref f_check_pace)))
    (l_check_pace : K.lookup f_check_pace = some ⟨oc_check_pace, od_check_pace, .func (PySem.W.fnOf "check_pace" "check_pace" (defArgs s_check_pace) (defBody s_check_pace) (defScope s_check_pace) .none kV_check_pace dc_check_pace pm_check_pace an_check_pace cd_check_pace ct_check_pace), sl_check_pace⟩)
    (c_check_pace : PySem.W.codeIn K cd_check_pace "check_pace" = true)
    (k_check_pace : PySem.W.keepIn K (.ref f_check_pace) = true)
    (a_check_wait : PySem.W.nsIn K mainGlobals "check_wait" = some (some (.ref f_check_wait)))
    (l_check_wait : K.lookup f_check_wait = some ⟨oc_check_wait, od_check_wait, .func (PySem.W.fnOf "check_wait" "check_wait" (defArgs s_check_wait) (defBody s_check_wait) (defScope s_check_wait) .none kV_check_wait dc_check_wait pm_check_wait an_check_wait cd_check_wait ct_check_wait), sl_check_wait⟩)
    (c_check_wait : PySem.W.codeIn K cd_check_wait "check_wait" = true)
    (k_check_wait : PySem.W.keepIn K (.ref f_check_wait) = true)
    (a_check_loudness : PySem.W.nsIn K mainGlobals "check_loudness" = some (some (.ref f_check_loudness)))
    (l_check_loudness : K.lookup f_check_loudness = some ⟨oc_check_loudness, od_check_loudness, .func (PySem.W.fnOf "check_loudness" "check_loudness" (defArgs s_check_loudness) (defBody s_check_loudness) (defScope s_check_loudness) .none kV_check_loudness dc_check_loudness pm_check_loudness an_check_loudness cd_check_loudness ct_check_loudness), sl_check_loudness⟩)
    (c_check_loudness : PySem.W.codeIn K cd_check_loudness "check_loudness" = true)
    (k_check_loudness : PySem.W.keepIn K (.ref f_check_loudness) = true)
    (a_ratio : PySem.W.nsIn K mainGlobals "ratio" = some (some (.ref f_ratio)))
    (l_ratio : K.lookup f_ratio = some ⟨oc_ratio, od_ratio, .func (PySem.W.fnOf "ratio" "ratio" (defArgs s_ratio) (defBody s_ratio) (defScope s_ratio) .none kV_ratio dc_ratio pm_ratio an_ratio cd_ratio ct_ratio), sl_ratio⟩)
    (c_ratio : PySem.W.codeIn K cd_ratio "ratio" = true)
    (k_ratio : PySem.W.keepIn K (.ref f_ratio) = true)
    (a_plus : PySem.W.nsIn K mainGlobals "plus" = some (some (.ref f_plus)))
    (l_plus : K.lookup f_plus = some ⟨oc_plus, od_plus, .func (PySem.W.fnOf "plus" "plus" (defArgs s_plus) (defBody s_plus) (defScope s_plus) .none kV_plus dc_plus pm_plus an_plus cd_plus ct_plus), sl_plus⟩)
    (c_plus : PySem.W.codeIn K cd_plus "plus" = true)
    (k_plus : PySem.W.keepIn K (.ref f_plus) = true)
    (a_minus : PySem.W.nsIn K mainGlobals "minus" = some (some (.ref f_minus)))
    (l_minus : K.lookup f_minus = some ⟨oc_minus, od_minus, .func (PySem.W.fnOf "minus" "minus" (defArgs s_minus) (defBody s_minus) (defScope s_minus) .none kV_minus dc_minus pm_minus an_minus cd_minus ct_minus), sl_minus⟩)
    (c_minus : PySem.W.codeIn K cd_minus "minus" = true)
    (k_minus : PySem.W.keepIn K (.ref f_minus) = true)
    (a_times : PySem.W.nsIn K mainGlobals "times" = some (some (.ref f_times)))
    (l_times : K.lookup f_times = some ⟨oc_times, od_times, .func (PySem.W.fnOf "times" "times" (defArgs s_times) (defBody s_times) (defScope s_times) .none kV_times dc_times pm_times an_times cd_times ct_times), sl_times⟩)
    (c_times : PySem.W.codeIn K cd_times "times" = true)
    (k_times : PySem.W.keepIn K (.ref f_times) = true)
    (a_Line_init : PySem.W.findIn K (.ref cs_L) "__init__" = some (some (.ref f_Line_init)))
    (i_Line_init : PySem.W.isFn K (.ref f_Line_init) = true)
    (l_Line_init : K.lookup f_Line_init = some ⟨oc_Line_init, od_Line_init, .func (PySem.W.fnOf "__init__" "Line.__init__" (defArgs s_Line_init) (defBody s_Line_init) (defScope s_Line_init) .none kV_Line_init dc_Line_init pm_Line_init an_Line_init cd_Line_init ct_Line_init), sl_Line_init⟩)
    (c_Line_init : PySem.W.codeIn K cd_Line_init "Line.__init__" = true)
    (k_Line_init : PySem.W.keepIn K (.ref f_Line_init) = true)
    (a_Line_room : PySem.W.findIn K (.ref cs_L) "room" = some (some (.ref f_Line_room)))
    (i_Line_room : PySem.W.isFn K (.ref f_Line_room) = true)
    (l_Line_room : K.lookup f_Line_room = some ⟨oc_Line_room, od_Line_room, .func (PySem.W.fnOf "room" "Line.room" (defArgs s_Line_room) (defBody s_Line_room) (defScope s_Line_room) .none kV_Line_room dc_Line_room pm_Line_room an_Line_room cd_Line_room ct_Line_room), sl_Line_room⟩)
    (c_Line_room : PySem.W.codeIn K cd_Line_room "Line.room" = true)
    (k_Line_room : PySem.W.keepIn K (.ref f_Line_room) = true)
    (a_Line_begun : PySem.W.findIn K (.ref cs_L) "begun" = some (some (.ref f_Line_begun)))
    (i_Line_begun : PySem.W.isFn K (.ref f_Line_begun) = true)
    (l_Line_begun : K.lookup f_Line_begun = some ⟨oc_Line_begun, od_Line_begun, .func (PySem.W.fnOf "begun" "Line.begun" (defArgs s_Line_begun) (defBody s_Line_begun) (defScope s_Line_begun) .none kV_Line_begun dc_Line_begun pm_Line_begun an_Line_begun cd_Line_begun ct_Line_begun), sl_Line_begun⟩)
    (c_Line_begun : PySem.W.codeIn K cd_Line_begun "Line.begun" = true)
    (k_Line_begun : PySem.W.keepIn K (.ref f_Line_begun) = true)
    (a_spot : PySem.W.nsIn K mainGlobals "spot" = some (some (.ref f_spot)))
    (l_spot : K.lookup f_spot = some ⟨oc_spot, od_spot, .func (PySem.W.fnOf "spot" "spot" (defArgs s_spot) (defBody s_spot) (defScope s_spot) .none kV_spot dc_spot pm_spot an_spot cd_spot ct_spot), sl_spot⟩)
    (c_spot : PySem.W.codeIn K cd_spot "spot" = true)
    (k_spot : PySem.W.keepIn K (.ref f_spot) = true)
    (a_wanted : PySem.W.nsIn K mainGlobals "wanted" = some (some (.ref f_wanted)))
    (l_wanted : K.lookup f_wanted = some ⟨oc_wanted, od_wanted, .func (PySem.W.fnOf "wanted" "wanted" (defArgs s_wanted) (defBody s_wanted) (defScope s_wanted) .none kV_wanted dc_wanted pm_wanted an_wanted cd_wanted ct_wanted), sl_wanted⟩)
    (c_wanted : PySem.W.codeIn K cd_wanted "wanted" = true)
    (k_wanted : PySem.W.keepIn K (.ref f_wanted) = true)
    (a_Line_wants : PySem.W.findIn K (.ref cs_L) "wants" = some (some (.ref f_Line_wants)))
    (i_Line_wants : PySem.W.isFn K (.ref f_Line_wants) = true)
    (l_Line_wants : K.lookup f_Line_wants = some ⟨oc_Line_wants, od_Line_wants, .func (PySem.W.fnOf "wants" "Line.wants" (defArgs s_Line_wants) (defBody s_Line_wants) (defScope s_Line_wants) .none kV_Line_wants dc_Line_wants pm_Line_wants an_Line_wants cd_Line_wants ct_Line_wants), sl_Line_wants⟩)
    (c_Line_wants : PySem.W.codeIn K cd_Line_wants "Line.wants" = true)
    (k_Line_wants : PySem.W.keepIn K (.ref f_Line_wants) = true)
    (a_Line_over : PySem.W.findIn K (.ref cs_L) "over" = some (some (.ref f_Line_over)))
    (i_Line_over : PySem.W.isFn K (.ref f_Line_over) = true)
    (l_Line_over : K.lookup f_Line_over = some ⟨oc_Line_over, od_Line_over, .func (PySem.W.fnOf "over" "Line.over" (defArgs s_Line_over) (defBody s_Line_over) (defScope s_Line_over) .none kV_Line_over dc_Line_over pm_Line_over an_Line_over cd_Line_over ct_Line_over), sl_Line_over⟩)
    (c_Line_over : PySem.W.codeIn K cd_Line_over "Line.over" = true)
    (k_Line_over : PySem.W.keepIn K (.ref f_Line_over) = true)
    (a_Line_lacks : PySem.W.findIn K (.ref cs_L) "lacks" = some (some (.ref f_Line_lacks)))
    (i_Line_lacks : PySem.W.isFn K (.ref f_Line_lacks) = true)
    (l_Line_lacks : K.lookup f_Line_lacks = some ⟨oc_Line_lacks, od_Line_lacks, .func (PySem.W.fnOf "lacks" "Line.lacks" (defArgs s_Line_lacks) (defBody s_Line_lacks) (defScope s_Line_lacks) .none kV_Line_lacks dc_Line_lacks pm_Line_lacks an_Line_lacks cd_Line_lacks ct_Line_lacks), sl_Line_lacks⟩)
    (c_Line_lacks : PySem.W.codeIn K cd_Line_lacks "Line.lacks" = true)
    (k_Line_lacks : PySem.W.keepIn K (.ref f_Line_lacks) = true)
    (a_Line_ready : PySem.W.findIn K (.ref cs_L) "ready" = some (some (.ref f_Line_ready)))
    (i_Line_ready : PySem.W.isFn K (.ref f_Line_ready) = true)
    (l_Line_ready : K.lookup f_Line_ready = some ⟨oc_Line_ready, od_Line_ready, .func (PySem.W.fnOf "ready" "Line.ready" (defArgs s_Line_ready) (defBody s_Line_ready) (defScope s_Line_ready) .none kV_Line_ready dc_Line_ready pm_Line_ready an_Line_ready cd_Line_ready ct_Line_ready), sl_Line_ready⟩)
    (c_Line_ready : PySem.W.codeIn K cd_Line_ready "Line.ready" = true)
    (k_Line_ready : PySem.W.keepIn K (.ref f_Line_ready) = true)
    (a_Line_value : PySem.W.findIn K (.ref cs_L) "value" = some (some (.ref f_Line_value)))
    (i_Line_value : PySem.W.isFn K (.ref f_Line_value) = true)
    (l_Line_value : K.lookup f_Line_value = some ⟨oc_Line_value, od_Line_value, .func (PySem.W.fnOf "value" "Line.value" (defArgs s_Line_value) (defBody s_Line_value) (defScope s_Line_value) .none kV_Line_value dc_Line_value pm_Line_value an_Line_value cd_Line_value ct_Line_value), sl_Line_value⟩)
    (c_Line_value : PySem.W.codeIn K cd_Line_value "Line.value" = true)
    (k_Line_value : PySem.W.keepIn K (.ref f_Line_value) = true)
    (a_Line_take : PySem.W.findIn K (.ref cs_L) "take" = some (some (.ref f_Line_take)))
    (i_Line_take : PySem.W.isFn K (.ref f_Line_take) = true)
    (l_Line_take : K.lookup f_Line_take = some ⟨oc_Line_take, od_Line_take, .func (PySem.W.fnOf "take" "Line.take" (defArgs s_Line_take) (defBody s_Line_take) (defScope s_Line_take) .none kV_Line_take dc_Line_take pm_Line_take an_Line_take cd_Line_take ct_Line_take), sl_Line_take⟩)
    (c_Line_take : PySem.W.codeIn K cd_Line_take "Line.take" = true)
    (k_Line_take : PySem.W.keepIn K (.ref f_Line_take) = true)
    (a_Line_close : PySem.W.findIn K (.ref cs_L) "close" = some (some (.ref f_Line_close)))
    (i_Line_close : PySem.W.isFn K (.ref f_Line_close) = true)
    (l_Line_close : K.lookup f_Line_close = some ⟨oc_Line_close, od_Line_close, .func (PySem.W.fnOf "close" "Line.close" (defArgs s_Line_close) (defBody s_Line_close) (defScope s_Line_close) .none kV_Line_close dc_Line_close pm_Line_close an_Line_close cd_Line_close ct_Line_close), sl_Line_close⟩)
    (c_Line_close : PySem.W.codeIn K cd_Line_close "Line.close" = true)
    (k_Line_close : PySem.W.keepIn K (.ref f_Line_close) = true)
    (a_Loudness_init : PySem.W.findIn K (.ref cs_D) "__init__" = some (some (.ref f_Loudness_init)))
    (i_Loudness_init : PySem.W.isFn K (.ref f_Loudness_init) = true)
    (l_Loudness_init : K.lookup f_Loudness_init = some ⟨oc_Loudness_init, od_Loudness_init, .func (PySem.W.fnOf "__init__" "Loudness.__init__" (defArgs s_Loudness_init) (defBody s_Loudness_init) (defScope s_Loudness_init) .none kV_Loudness_init dc_Loudness_init pm_Loudness_init an_Loudness_init cd_Loudness_init ct_Loudness_init), sl_Loudness_init⟩)
    (c_Loudness_init : PySem.W.codeIn K cd_Loudness_init "Loudness.__init__" = true)
    (k_Loudness_init : PySem.W.keepIn K (.ref f_Loudness_init) = true)
    (a_Loudness_lead_on : PySem.W.findIn K (.ref cs_D) "lead_on" = some (some (.ref f_Loudness_lead_on)))
    (i_Loudness_lead_on : PySem.W.isFn K (.ref f_Loudness_lead_on) = true)
    (l_Loudness_lead_on : K.lookup f_Loudness_lead_on = some ⟨oc_Loudness_lead_on, od_Loudness_lead_on, .func (PySem.W.fnOf "lead_on" "Loudness.lead_on" (defArgs s_Loudness_lead_on) (defBody s_Loudness_lead_on) (defScope s_Loudness_lead_on) .none kV_Loudness_lead_on dc_Loudness_lead_on pm_Loudness_lead_on an_Loudness_lead_on cd_Loudness_lead_on ct_Loudness_lead_on), sl_Loudness_lead_on⟩)
    (c_Loudness_lead_on : PySem.W.codeIn K cd_Loudness_lead_on "Loudness.lead_on" = true)
    (k_Loudness_lead_on : PySem.W.keepIn K (.ref f_Loudness_lead_on) = true)
    (a_Loudness_lead_to : PySem.W.findIn K (.ref cs_D) "lead_to" = some (some (.ref f_Loudness_lead_to)))
    (i_Loudness_lead_to : PySem.W.isFn K (.ref f_Loudness_lead_to) = true)
    (l_Loudness_lead_to : K.lookup f_Loudness_lead_to = some ⟨oc_Loudness_lead_to, od_Loudness_lead_to, .func (PySem.W.fnOf "lead_to" "Loudness.lead_to" (defArgs s_Loudness_lead_to) (defBody s_Loudness_lead_to) (defScope s_Loudness_lead_to) .none kV_Loudness_lead_to dc_Loudness_lead_to pm_Loudness_lead_to an_Loudness_lead_to cd_Loudness_lead_to ct_Loudness_lead_to), sl_Loudness_lead_to⟩)
    (c_Loudness_lead_to : PySem.W.codeIn K cd_Loudness_lead_to "Loudness.lead_to" = true)
    (k_Loudness_lead_to : PySem.W.keepIn K (.ref f_Loudness_lead_to) = true)
    (a_check_lead : PySem.W.nsIn K mainGlobals "check_lead" = some (some (.ref f_check_lead)))
    (l_check_lead : K.lookup f_check_lead = some ⟨oc_check_lead, od_check_lead, .func (PySem.W.fnOf "check_lead" "check_lead" (defArgs s_check_lead) (defBody s_check_lead) (defScope s_check_lead) .none kV_check_lead dc_check_lead pm_check_lead an_check_lead cd_check_lead ct_check_lead), sl_check_lead⟩)
    (c_check_lead : PySem.W.codeIn K cd_check_lead "check_lead" = true)
    (k_check_lead : PySem.W.keepIn K (.ref f_check_lead) = true)
    (a_Voice_fall : PySem.W.findIn K (.ref cs_V) "fall" = some (some (.ref f_Voice_fall)))
    (i_Voice_fall : PySem.W.isFn K (.ref f_Voice_fall) = true)
    (l_Voice_fall : K.lookup f_Voice_fall = some ⟨oc_Voice_fall, od_Voice_fall, .func (PySem.W.fnOf "fall" "Voice.fall" (defArgs s_Voice_fall) (defBody s_Voice_fall) (defScope s_Voice_fall) .none kV_Voice_fall dc_Voice_fall pm_Voice_fall an_Voice_fall cd_Voice_fall ct_Voice_fall), sl_Voice_fall⟩)
    (c_Voice_fall : PySem.W.codeIn K cd_Voice_fall "Voice.fall" = true)
    (k_Voice_fall : PySem.W.keepIn K (.ref f_Voice_fall) = true)
    (a_Voice_rise : PySem.W.findIn K (.ref cs_V) "rise" = some (some (.ref f_Voice_rise)))
    (i_Voice_rise : PySem.W.isFn K (.ref f_Voice_rise) = true)
    (l_Voice_rise : K.lookup f_Voice_rise = some ⟨oc_Voice_rise, od_Voice_rise, .func (PySem.W.fnOf "rise" "Voice.rise" (defArgs s_Voice_rise) (defBody s_Voice_rise) (defScope s_Voice_rise) .none kV_Voice_rise dc_Voice_rise pm_Voice_rise an_Voice_rise cd_Voice_rise ct_Voice_rise), sl_Voice_rise⟩)
    (c_Voice_rise : PySem.W.codeIn K cd_Voice_rise "Voice.rise" = true)
    (k_Voice_rise : PySem.W.keepIn K (.ref f_Voice_rise) = true)
    (a_Voice_begin_fall : PySem.W.findIn K (.ref cs_V) "begin_fall" = some (some (.ref f_Voice_begin_fall)))
    (i_Voice_begin_fall : PySem.W.isFn K (.ref f_Voice_begin_fall) = true)
    (l_Voice_begin_fall : K.lookup f_Voice_begin_fall = some ⟨oc_Voice_begin_fall, od_Voice_begin_fall, .func (PySem.W.fnOf "begin_fall" "Voice.begin_fall" (defArgs s_Voice_begin_fall) (defBody s_Voice_begin_fall) (defScope s_Voice_begin_fall) .none kV_Voice_begin_fall dc_Voice_begin_fall pm_Voice_begin_fall an_Voice_begin_fall cd_Voice_begin_fall ct_Voice_begin_fall), sl_Voice_begin_fall⟩)
    (c_Voice_begin_fall : PySem.W.codeIn K cd_Voice_begin_fall "Voice.begin_fall" = true)
    (k_Voice_begin_fall : PySem.W.keepIn K (.ref f_Voice_begin_fall) = true)
    (a_Voice_sound : PySem.W.findIn K (.ref cs_V) "sound" = some (some (.ref f_Voice_sound)))
    (i_Voice_sound : PySem.W.isFn K (.ref f_Voice_sound) = true)
    (l_Voice_sound : K.lookup f_Voice_sound = some ⟨oc_Voice_sound, od_Voice_sound, .func (PySem.W.fnOf "sound" "Voice.sound" (defArgs s_Voice_sound) (defBody s_Voice_sound) (defScope s_Voice_sound) .none kV_Voice_sound dc_Voice_sound pm_Voice_sound an_Voice_sound cd_Voice_sound ct_Voice_sound), sl_Voice_sound⟩)
    (c_Voice_sound : PySem.W.codeIn K cd_Voice_sound "Voice.sound" = true)
    (k_Voice_sound : PySem.W.keepIn K (.ref f_Voice_sound) = true)
    (a_Voice_init : PySem.W.findIn K (.ref cs_V) "__init__" = some (some (.ref f_Voice_init)))
    (i_Voice_init : PySem.W.isFn K (.ref f_Voice_init) = true)
    (l_Voice_init : K.lookup f_Voice_init = some ⟨oc_Voice_init, od_Voice_init, .func (PySem.W.fnOf "__init__" "Voice.__init__" (defArgs s_Voice_init) (defBody s_Voice_init) (defScope s_Voice_init) .none kV_Voice_init dc_Voice_init pm_Voice_init an_Voice_init cd_Voice_init ct_Voice_init), sl_Voice_init⟩)
    (c_Voice_init : PySem.W.codeIn K cd_Voice_init "Voice.__init__" = true)
    (k_Voice_init : PySem.W.keepIn K (.ref f_Voice_init) = true)
    (a_Voice_give : PySem.W.findIn K (.ref cs_V) "give" = some (some (.ref f_Voice_give)))
    (i_Voice_give : PySem.W.isFn K (.ref f_Voice_give) = true)
    (l_Voice_give : K.lookup f_Voice_give = some ⟨oc_Voice_give, od_Voice_give, .func (PySem.W.fnOf "give" "Voice.give" (defArgs s_Voice_give) (defBody s_Voice_give) (defScope s_Voice_give) .none kV_Voice_give dc_Voice_give pm_Voice_give an_Voice_give cd_Voice_give ct_Voice_give), sl_Voice_give⟩)
    (c_Voice_give : PySem.W.codeIn K cd_Voice_give "Voice.give" = true)
    (k_Voice_give : PySem.W.keepIn K (.ref f_Voice_give) = true)
    (a_Mixer_init : PySem.W.findIn K (.ref cs_M) "__init__" = some (some (.ref f_Mixer_init)))
    (i_Mixer_init : PySem.W.isFn K (.ref f_Mixer_init) = true)
    (l_Mixer_init : K.lookup f_Mixer_init = some ⟨oc_Mixer_init, od_Mixer_init, .func (PySem.W.fnOf "__init__" "Mixer.__init__" (defArgs s_Mixer_init) (defBody s_Mixer_init) (defScope s_Mixer_init) .none kV_Mixer_init dc_Mixer_init pm_Mixer_init an_Mixer_init cd_Mixer_init ct_Mixer_init), sl_Mixer_init⟩)
    (c_Mixer_init : PySem.W.codeIn K cd_Mixer_init "Mixer.__init__" = true)
    (k_Mixer_init : PySem.W.keepIn K (.ref f_Mixer_init) = true)
    (a_Mixer_voice_of : PySem.W.findIn K (.ref cs_M) "voice_of" = some (some (.ref f_Mixer_voice_of)))
    (i_Mixer_voice_of : PySem.W.isFn K (.ref f_Mixer_voice_of) = true)
    (l_Mixer_voice_of : K.lookup f_Mixer_voice_of = some ⟨oc_Mixer_voice_of, od_Mixer_voice_of, .func (PySem.W.fnOf "voice_of" "Mixer.voice_of" (defArgs s_Mixer_voice_of) (defBody s_Mixer_voice_of) (defScope s_Mixer_voice_of) .none kV_Mixer_voice_of dc_Mixer_voice_of pm_Mixer_voice_of an_Mixer_voice_of cd_Mixer_voice_of ct_Mixer_voice_of), sl_Mixer_voice_of⟩)
    (c_Mixer_voice_of : PySem.W.codeIn K cd_Mixer_voice_of "Mixer.voice_of" = true)
    (k_Mixer_voice_of : PySem.W.keepIn K (.ref f_Mixer_voice_of) = true)
    (a_Mixer_add : PySem.W.findIn K (.ref cs_M) "add" = some (some (.ref f_Mixer_add)))
    (i_Mixer_add : PySem.W.isFn K (.ref f_Mixer_add) = true)
    (l_Mixer_add : K.lookup f_Mixer_add = some ⟨oc_Mixer_add, od_Mixer_add, .func (PySem.W.fnOf "add" "Mixer.add" (defArgs s_Mixer_add) (defBody s_Mixer_add) (defScope s_Mixer_add) .none kV_Mixer_add dc_Mixer_add pm_Mixer_add an_Mixer_add cd_Mixer_add ct_Mixer_add), sl_Mixer_add⟩)
    (c_Mixer_add : PySem.W.codeIn K cd_Mixer_add "Mixer.add" = true)
    (k_Mixer_add : PySem.W.keepIn K (.ref f_Mixer_add) = true)
    (a_Mixer_parcel : PySem.W.findIn K (.ref cs_M) "parcel" = some (some (.ref f_Mixer_parcel)))
    (i_Mixer_parcel : PySem.W.isFn K (.ref f_Mixer_parcel) = true)
    (l_Mixer_parcel : K.lookup f_Mixer_parcel = some ⟨oc_Mixer_parcel, od_Mixer_parcel, .func (PySem.W.fnOf "parcel" "Mixer.parcel" (defArgs s_Mixer_parcel) (defBody s_Mixer_parcel) (defScope s_Mixer_parcel) .none kV_Mixer_parcel dc_Mixer_parcel pm_Mixer_parcel an_Mixer_parcel cd_Mixer_parcel ct_Mixer_parcel), sl_Mixer_parcel⟩)
    (c_Mixer_parcel : PySem.W.codeIn K cd_Mixer_parcel "Mixer.parcel" = true)
    (k_Mixer_parcel : PySem.W.keepIn K (.ref f_Mixer_parcel) = true)
    (a_Mixer_end : PySem.W.findIn K (.ref cs_M) "end" = some (some (.ref f_Mixer_end)))
    (i_Mixer_end : PySem.W.isFn K (.ref f_Mixer_end) = true)
    (l_Mixer_end : K.lookup f_Mixer_end = some ⟨oc_Mixer_end, od_Mixer_end, .func (PySem.W.fnOf "end" "Mixer.end" (defArgs s_Mixer_end) (defBody s_Mixer_end) (defScope s_Mixer_end) .none kV_Mixer_end dc_Mixer_end pm_Mixer_end an_Mixer_end cd_Mixer_end ct_Mixer_end), sl_Mixer_end⟩)
    (c_Mixer_end : PySem.W.codeIn K cd_Mixer_end "Mixer.end" = true)
    (k_Mixer_end : PySem.W.keepIn K (.ref f_Mixer_end) = true)
    (a_Mixer_beat : PySem.W.findIn K (.ref cs_M) "beat" = some (some (.ref f_Mixer_beat)))
    (i_Mixer_beat : PySem.W.isFn K (.ref f_Mixer_beat) = true)
    (l_Mixer_beat : K.lookup f_Mixer_beat = some ⟨oc_Mixer_beat, od_Mixer_beat, .func (PySem.W.fnOf "beat" "Mixer.beat" (defArgs s_Mixer_beat) (defBody s_Mixer_beat) (defScope s_Mixer_beat) .none kV_Mixer_beat dc_Mixer_beat pm_Mixer_beat an_Mixer_beat cd_Mixer_beat ct_Mixer_beat), sl_Mixer_beat⟩)
    (c_Mixer_beat : PySem.W.codeIn K cd_Mixer_beat "Mixer.beat" = true)
    (k_Mixer_beat : PySem.W.keepIn K (.ref f_Mixer_beat) = true)
    (a_Mixer_lead : PySem.W.findIn K (.ref cs_M) "lead" = some (some (.ref f_Mixer_lead)))
    (i_Mixer_lead : PySem.W.isFn K (.ref f_Mixer_lead) = true)
    (l_Mixer_lead : K.lookup f_Mixer_lead = some ⟨oc_Mixer_lead, od_Mixer_lead, .func (PySem.W.fnOf "lead" "Mixer.lead" (defArgs s_Mixer_lead) (defBody s_Mixer_lead) (defScope s_Mixer_lead) .none kV_Mixer_lead dc_Mixer_lead pm_Mixer_lead an_Mixer_lead cd_Mixer_lead ct_Mixer_lead), sl_Mixer_lead⟩)
    (c_Mixer_lead : PySem.W.codeIn K cd_Mixer_lead "Mixer.lead" = true)
    (k_Mixer_lead : PySem.W.keepIn K (.ref f_Mixer_lead) = true)
    (a_Mixer_now : PySem.W.findIn K (.ref cs_M) "now" = some (some (.ref f_Mixer_now)))
    (i_Mixer_now : PySem.W.isFn K (.ref f_Mixer_now) = true)
    (l_Mixer_now : K.lookup f_Mixer_now = some ⟨oc_Mixer_now, od_Mixer_now, .func (PySem.W.fnOf "now" "Mixer.now" (defArgs s_Mixer_now) (defBody s_Mixer_now) (defScope s_Mixer_now) .none kV_Mixer_now dc_Mixer_now pm_Mixer_now an_Mixer_now cd_Mixer_now ct_Mixer_now), sl_Mixer_now⟩)
    (c_Mixer_now : PySem.W.codeIn K cd_Mixer_now "Mixer.now" = true)
    (k_Mixer_now : PySem.W.keepIn K (.ref f_Mixer_now) = true)
    (a_Mixer_missed : PySem.W.findIn K (.ref cs_M) "missed" = some (some (.ref f_Mixer_missed)))
    (i_Mixer_missed : PySem.W.isFn K (.ref f_Mixer_missed) = true)
    (l_Mixer_missed : K.lookup f_Mixer_missed = some ⟨oc_Mixer_missed, od_Mixer_missed, .func (PySem.W.fnOf "missed" "Mixer.missed" (defArgs s_Mixer_missed) (defBody s_Mixer_missed) (defScope s_Mixer_missed) .none kV_Mixer_missed dc_Mixer_missed pm_Mixer_missed an_Mixer_missed cd_Mixer_missed ct_Mixer_missed), sl_Mixer_missed⟩)
    (c_Mixer_missed : PySem.W.codeIn K cd_Mixer_missed "Mixer.missed" = true)
    (k_Mixer_missed : PySem.W.keepIn K (.ref f_Mixer_missed) = true)
    (a_Mixer_state_of : PySem.W.findIn K (.ref cs_M) "state_of" = some (some (.ref f_Mixer_state_of)))
    (i_Mixer_state_of : PySem.W.isFn K (.ref f_Mixer_state_of) = true)
    (l_Mixer_state_of : K.lookup f_Mixer_state_of = some ⟨oc_Mixer_state_of, od_Mixer_state_of, .func (PySem.W.fnOf "state_of" "Mixer.state_of" (defArgs s_Mixer_state_of) (defBody s_Mixer_state_of) (defScope s_Mixer_state_of) .none kV_Mixer_state_of dc_Mixer_state_of pm_Mixer_state_of an_Mixer_state_of cd_Mixer_state_of ct_Mixer_state_of), sl_Mixer_state_of⟩)
    (c_Mixer_state_of : PySem.W.codeIn K cd_Mixer_state_of "Mixer.state_of" = true)
    (k_Mixer_state_of : PySem.W.keepIn K (.ref f_Mixer_state_of) = true)
    (a_Mixer_states : PySem.W.findIn K (.ref cs_M) "states" = some (some (.ref f_Mixer_states)))
    (i_Mixer_states : PySem.W.isFn K (.ref f_Mixer_states) = true)
    (l_Mixer_states : K.lookup f_Mixer_states = some ⟨oc_Mixer_states, od_Mixer_states, .func (PySem.W.fnOf "states" "Mixer.states" (defArgs s_Mixer_states) (defBody s_Mixer_states) (defScope s_Mixer_states) .none kV_Mixer_states dc_Mixer_states pm_Mixer_states an_Mixer_states cd_Mixer_states ct_Mixer_states), sl_Mixer_states⟩)
    (c_Mixer_states : PySem.W.codeIn K cd_Mixer_states "Mixer.states" = true)
    (k_Mixer_states : PySem.W.keepIn K (.ref f_Mixer_states) = true)
    (a_Mixer_hush : PySem.W.findIn K (.ref cs_M) "hush" = some (some (.ref f_Mixer_hush)))
    (i_Mixer_hush : PySem.W.isFn K (.ref f_Mixer_hush) = true)
    (l_Mixer_hush : K.lookup f_Mixer_hush = some ⟨oc_Mixer_hush, od_Mixer_hush, .func (PySem.W.fnOf "hush" "Mixer.hush" (defArgs s_Mixer_hush) (defBody s_Mixer_hush) (defScope s_Mixer_hush) .none kV_Mixer_hush dc_Mixer_hush pm_Mixer_hush an_Mixer_hush cd_Mixer_hush ct_Mixer_hush), sl_Mixer_hush⟩)
    (c_Mixer_hush : PySem.W.codeIn K cd_Mixer_hush "Mixer.hush" = true)
    (k_Mixer_hush : PySem.W.keepIn K (.ref f_Mixer_hush) = true)
    (a_Mixer_wake : PySem.W.findIn K (.ref cs_M) "wake" = some (some (.ref f_Mixer_wake)))
    (i_Mixer_wake : PySem.W.isFn K (.ref f_Mixer_wake) = true)
    (l_Mixer_wake : K.lookup f_Mixer_wake = some ⟨oc_Mixer_wake, od_Mixer_wake, .func (PySem.W.fnOf "wake" "Mixer.wake" (defArgs s_Mixer_wake) (defBody s_Mixer_wake) (defScope s_Mixer_wake) .none kV_Mixer_wake dc_Mixer_wake pm_Mixer_wake an_Mixer_wake cd_Mixer_wake ct_Mixer_wake), sl_Mixer_wake⟩)
    (c_Mixer_wake : PySem.W.codeIn K cd_Mixer_wake "Mixer.wake" = true)
    (k_Mixer_wake : PySem.W.keepIn K (.ref f_Mixer_wake) = true)
    (a_law_taken : PySem.W.nsIn K mainGlobals "_law_taken" = some (some (.ref f_law_taken)))
    (l_law_taken : K.lookup f_law_taken = some ⟨oc_law_taken, od_law_taken, .func (PySem.W.fnOf "_law_taken" "_law_taken" (defArgs s_law_taken) (defBody s_law_taken) (defScope s_law_taken) .none kV_law_taken dc_law_taken pm_law_taken an_law_taken cd_law_taken ct_law_taken), sl_law_taken⟩)
    (c_law_taken : PySem.W.codeIn K cd_law_taken "_law_taken" = true)
    (k_law_taken : PySem.W.keepIn K (.ref f_law_taken) = true)
    (a_law_share : PySem.W.nsIn K mainGlobals "_law_share" = some (some (.ref f_law_share)))
    (l_law_share : K.lookup f_law_share = some ⟨oc_law_share, od_law_share, .func (PySem.W.fnOf "_law_share" "_law_share" (defArgs s_law_share) (defBody s_law_share) (defScope s_law_share) .none kV_law_share dc_law_share pm_law_share an_law_share cd_law_share ct_law_share), sl_law_share⟩)
    (c_law_share : PySem.W.codeIn K cd_law_share "_law_share" = true)
    (k_law_share : PySem.W.keepIn K (.ref f_law_share) = true)
    (a_law_plus : PySem.W.nsIn K mainGlobals "_law_plus" = some (some (.ref f_law_plus)))
    (l_law_plus : K.lookup f_law_plus = some ⟨oc_law_plus, od_law_plus, .func (PySem.W.fnOf "_law_plus" "_law_plus" (defArgs s_law_plus) (defBody s_law_plus) (defScope s_law_plus) .none kV_law_plus dc_law_plus pm_law_plus an_law_plus cd_law_plus ct_law_plus), sl_law_plus⟩)
    (c_law_plus : PySem.W.codeIn K cd_law_plus "_law_plus" = true)
    (k_law_plus : PySem.W.keepIn K (.ref f_law_plus) = true)
    (a_law_times : PySem.W.nsIn K mainGlobals "_law_times" = some (some (.ref f_law_times)))
    (l_law_times : K.lookup f_law_times = some ⟨oc_law_times, od_law_times, .func (PySem.W.fnOf "_law_times" "_law_times" (defArgs s_law_times) (defBody s_law_times) (defScope s_law_times) .none kV_law_times dc_law_times pm_law_times an_law_times cd_law_times ct_law_times), sl_law_times⟩)
    (c_law_times : PySem.W.codeIn K cd_law_times "_law_times" = true)
    (k_law_times : PySem.W.keepIn K (.ref f_law_times) = true)
    (a_law_number : PySem.W.nsIn K mainGlobals "_law_number" = some (some (.ref f_law_number)))
    (l_law_number : K.lookup f_law_number = some ⟨oc_law_number, od_law_number, .func (PySem.W.fnOf "_law_number" "_law_number" (defArgs s_law_number) (defBody s_law_number) (defScope s_law_number) .none kV_law_number dc_law_number pm_law_number an_law_number cd_law_number ct_law_number), sl_law_number⟩)
    (c_law_number : PySem.W.codeIn K cd_law_number "_law_number" = true)
    (k_law_number : PySem.W.keepIn K (.ref f_law_number) = true)
    (a_law_pace : PySem.W.nsIn K mainGlobals "_law_pace" = some (some (.ref f_law_pace)))
    (l_law_pace : K.lookup f_law_pace = some ⟨oc_law_pace, od_law_pace, .func (PySem.W.fnOf "_law_pace" "_law_pace" (defArgs s_law_pace) (defBody s_law_pace) (defScope s_law_pace) .none kV_law_pace dc_law_pace pm_law_pace an_law_pace cd_law_pace ct_law_pace), sl_law_pace⟩)
    (c_law_pace : PySem.W.codeIn K cd_law_pace "_law_pace" = true)
    (k_law_pace : PySem.W.keepIn K (.ref f_law_pace) = true)
    (a_law_loud : PySem.W.nsIn K mainGlobals "_law_loud" = some (some (.ref f_law_loud)))
    (l_law_loud : K.lookup f_law_loud = some ⟨oc_law_loud, od_law_loud, .func (PySem.W.fnOf "_law_loud" "_law_loud" (defArgs s_law_loud) (defBody s_law_loud) (defScope s_law_loud) .none kV_law_loud dc_law_loud pm_law_loud an_law_loud cd_law_loud ct_law_loud), sl_law_loud⟩)
    (c_law_loud : PySem.W.codeIn K cd_law_loud "_law_loud" = true)
    (k_law_loud : PySem.W.keepIn K (.ref f_law_loud) = true)
    (a_law_places : PySem.W.nsIn K mainGlobals "_law_places" = some (some (.ref f_law_places)))
    (l_law_places : K.lookup f_law_places = some ⟨oc_law_places, od_law_places, .func (PySem.W.fnOf "_law_places" "_law_places" (defArgs s_law_places) (defBody s_law_places) (defScope s_law_places) .none kV_law_places dc_law_places pm_law_places an_law_places cd_law_places ct_law_places), sl_law_places⟩)
    (c_law_places : PySem.W.codeIn K cd_law_places "_law_places" = true)
    (k_law_places : PySem.W.keepIn K (.ref f_law_places) = true)
    (a_law_is_over : PySem.W.nsIn K mainGlobals "_law_is_over" = some (some (.ref f_law_is_over)))
    (l_law_is_over : K.lookup f_law_is_over = some ⟨oc_law_is_over, od_law_is_over, .func (PySem.W.fnOf "_law_is_over" "_law_is_over" (defArgs s_law_is_over) (defBody s_law_is_over) (defScope s_law_is_over) .none kV_law_is_over dc_law_is_over pm_law_is_over an_law_is_over cd_law_is_over ct_law_is_over), sl_law_is_over⟩)
    (c_law_is_over : PySem.W.codeIn K cd_law_is_over "_law_is_over" = true)
    (k_law_is_over : PySem.W.keepIn K (.ref f_law_is_over) = true)
    (a_law_lacks : PySem.W.nsIn K mainGlobals "_law_lacks" = some (some (.ref f_law_lacks)))
    (l_law_lacks : K.lookup f_law_lacks = some ⟨oc_law_lacks, od_law_lacks, .func (PySem.W.fnOf "_law_lacks" "_law_lacks" (defArgs s_law_lacks) (defBody s_law_lacks) (defScope s_law_lacks) .none kV_law_lacks dc_law_lacks pm_law_lacks an_law_lacks cd_law_lacks ct_law_lacks), sl_law_lacks⟩)
    (c_law_lacks : PySem.W.codeIn K cd_law_lacks "_law_lacks" = true)
    (k_law_lacks : PySem.W.keepIn K (.ref f_law_lacks) = true)
    (a_law_alike : PySem.W.nsIn K mainGlobals "_law_alike" = some (some (.ref f_law_alike)))
    (l_law_alike : K.lookup f_law_alike = some ⟨oc_law_alike, od_law_alike, .func (PySem.W.fnOf "_law_alike" "_law_alike" (defArgs s_law_alike) (defBody s_law_alike) (defScope s_law_alike) .none kV_law_alike dc_law_alike pm_law_alike an_law_alike cd_law_alike ct_law_alike), sl_law_alike⟩)
    (c_law_alike : PySem.W.codeIn K cd_law_alike "_law_alike" = true)
    (k_law_alike : PySem.W.keepIn K (.ref f_law_alike) = true)
    (a_law_value : PySem.W.nsIn K mainGlobals "_law_value" = some (some (.ref f_law_value)))
    (l_law_value : K.lookup f_law_value = some ⟨oc_law_value, od_law_value, .func (PySem.W.fnOf "_law_value" "_law_value" (defArgs s_law_value) (defBody s_law_value) (defScope s_law_value) .none kV_law_value dc_law_value pm_law_value an_law_value cd_law_value ct_law_value), sl_law_value⟩)
    (c_law_value : PySem.W.codeIn K cd_law_value "_law_value" = true)
    (k_law_value : PySem.W.keepIn K (.ref f_law_value) = true)
    (a_law_may : PySem.W.nsIn K mainGlobals "_law_may" = some (some (.ref f_law_may)))
    (l_law_may : K.lookup f_law_may = some ⟨oc_law_may, od_law_may, .func (PySem.W.fnOf "_law_may" "_law_may" (defArgs s_law_may) (defBody s_law_may) (defScope s_law_may) .none kV_law_may dc_law_may pm_law_may an_law_may cd_law_may ct_law_may), sl_law_may⟩)
    (c_law_may : PySem.W.codeIn K cd_law_may "_law_may" = true)
    (k_law_may : PySem.W.keepIn K (.ref f_law_may) = true)
    (a_law_led : PySem.W.nsIn K mainGlobals "_law_led" = some (some (.ref f_law_led)))
    (l_law_led : K.lookup f_law_led = some ⟨oc_law_led, od_law_led, .func (PySem.W.fnOf "_law_led" "_law_led" (defArgs s_law_led) (defBody s_law_led) (defScope s_law_led) .none kV_law_led dc_law_led pm_law_led an_law_led cd_law_led ct_law_led), sl_law_led⟩)
    (c_law_led : PySem.W.codeIn K cd_law_led "_law_led" = true)
    (k_law_led : PySem.W.keepIn K (.ref f_law_led) = true)
    (a_law_sound : PySem.W.nsIn K mainGlobals "_law_sound" = some (some (.ref f_law_sound)))
    (l_law_sound : K.lookup f_law_sound = some ⟨oc_law_sound, od_law_sound, .func (PySem.W.fnOf "_law_sound" "_law_sound" (defArgs s_law_sound) (defBody s_law_sound) (defScope s_law_sound) .none kV_law_sound dc_law_sound pm_law_sound an_law_sound cd_law_sound ct_law_sound), sl_law_sound⟩)
    (c_law_sound : PySem.W.codeIn K cd_law_sound "_law_sound" = true)
    (k_law_sound : PySem.W.keepIn K (.ref f_law_sound) = true)
    (a_law_mixer : PySem.W.nsIn K mainGlobals "_law_mixer" = some (some (.ref f_law_mixer)))
    (l_law_mixer : K.lookup f_law_mixer = some ⟨oc_law_mixer, od_law_mixer, .func (PySem.W.fnOf "_law_mixer" "_law_mixer" (defArgs s_law_mixer) (defBody s_law_mixer) (defScope s_law_mixer) .none kV_law_mixer dc_law_mixer pm_law_mixer an_law_mixer cd_law_mixer ct_law_mixer), sl_law_mixer⟩)
    (c_law_mixer : PySem.W.codeIn K cd_law_mixer "_law_mixer" = true)
    (k_law_mixer : PySem.W.keepIn K (.ref f_law_mixer) = true)
    (a_law_beat : PySem.W.nsIn K mainGlobals "_law_beat" = some (some (.ref f_law_beat)))
    (l_law_beat : K.lookup f_law_beat = some ⟨oc_law_beat, od_law_beat, .func (PySem.W.fnOf "_law_beat" "_law_beat" (defArgs s_law_beat) (defBody s_law_beat) (defScope s_law_beat) .none kV_law_beat dc_law_beat pm_law_beat an_law_beat cd_law_beat ct_law_beat), sl_law_beat⟩)
    (c_law_beat : PySem.W.codeIn K cd_law_beat "_law_beat" = true)
    (k_law_beat : PySem.W.keepIn K (.ref f_law_beat) = true)
    (a_law_do : PySem.W.nsIn K mainGlobals "_law_do" = some (some (.ref f_law_do)))
    (l_law_do : K.lookup f_law_do = some ⟨oc_law_do, od_law_do, .func (PySem.W.fnOf "_law_do" "_law_do" (defArgs s_law_do) (defBody s_law_do) (defScope s_law_do) .none kV_law_do dc_law_do pm_law_do an_law_do cd_law_do ct_law_do), sl_law_do⟩)
    (c_law_do : PySem.W.codeIn K cd_law_do "_law_do" = true)
    (k_law_do : PySem.W.keepIn K (.ref f_law_do) = true)
    (a_law_added : PySem.W.nsIn K mainGlobals "_law_added" = some (some (.ref f_law_added)))
    (l_law_added : K.lookup f_law_added = some ⟨oc_law_added, od_law_added, .func (PySem.W.fnOf "_law_added" "_law_added" (defArgs s_law_added) (defBody s_law_added) (defScope s_law_added) .none kV_law_added dc_law_added pm_law_added an_law_added cd_law_added ct_law_added), sl_law_added⟩)
    (c_law_added : PySem.W.codeIn K cd_law_added "_law_added" = true)
    (k_law_added : PySem.W.keepIn K (.ref f_law_added) = true)
    (a_law_parcel : PySem.W.nsIn K mainGlobals "_law_parcel" = some (some (.ref f_law_parcel)))
    (l_law_parcel : K.lookup f_law_parcel = some ⟨oc_law_parcel, od_law_parcel, .func (PySem.W.fnOf "_law_parcel" "_law_parcel" (defArgs s_law_parcel) (defBody s_law_parcel) (defScope s_law_parcel) .none kV_law_parcel dc_law_parcel pm_law_parcel an_law_parcel cd_law_parcel ct_law_parcel), sl_law_parcel⟩)
    (c_law_parcel : PySem.W.codeIn K cd_law_parcel "_law_parcel" = true)
    (k_law_parcel : PySem.W.keepIn K (.ref f_law_parcel) = true)
    (a_law_deed : PySem.W.nsIn K mainGlobals "_law_deed" = some (some (.ref f_law_deed)))
    (l_law_deed : K.lookup f_law_deed = some ⟨oc_law_deed, od_law_deed, .func (PySem.W.fnOf "_law_deed" "_law_deed" (defArgs s_law_deed) (defBody s_law_deed) (defScope s_law_deed) .none kV_law_deed dc_law_deed pm_law_deed an_law_deed cd_law_deed ct_law_deed), sl_law_deed⟩)
    (c_law_deed : PySem.W.codeIn K cd_law_deed "_law_deed" = true)
    (k_law_deed : PySem.W.keepIn K (.ref f_law_deed) = true)
    (a_law_use : PySem.W.nsIn K mainGlobals "_law_use" = some (some (.ref f_law_use)))
    (l_law_use : K.lookup f_law_use = some ⟨oc_law_use, od_law_use, .func (PySem.W.fnOf "_law_use" "_law_use" (defArgs s_law_use) (defBody s_law_use) (defScope s_law_use) .none kV_law_use dc_law_use pm_law_use an_law_use cd_law_use ct_law_use), sl_law_use⟩)
    (c_law_use : PySem.W.codeIn K cd_law_use "_law_use" = true)
    (k_law_use : PySem.W.keepIn K (.ref f_law_use) = true)
    (a_law : PySem.W.nsIn K mainGlobals "law" = some (some (.ref f_law)))
    (l_law : K.lookup f_law = some ⟨oc_law, od_law, .func (PySem.W.fnOf "law" "law" (defArgs s_law) (defBody s_law) (defScope s_law) .none kV_law dc_law pm_law an_law (.ref cL) ct_law), sl_law⟩)
    (c_law : PySem.W.codeIn K (.ref cL) "law" = true)
    (k_law : PySem.W.keepIn K (.ref f_law) = true)
    (z_isinstance : PySem.W.nsIn K mainGlobals "isinstance" = some none)
    (z_bool : PySem.W.nsIn K mainGlobals "bool" = some none)
    (z_int : PySem.W.nsIn K mainGlobals "int" = some none)
    (z_tuple : PySem.W.nsIn K mainGlobals "tuple" = some none)
    (z_len : PySem.W.nsIn K mainGlobals "len" = some none)
    (z_all : PySem.W.nsIn K mainGlobals "all" = some none)
    (z_any : PySem.W.nsIn K mainGlobals "any" = some none)
    (z_min : PySem.W.nsIn K mainGlobals "min" = some none)
    (z_max : PySem.W.nsIn K mainGlobals "max" = some none)
    (z_divmod : PySem.W.nsIn K mainGlobals "divmod" = some none)
    (z_enumerate : PySem.W.nsIn K mainGlobals "enumerate" = some none)
    (z_sorted : PySem.W.nsIn K mainGlobals "sorted" = some none)
    (z_list : PySem.W.nsIn K mainGlobals "list" = some none)
    (z_range : PySem.W.nsIn K mainGlobals "range" = some none)
    (z_abs : PySem.W.nsIn K mainGlobals "abs" = some none)
    (z_str : PySem.W.nsIn K mainGlobals "str" = some none)
    (z_gcd : PySem.W.nsIn K mainGlobals "gcd" = some (some (.builtin "math.gcd")))
    (v_MOST : PySem.W.nsIn K mainGlobals "MOST" = some (some (.int 1000 t_MOST)))
    (v_FULL : PySem.W.nsIn K mainGlobals "FULL" = some (some (.int 64 t_FULL)))
    (v_HUSHED : PySem.W.nsIn K mainGlobals "HUSHED" = some (some (.str "hushed" t_HUSHED)))
    (v_RISING : PySem.W.nsIn K mainGlobals "RISING" = some (some (.str "rising" t_RISING)))
    (v_ON : PySem.W.nsIn K mainGlobals "ON" = some (some (.str "on" t_ON)))
    (v_FALLING : PySem.W.nsIn K mainGlobals "FALLING" = some (some (.str "falling" t_FALLING)))
    (v_NOTHING : PySem.W.nsIn K mainGlobals "NOTHING" = some (some (.ref aN)))
    (l_NOTHING : K.lookup aN = some ⟨.type "tuple", odN, .seq #[.int 0 tN0, .int 1 tN1] nN, slN⟩)
    (y_code : K.lookup cL = some ⟨.type "code", ddL, .fields vsL, slL⟩)
    (y_11 : vsL[11]? = some (.ref Pt))
    (y_18 : vsL.getD 18 .none = .str fileL tfL)
    (y_7 : vsL.getD 7 .none = .int flL tgL)
    (y_9 : vsL.getD 9 .none = .bool inL)
    (y_10 : vsL.getD 10 .none = .int teL ttL)
    (y_ne : (cL == Pt) = false)
    (y_nT : K.lookup Pt = none) :
    LawAtS l w K CX0 10 63 "_law_script" mg fa h := by
  have e := hfa.symm.trans (PySem.W.mg_of X G a_law)
  cases e
  have B : Blt mg := ⟨PySem.W.mg_none_of X G z_isinstance, PySem.W.mg_none_of X G z_bool, PySem.W.mg_none_of X G z_int, PySem.W.mg_none_of X G z_tuple, PySem.W.mg_none_of X G z_len, PySem.W.mg_none_of X G z_all, PySem.W.mg_none_of X G z_any, PySem.W.mg_none_of X G z_max, PySem.W.mg_none_of X G z_divmod, PySem.W.mg_none_of X G z_enumerate, PySem.W.mg_none_of X G z_sorted, PySem.W.mg_none_of X G z_list, PySem.W.mg_none_of X G z_range, PySem.W.mg_none_of X G z_abs, PySem.W.mg_none_of X G z_str, PySem.W.mg_of X G z_gcd⟩
  have hMOST := PySem.W.mg_of X G v_MOST
  have sqN : ∀ H : Hp, SqT K H aN (frac 0) := fun H => .inr ⟨_, _, _, l_NOTHING, rfl, rfl, by show 2 ≤ sizeLine; decide, .cons ⟨_, rfl⟩ (.cons ⟨_, rfl⟩ .nil)⟩
  have TT : TC K mg := ⟨⟨_, PySem.W.mg_of X G v_NOTHING, sqN⟩, ⟨_, PySem.W.mg_of X G v_MOST⟩, ⟨_, PySem.W.mg_of X G v_FULL⟩, ⟨_, PySem.W.mg_of X G v_HUSHED⟩, ⟨_, PySem.W.mg_of X G v_RISING⟩, ⟨_, PySem.W.mg_of X G v_ON⟩, ⟨_, PySem.W.mg_of X G v_FALLING⟩⟩
  obtain ⟨cs, hcs⟩ : ∃ cs : Cs, cs = ⟨cs_L, cs_D, cs_V, cs_M⟩ := ⟨_, rfl⟩
  have eL : cs_L = cs.L := by rw [hcs]
  have eD : cs_D = cs.D := by rw [hcs]
  have eV : cs_V = cs.V := by rw [hcs]
  have eM : cs_M = cs.M := by rw [hcs]
  clear hcs
  subst eL eD eV eM
  have C_L : Cls K cs.L := ⟨pg_L, hd_L, po_L, sa_L⟩
  have T_L : TL K cs.L := ⟨C_L, nL1, nL2, nL3, nL4, nL5⟩
  have C_D : Cls K cs.D := ⟨pg_D, hd_D, po_D, sa_D⟩
  have T_D : TD K cs.D := ⟨C_D, nD1, nD2, nD3⟩
  have C_V : Cls K cs.V := ⟨pg_V, hd_V, po_V, sa_V⟩
  have T_V : TV K cs.V := ⟨C_V, nV1, nV2, nV3, nV4, nV5, nV6, nV7⟩
  have C_M : Cls K cs.M := ⟨pg_M, hd_M, po_M, sa_M⟩
  have T_M : TM K cs.M := ⟨C_M, nM1, nM2, nM3, nM4⟩
  have F_is_whole := fun_mk (st := s_is_whole) l_is_whole c_is_whole k_is_whole
  have b_is_whole := F_is_whole.binds (ps := ["number", "low", "high"]) fun _ _ _ _ _ _ us hl => match us, hl with | [_, _, _], _ => rfl
  have F_check_soft := fun_mk (st := s_check_soft) l_check_soft c_check_soft k_check_soft
  have b_check_soft := F_check_soft.binds (ps := ["soft"]) fun _ _ _ _ _ _ us hl => match us, hl with | [_], _ => rfl
  have F_check_name := fun_mk (st := s_check_name) l_check_name c_check_name k_check_name
  have b_check_name := F_check_name.binds (ps := ["name"]) fun _ _ _ _ _ _ us hl => match us, hl with | [_], _ => rfl
  have F_check_pace := fun_mk (st := s_check_pace) l_check_pace c_check_pace k_check_pace
  have b_check_pace := F_check_pace.binds (ps := ["pace"]) fun _ _ _ _ _ _ us hl => match us, hl with | [_], _ => rfl
  have F_check_wait := fun_mk (st := s_check_wait) l_check_wait c_check_wait k_check_wait
  have b_check_wait := F_check_wait.binds (ps := ["wait"]) fun _ _ _ _ _ _ us hl => match us, hl with | [_], _ => rfl
  have F_check_loudness := fun_mk (st := s_check_loudness) l_check_loudness c_check_loudness k_check_loudness
  have b_check_loudness := F_check_loudness.binds (ps := ["loudness"]) fun _ _ _ _ _ _ us hl => match us, hl with | [_], _ => rfl
  have F_ratio := fun_mk (st := s_ratio) l_ratio c_ratio k_ratio
  have b_ratio := F_ratio.binds (ps := ["top", "bottom"]) fun _ _ _ _ _ _ us hl => match us, hl with | [_, _], _ => rfl
  have F_plus := fun_mk (st := s_plus) l_plus c_plus k_plus
  have b_plus := F_plus.binds (ps := ["one", "other"]) fun _ _ _ _ _ _ us hl => match us, hl with | [_, _], _ => rfl
  have F_minus := fun_mk (st := s_minus) l_minus c_minus k_minus
  have b_minus := F_minus.binds (ps := ["one", "other"]) fun _ _ _ _ _ _ us hl => match us, hl with | [_, _], _ => rfl
  have F_times := fun_mk (st := s_times) l_times c_times k_times
  have b_times := F_times.binds (ps := ["one", "other"]) fun _ _ _ _ _ _ us hl => match us, hl with | [_, _], _ => rfl
  have F_Line_init := fun_mk (st := s_Line_init) l_Line_init c_Line_init k_Line_init
  have b_Line_init := F_Line_init.binds (ps := ["self", "pace", "begin"]) fun _ _ _ _ _ _ us hl => match us, hl with | [_, _, _], _ => rfl
  have F_Line_room := fun_mk (st := s_Line_room) l_Line_room c_Line_room k_Line_room
  have b_Line_room := F_Line_room.binds (ps := ["self"]) fun _ _ _ _ _ _ us hl => match us, hl with | [_], _ => rfl
  have F_Line_begun := fun_mk (st := s_Line_begun) l_Line_begun c_Line_begun k_Line_begun
  have b_Line_begun := F_Line_begun.binds (ps := ["self", "beat"]) fun _ _ _ _ _ _ us hl => match us, hl with | [_, _], _ => rfl
  have F_spot := fun_mk (st := s_spot) l_spot c_spot k_spot
  have b_spot := F_spot.binds (ps := ["pace", "passed"]) fun _ _ _ _ _ _ us hl => match us, hl with | [_, _], _ => rfl
  have F_wanted := fun_mk (st := s_wanted) l_wanted c_wanted k_wanted
  have b_wanted := F_wanted.binds (ps := ["pace", "passed"]) fun _ _ _ _ _ _ us hl => match us, hl with | [_, _], _ => rfl
  have F_Line_wants := fun_mk (st := s_Line_wants) l_Line_wants c_Line_wants k_Line_wants
  have b_Line_wants := F_Line_wants.binds (ps := ["self", "beat"]) fun _ _ _ _ _ _ us hl => match us, hl with | [_, _], _ => rfl
  have F_Line_over := fun_mk (st := s_Line_over) l_Line_over c_Line_over k_Line_over
  have b_Line_over := F_Line_over.binds (ps := ["self", "beat"]) fun _ _ _ _ _ _ us hl => match us, hl with | [_, _], _ => rfl
  have F_Line_lacks := fun_mk (st := s_Line_lacks) l_Line_lacks c_Line_lacks k_Line_lacks
  have b_Line_lacks := F_Line_lacks.binds (ps := ["self", "beat"]) fun _ _ _ _ _ _ us hl => match us, hl with | [_, _], _ => rfl
  have F_Line_ready := fun_mk (st := s_Line_ready) l_Line_ready c_Line_ready k_Line_ready
  have b_Line_ready := F_Line_ready.binds (ps := ["self", "beat"]) fun _ _ _ _ _ _ us hl => match us, hl with | [_, _], _ => rfl
  have F_Line_value := fun_mk (st := s_Line_value) l_Line_value c_Line_value k_Line_value
  have b_Line_value := F_Line_value.binds (ps := ["self", "beat"]) fun _ _ _ _ _ _ us hl => match us, hl with | [_, _], _ => rfl
  have F_Line_take := fun_mk (st := s_Line_take) l_Line_take c_Line_take k_Line_take
  have b_Line_take := F_Line_take.binds (ps := ["self", "place", "numbers"]) fun _ _ _ _ _ _ us hl => match us, hl with | [_, _, _], _ => rfl
  have F_Line_close := fun_mk (st := s_Line_close) l_Line_close c_Line_close k_Line_close
  have b_Line_close := F_Line_close.binds (ps := ["self", "many"]) fun _ _ _ _ _ _ us hl => match us, hl with | [_, _], _ => rfl
  have F_Loudness_init := fun_mk (st := s_Loudness_init) l_Loudness_init c_Loudness_init k_Loudness_init
  have b_Loudness_init := F_Loudness_init.binds (ps := ["self", "loudness"]) fun _ _ _ _ _ _ us hl => match us, hl with | [_, _], _ => rfl
  have F_Loudness_lead_on := fun_mk (st := s_Loudness_lead_on) l_Loudness_lead_on c_Loudness_lead_on k_Loudness_lead_on
  have b_Loudness_lead_on := F_Loudness_lead_on.binds (ps := ["self"]) fun _ _ _ _ _ _ us hl => match us, hl with | [_], _ => rfl
  have F_Loudness_lead_to := fun_mk (st := s_Loudness_lead_to) l_Loudness_lead_to c_Loudness_lead_to k_Loudness_lead_to
  have b_Loudness_lead_to := F_Loudness_lead_to.binds (ps := ["self", "loudness", "beats"]) fun _ _ _ _ _ _ us hl => match us, hl with | [_, _, _], _ => rfl
  have F_check_lead := fun_mk (st := s_check_lead) l_check_lead c_check_lead k_check_lead
  have b_check_lead := F_check_lead.binds (ps := ["loudness", "beats"]) fun _ _ _ _ _ _ us hl => match us, hl with | [_, _], _ => rfl
  have F_Voice_fall := fun_mk (st := s_Voice_fall) l_Voice_fall c_Voice_fall k_Voice_fall
  have b_Voice_fall := F_Voice_fall.binds (ps := ["self", "soft"]) fun _ _ _ _ _ _ us hl => match us, hl with | [_, _], _ => rfl
  have F_Voice_rise := fun_mk (st := s_Voice_rise) l_Voice_rise c_Voice_rise k_Voice_rise
  have b_Voice_rise := F_Voice_rise.binds (ps := ["self", "whole", "soft"]) fun _ _ _ _ _ _ us hl => match us, hl with | [_, _, _], _ => rfl
  have F_Voice_begin_fall := fun_mk (st := s_Voice_begin_fall) l_Voice_begin_fall c_Voice_begin_fall k_Voice_begin_fall
  have b_Voice_begin_fall := F_Voice_begin_fall.binds (ps := ["self", "soft"]) fun _ _ _ _ _ _ us hl => match us, hl with | [_, _], _ => rfl
  have F_Voice_sound := fun_mk (st := s_Voice_sound) l_Voice_sound c_Voice_sound k_Voice_sound
  have b_Voice_sound := F_Voice_sound.binds (ps := ["self", "whole", "soft"]) fun _ _ _ _ _ _ us hl => match us, hl with | [_, _, _], _ => rfl
  have F_Voice_init := fun_mk (st := s_Voice_init) l_Voice_init c_Voice_init k_Voice_init
  have b_Voice_init := F_Voice_init.binds (ps := ["self", "pace", "begin", "loudness"]) fun _ _ _ _ _ _ us hl => match us, hl with | [_, _, _, _], _ => rfl
  have F_Voice_give := fun_mk (st := s_Voice_give) l_Voice_give c_Voice_give k_Voice_give
  have b_Voice_give := F_Voice_give.binds (ps := ["self", "beat", "soft"]) fun _ _ _ _ _ _ us hl => match us, hl with | [_, _, _], _ => rfl
  have F_Mixer_init := fun_mk (st := s_Mixer_init) l_Mixer_init c_Mixer_init k_Mixer_init
  have b_Mixer_init := F_Mixer_init.binds (ps := ["self", "soft"]) fun _ _ _ _ _ _ us hl => match us, hl with | [_, _], _ => rfl
  have F_Mixer_voice_of := fun_mk (st := s_Mixer_voice_of) l_Mixer_voice_of c_Mixer_voice_of k_Mixer_voice_of
  have b_Mixer_voice_of := F_Mixer_voice_of.binds (ps := ["self", "name"]) fun _ _ _ _ _ _ us hl => match us, hl with | [_, _], _ => rfl
  have F_Mixer_add := fun_mk (st := s_Mixer_add) l_Mixer_add c_Mixer_add k_Mixer_add
  have b_Mixer_add := F_Mixer_add.binds (ps := ["self", "name", "pace", "wait", "loudness"]) fun _ _ _ _ _ _ us hl => match us, hl with | [_, _, _, _, _], _ => rfl
  have F_Mixer_parcel := fun_mk (st := s_Mixer_parcel) l_Mixer_parcel c_Mixer_parcel k_Mixer_parcel
  have b_Mixer_parcel := F_Mixer_parcel.binds (ps := ["self", "name", "place", "numbers"]) fun _ _ _ _ _ _ us hl => match us, hl with | [_, _, _, _], _ => rfl
  have F_Mixer_end := fun_mk (st := s_Mixer_end) l_Mixer_end c_Mixer_end k_Mixer_end
  have b_Mixer_end := F_Mixer_end.binds (ps := ["self", "name", "many"]) fun _ _ _ _ _ _ us hl => match us, hl with | [_, _, _], _ => rfl
  have F_Mixer_beat := fun_mk (st := s_Mixer_beat) l_Mixer_beat c_Mixer_beat k_Mixer_beat
  have b_Mixer_beat := F_Mixer_beat.binds (ps := ["self"]) fun _ _ _ _ _ _ us hl => match us, hl with | [_], _ => rfl
  have F_Mixer_lead := fun_mk (st := s_Mixer_lead) l_Mixer_lead c_Mixer_lead k_Mixer_lead
  have b_Mixer_lead := F_Mixer_lead.binds (ps := ["self", "name", "loudness", "beats"]) fun _ _ _ _ _ _ us hl => match us, hl with | [_, _, _, _], _ => rfl
  have F_Mixer_now := fun_mk (st := s_Mixer_now) l_Mixer_now c_Mixer_now k_Mixer_now
  have b_Mixer_now := F_Mixer_now.binds (ps := ["self"]) fun _ _ _ _ _ _ us hl => match us, hl with | [_], _ => rfl
  have F_Mixer_missed := fun_mk (st := s_Mixer_missed) l_Mixer_missed c_Mixer_missed k_Mixer_missed
  have b_Mixer_missed := F_Mixer_missed.binds (ps := ["self"]) fun _ _ _ _ _ _ us hl => match us, hl with | [_], _ => rfl
  have F_Mixer_state_of := fun_mk (st := s_Mixer_state_of) l_Mixer_state_of c_Mixer_state_of k_Mixer_state_of
  have b_Mixer_state_of := F_Mixer_state_of.binds (ps := ["self", "name"]) fun _ _ _ _ _ _ us hl => match us, hl with | [_, _], _ => rfl
  have F_Mixer_states := fun_mk (st := s_Mixer_states) l_Mixer_states c_Mixer_states k_Mixer_states
  have b_Mixer_states := F_Mixer_states.binds (ps := ["self"]) fun _ _ _ _ _ _ us hl => match us, hl with | [_], _ => rfl
  have F_Mixer_hush := fun_mk (st := s_Mixer_hush) l_Mixer_hush c_Mixer_hush k_Mixer_hush
  have b_Mixer_hush := F_Mixer_hush.binds (ps := ["self", "name"]) fun _ _ _ _ _ _ us hl => match us, hl with | [_, _], _ => rfl
  have F_Mixer_wake := fun_mk (st := s_Mixer_wake) l_Mixer_wake c_Mixer_wake k_Mixer_wake
  have b_Mixer_wake := F_Mixer_wake.binds (ps := ["self", "name"]) fun _ _ _ _ _ _ us hl => match us, hl with | [_, _], _ => rfl
  have F_law_taken := fun_mk (st := s_law_taken) l_law_taken c_law_taken k_law_taken
  have b_law_taken := F_law_taken.binds (ps := ["_law_row", "_law_many"]) fun _ _ _ _ _ _ us hl => match us, hl with | [_, _], _ => rfl
  have F_law_share := fun_mk (st := s_law_share) l_law_share c_law_share k_law_share
  have b_law_share := F_law_share.binds (ps := ["_law_top", "_law_bottom"]) fun _ _ _ _ _ _ us hl => match us, hl with | [_, _], _ => rfl
  have F_law_plus := fun_mk (st := s_law_plus) l_law_plus c_law_plus k_law_plus
  have b_law_plus := F_law_plus.binds (ps := ["_law_one", "_law_other"]) fun _ _ _ _ _ _ us hl => match us, hl with | [_, _], _ => rfl
  have F_law_times := fun_mk (st := s_law_times) l_law_times c_law_times k_law_times
  have b_law_times := F_law_times.binds (ps := ["_law_one", "_law_top", "_law_bottom"]) fun _ _ _ _ _ _ us hl => match us, hl with | [_, _, _], _ => rfl
  have F_law_number := fun_mk (st := s_law_number) l_law_number c_law_number k_law_number
  have b_law_number := F_law_number.binds (ps := ["_law_row"]) fun _ _ _ _ _ _ us hl => match us, hl with | [_], _ => rfl
  have F_law_pace := fun_mk (st := s_law_pace) l_law_pace c_law_pace k_law_pace
  have b_law_pace := F_law_pace.binds (ps := ["_law_row"]) fun _ _ _ _ _ _ us hl => match us, hl with | [_], _ => rfl
  have F_law_loud := fun_mk (st := s_law_loud) l_law_loud c_law_loud k_law_loud
  have b_law_loud := F_law_loud.binds (ps := ["_law_row"]) fun _ _ _ _ _ _ us hl => match us, hl with | [_], _ => rfl
  have F_law_places := fun_mk (st := s_law_places) l_law_places c_law_places k_law_places
  have b_law_places := F_law_places.binds (ps := ["_law_v", "_law_beat_here"]) fun _ _ _ _ _ _ us hl => match us, hl with | [_, _], _ => rfl
  have F_law_is_over := fun_mk (st := s_law_is_over) l_law_is_over c_law_is_over k_law_is_over
  have b_law_is_over := F_law_is_over.binds (ps := ["_law_v", "_law_beat_here"]) fun _ _ _ _ _ _ us hl => match us, hl with | [_, _], _ => rfl
  have F_law_lacks := fun_mk (st := s_law_lacks) l_law_lacks c_law_lacks k_law_lacks
  have b_law_lacks := F_law_lacks.binds (ps := ["_law_v", "_law_beat_here"]) fun _ _ _ _ _ _ us hl => match us, hl with | [_, _], _ => rfl
  have F_law_alike := fun_mk (st := s_law_alike) l_law_alike c_law_alike k_law_alike
  have b_law_alike := F_law_alike.binds (ps := ["_law_found", "_law_due"]) fun _ _ _ _ _ _ us hl => match us, hl with | [_, _], _ => rfl
  have F_law_value := fun_mk (st := s_law_value) l_law_value c_law_value k_law_value
  have b_law_value := F_law_value.binds (ps := ["_law_v", "_law_beat_here"]) fun _ _ _ _ _ _ us hl => match us, hl with | [_, _], _ => rfl
  have F_law_may := fun_mk (st := s_law_may) l_law_may c_law_may k_law_may
  have b_law_may := F_law_may.binds (ps := ["_law_v", "_law_beat_here"]) fun _ _ _ _ _ _ us hl => match us, hl with | [_, _], _ => rfl
  have F_law_led := fun_mk (st := s_law_led) l_law_led c_law_led k_law_led
  have b_law_led := F_law_led.binds (ps := ["_law_v"]) fun _ _ _ _ _ _ us hl => match us, hl with | [_], _ => rfl
  have F_law_sound := fun_mk (st := s_law_sound) l_law_sound c_law_sound k_law_sound
  have b_law_sound := F_law_sound.binds (ps := ["_law_v", "_law_beat_here", "_law_soft"]) fun _ _ _ _ _ _ us hl => match us, hl with | [_, _, _], _ => rfl
  have F_law_mixer := fun_mk (st := s_law_mixer) l_law_mixer c_law_mixer k_law_mixer
  have b_law_mixer := F_law_mixer.binds (ps := ["_law_soft"]) fun _ _ _ _ _ _ us hl => match us, hl with | [_], _ => rfl
  have F_law_beat := fun_mk (st := s_law_beat) l_law_beat c_law_beat k_law_beat
  have b_law_beat := F_law_beat.binds (ps := ["_law_m"]) fun _ _ _ _ _ _ us hl => match us, hl with | [_], _ => rfl
  have F_law_do := fun_mk (st := s_law_do) l_law_do c_law_do k_law_do
  have b_law_do := F_law_do.binds (ps := ["_law_m", "_law_deed_here"]) fun _ _ _ _ _ _ us hl => match us, hl with | [_, _], _ => rfl
  have F_law_added := fun_mk (st := s_law_added) l_law_added c_law_added k_law_added
  have b_law_added := F_law_added.binds (ps := ["_law_row", "_law_m"]) fun _ _ _ _ _ _ us hl => match us, hl with | [_, _], _ => rfl
  have F_law_parcel := fun_mk (st := s_law_parcel) l_law_parcel c_law_parcel k_law_parcel
  have b_law_parcel := F_law_parcel.binds (ps := ["_law_row", "_law_m", "_law_name"]) fun _ _ _ _ _ _ us hl => match us, hl with | [_, _, _], _ => rfl
  have F_law_deed := fun_mk (st := s_law_deed) l_law_deed c_law_deed k_law_deed
  have b_law_deed := F_law_deed.binds (ps := ["_law_row", "_law_m"]) fun _ _ _ _ _ _ us hl => match us, hl with | [_, _], _ => rfl
  have F_law_use := fun_mk (st := s_law_use) l_law_use c_law_use k_law_use
  have b_law_use := F_law_use.binds (ps := ["_law_mixer_here", "_law_deed_here"]) fun _ _ _ _ _ _ us hl => match us, hl with | [_, _], _ => rfl
  have hne : cL ≠ Pt := fun z => by
    rw [z] at y_ne
    simp at y_ne
  have y_11' : vsL.getD 11 .none = .ref Pt := by rw [Array.getD_eq_getD_getElem?, y_11]; rfl
  refine ⟨PySem.W.fnOf "law" "law" (defArgs s_law) (defBody s_law) (defScope s_law) .none kV_law dc_law pm_law an_law (.ref cL) ct_law, [(cL, Pt)], sp_law K Pt, fun p hp => ?_, fun p hp => ?_, fun p hp => ?_, fun s v => .of_eq rfl, fun H a ns hl _ hT hS => ⟨a, ns, rfl, hS, hl, fun p hp => ?_, fun _ => rfl⟩, fun base _ _ hTB => ?_⟩
  · rw [List.mem_singleton.mp hp]
    exact OT _ _ _ _ _ _ _ _ l_law rfl rfl y_code y_11
  · rw [List.mem_singleton.mp hp]
    exact y_nT
  · rw [List.mem_singleton.mp hp]
    exact ⟨_, vsL, fileL, tfL, flL, tgL, inL, teL, ttL, X _ _ y_code, rfl, rfl, y_11, y_11', y_18, y_7, y_9, y_10, hne⟩
  · rw [List.mem_singleton.mp hp]
    exact TabS.nil (hT (cL, Pt) List.mem_cons_self)
  have G_is_whole : OwnF l.prog w K mg base "is_whole" 1 ["number", "low", "high"] sp_is_whole := ⟨_, _, ok_is_whole F_is_whole B, PySem.W.mg_of X G a_is_whole, k_is_whole, b_is_whole⟩
  have G_check_soft : OwnF l.prog w K mg base "check_soft" 2 ["soft"] (sp_in 1 16) := ⟨_, _, ok_check_soft F_check_soft G_is_whole, PySem.W.mg_of X G a_check_soft, k_check_soft, b_check_soft⟩
  have G_check_name : OwnF l.prog w K mg base "check_name" 2 ["name"] (sp_in 0 5) := ⟨_, _, ok_check_name F_check_name G_is_whole, PySem.W.mg_of X G a_check_name, k_check_name, b_check_name⟩
  have G_check_pace : OwnF l.prog w K mg base "check_pace" 2 ["pace"] sp_check_pace := ⟨_, _, ok_check_pace F_check_pace B G_is_whole, PySem.W.mg_of X G a_check_pace, k_check_pace, b_check_pace⟩
  have G_check_wait : OwnF l.prog w K mg base "check_wait" 2 ["wait"] (sp_in 0 64) := ⟨_, _, ok_check_wait F_check_wait G_is_whole, PySem.W.mg_of X G a_check_wait, k_check_wait, b_check_wait⟩
  have G_check_loudness : OwnF l.prog w K mg base "check_loudness" 2 ["loudness"] (sp_in 0 64) := ⟨_, _, ok_check_loudness F_check_loudness G_is_whole, PySem.W.mg_of X G a_check_loudness, k_check_loudness, b_check_loudness⟩
  have G_ratio : OwnF l.prog w K mg base "ratio" 1 ["top", "bottom"] sp_ratio := ⟨_, _, ok_ratio F_ratio B, PySem.W.mg_of X G a_ratio, k_ratio, b_ratio⟩
  have G_plus : OwnF l.prog w K mg base "plus" 2 ["one", "other"] (sp_two (· + ·) K) := ⟨_, _, ok_plus F_plus G_ratio, PySem.W.mg_of X G a_plus, k_plus, b_plus⟩
  have G_minus : OwnF l.prog w K mg base "minus" 2 ["one", "other"] (sp_two (· - ·) K) := ⟨_, _, ok_minus F_minus G_ratio, PySem.W.mg_of X G a_minus, k_minus, b_minus⟩
  have G_times : OwnF l.prog w K mg base "times" 2 ["one", "other"] (sp_two (· * ·) K) := ⟨_, _, ok_times F_times G_ratio, PySem.W.mg_of X G a_times, k_times, b_times⟩
  have G_Line_init : OwnC l.prog w K mg base cs.L "Line" 1 ["self", "pace", "begin"] (sp_Line_init K cs.L) := ⟨_, _, ok_Line_init F_Line_init T_L, PySem.W.mg_of X G aC_L, ⟨mk_L, a_Line_init, i_Line_init, kc_L⟩, b_Line_init⟩
  have G_Line_room : OwnM l.prog w K mg base cs.L "room" 1 ["self"] (sp_Line_room cs.L) := ⟨_, _, ok_Line_room F_Line_room T_L hMOST, C_L, ⟨a_Line_room, i_Line_room, k_Line_room⟩, b_Line_room⟩
  have G_Line_begun : OwnM l.prog w K mg base cs.L "begun" 1 ["self", "beat"] (sp_Line_begun cs.L) := ⟨_, _, ok_Line_begun F_Line_begun T_L, C_L, ⟨a_Line_begun, i_Line_begun, k_Line_begun⟩, b_Line_begun⟩
  have G_spot : OwnF l.prog w K mg base "spot" 1 ["pace", "passed"] sp_spot := ⟨_, _, ok_spot F_spot B, PySem.W.mg_of X G a_spot, k_spot, b_spot⟩
  have G_wanted : OwnF l.prog w K mg base "wanted" 2 ["pace", "passed"] sp_wanted := ⟨_, _, ok_wanted F_wanted G_spot, PySem.W.mg_of X G a_wanted, k_wanted, b_wanted⟩
  have G_Line_wants : OwnM l.prog w K mg base cs.L "wants" 3 ["self", "beat"] (sp_Line_wanted cs.L) := ⟨_, _, ok_Line_wants F_Line_wants T_L G_wanted, C_L, ⟨a_Line_wants, i_Line_wants, k_Line_wants⟩, b_Line_wants⟩
  have G_Line_over : OwnM l.prog w K mg base cs.L "over" 4 ["self", "beat"] (sp_Line_bool cs.L LineS.over) := ⟨_, _, ok_Line_over F_Line_over T_L G_Line_wants, C_L, ⟨a_Line_over, i_Line_over, k_Line_over⟩, b_Line_over⟩
  have G_Line_lacks : OwnM l.prog w K mg base cs.L "lacks" 5 ["self", "beat"] (sp_Line_bool cs.L LineS.lacks) := ⟨_, _, ok_Line_lacks F_Line_lacks T_L B G_Line_begun G_Line_over G_Line_wants, C_L, ⟨a_Line_lacks, i_Line_lacks, k_Line_lacks⟩, b_Line_lacks⟩
  have G_Line_ready : OwnM l.prog w K mg base cs.L "ready" 6 ["self", "beat"] (sp_Line_bool cs.L LineS.ready) := ⟨_, _, ok_Line_ready F_Line_ready G_Line_begun G_Line_over G_Line_lacks, C_L, ⟨a_Line_ready, i_Line_ready, k_Line_ready⟩, b_Line_ready⟩
  have G_Line_value : OwnM l.prog w K mg base cs.L "value" 2 ["self", "beat"] (sp_Line_value cs.L) := ⟨_, _, ok_Line_value F_Line_value T_L G_spot G_ratio, C_L, ⟨a_Line_value, i_Line_value, k_Line_value⟩, b_Line_value⟩
  have G_Line_take : OwnM l.prog w K mg base cs.L "take" 2 ["self", "place", "numbers"] (sp_Line_take K cs.L) := ⟨_, _, ok_Line_take F_Line_take T_L B hMOST G_is_whole G_Line_room, C_L, ⟨a_Line_take, i_Line_take, k_Line_take⟩, b_Line_take⟩
  have G_Line_close : OwnM l.prog w K mg base cs.L "close" 2 ["self", "many"] (sp_Line_close cs.L) := ⟨_, _, ok_Line_close F_Line_close T_L TT G_is_whole, C_L, ⟨a_Line_close, i_Line_close, k_Line_close⟩, b_Line_close⟩
  have G_Loudness_init : OwnC l.prog w K mg base cs.D "Loudness" 2 ["self", "loudness"] (sp_Loudness_init K cs.D) := ⟨_, _, ok_Loudness_init F_Loudness_init T_D TT G_ratio, PySem.W.mg_of X G aC_D, ⟨mk_D, a_Loudness_init, i_Loudness_init, kc_D⟩, b_Loudness_init⟩
  have G_Loudness_lead_on : OwnM l.prog w K mg base cs.D "lead_on" 3 ["self"] (sp_Loudness_lead_on K cs.D) := ⟨_, _, ok_Loudness_lead_on F_Loudness_lead_on T_D G_plus, C_D, ⟨a_Loudness_lead_on, i_Loudness_lead_on, k_Loudness_lead_on⟩, b_Loudness_lead_on⟩
  have G_Loudness_lead_to : OwnM l.prog w K mg base cs.D "lead_to" 3 ["self", "loudness", "beats"] (sp_Loudness_lead_to K cs.D) := ⟨_, _, ok_Loudness_lead_to F_Loudness_lead_to T_D TT G_ratio G_minus G_times, C_D, ⟨a_Loudness_lead_to, i_Loudness_lead_to, k_Loudness_lead_to⟩, b_Loudness_lead_to⟩
  have G_check_lead : OwnF l.prog w K mg base "check_lead" 3 ["loudness", "beats"] sp_check_lead := ⟨_, _, ok_check_lead F_check_lead G_check_loudness G_is_whole, PySem.W.mg_of X G a_check_lead, k_check_lead, b_check_lead⟩
  have G_Voice_fall : OwnM l.prog w K mg base cs.V "fall" 3 ["self", "soft"] (sp_Voice_fall K cs.V) := ⟨_, _, ok_Voice_fall F_Voice_fall T_V TT G_ratio G_times, C_V, ⟨a_Voice_fall, i_Voice_fall, k_Voice_fall⟩, b_Voice_fall⟩
  have G_Voice_rise : OwnM l.prog w K mg base cs.V "rise" 3 ["self", "whole", "soft"] (sp_Voice_rise K cs.V) := ⟨_, _, ok_Voice_rise F_Voice_rise T_V TT G_ratio G_times, C_V, ⟨a_Voice_rise, i_Voice_rise, k_Voice_rise⟩, b_Voice_rise⟩
  have G_Voice_begin_fall : OwnM l.prog w K mg base cs.V "begin_fall" 4 ["self", "soft"] (sp_Voice_begin_fall K cs.V) := ⟨_, _, ok_Voice_begin_fall F_Voice_begin_fall T_V TT G_Voice_fall, C_V, ⟨a_Voice_begin_fall, i_Voice_begin_fall, k_Voice_begin_fall⟩, b_Voice_begin_fall⟩
  have G_Voice_sound : OwnM l.prog w K mg base cs.V "sound" 4 ["self", "whole", "soft"] (sp_Voice_sound K cs.V) := ⟨_, _, ok_Voice_sound F_Voice_sound T_V TT G_Voice_rise, C_V, ⟨a_Voice_sound, i_Voice_sound, k_Voice_sound⟩, b_Voice_sound⟩
  have G_Voice_init : OwnC l.prog w K mg base cs.V "Voice" 4 ["self", "pace", "begin", "loudness"] (sp_Voice_init K cs) := ⟨_, _, ok_Voice_init F_Voice_init T_V TT G_Line_init G_Loudness_init, PySem.W.mg_of X G aC_V, ⟨mk_V, a_Voice_init, i_Voice_init, kc_V⟩, b_Voice_init⟩
  have G_Voice_give : OwnM l.prog w K mg base cs.V "give" 7 ["self", "beat", "soft"] (sp_Voice_give K cs) := ⟨_, _, ok_Voice_give F_Voice_give T_V T_D TT G_Loudness_lead_on G_Line_ready G_Voice_fall G_Line_value G_Voice_sound G_Voice_begin_fall G_times, C_V, ⟨a_Voice_give, i_Voice_give, k_Voice_give⟩, b_Voice_give⟩
  have G_Mixer_init : OwnC l.prog w K mg base cs.M "Mixer" 3 ["self", "soft"] (sp_Mixer_init K cs) := ⟨_, _, ok_Mixer_init F_Mixer_init T_M G_check_soft, PySem.W.mg_of X G aC_M, ⟨mk_M, a_Mixer_init, i_Mixer_init, kc_M⟩, b_Mixer_init⟩
  have G_Mixer_voice_of : OwnM l.prog w K mg base cs.M "voice_of" 3 ["self", "name"] (sp_Mixer_voice_of K cs) := ⟨_, _, ok_Mixer_voice_of F_Mixer_voice_of T_M G_check_name, C_M, ⟨a_Mixer_voice_of, i_Mixer_voice_of, k_Mixer_voice_of⟩, b_Mixer_voice_of⟩
  have G_Mixer_add : OwnM l.prog w K mg base cs.M "add" 6 ["self", "name", "pace", "wait", "loudness"] (sp_Mixer_add K cs) := ⟨_, _, ok_Mixer_add F_Mixer_add T_M G_check_name G_check_pace G_check_wait G_check_loudness G_Voice_init, C_M, ⟨a_Mixer_add, i_Mixer_add, k_Mixer_add⟩, b_Mixer_add⟩
  have G_Mixer_parcel : OwnM l.prog w K mg base cs.M "parcel" 4 ["self", "name", "place", "numbers"] (sp_Mixer_parcel K cs) := ⟨_, _, ok_Mixer_parcel F_Mixer_parcel T_V G_Mixer_voice_of G_Line_take, C_M, ⟨a_Mixer_parcel, i_Mixer_parcel, k_Mixer_parcel⟩, b_Mixer_parcel⟩
  have G_Mixer_end : OwnM l.prog w K mg base cs.M "end" 4 ["self", "name", "many"] (sp_Mixer_end K cs) := ⟨_, _, ok_Mixer_end F_Mixer_end T_V G_Mixer_voice_of G_Line_close, C_M, ⟨a_Mixer_end, i_Mixer_end, k_Mixer_end⟩, b_Mixer_end⟩
  have G_Mixer_beat : OwnM l.prog w K mg base cs.M "beat" 8 ["self"] (sp_Mixer_beatV K cs) := ⟨_, _, ok_Mixer_beatV F_Mixer_beat T_M T_V TT B G_Line_lacks G_Voice_give G_plus, C_M, ⟨a_Mixer_beat, i_Mixer_beat, k_Mixer_beat⟩, b_Mixer_beat⟩
  have G_Mixer_lead : OwnM l.prog w K mg base cs.M "lead" 4 ["self", "name", "loudness", "beats"] (sp_Mixer_lead K cs) := ⟨_, _, ok_Mixer_lead F_Mixer_lead T_V G_Mixer_voice_of G_check_lead G_Loudness_lead_to, C_M, ⟨a_Mixer_lead, i_Mixer_lead, k_Mixer_lead⟩, b_Mixer_lead⟩
  have G_Mixer_now : OwnM l.prog w K mg base cs.M "now" 1 ["self"] (sp_Mixer_now K cs) := ⟨_, _, ok_Mixer_now F_Mixer_now T_M, C_M, ⟨a_Mixer_now, i_Mixer_now, k_Mixer_now⟩, b_Mixer_now⟩
  have G_Mixer_missed : OwnM l.prog w K mg base cs.M "missed" 1 ["self"] (sp_Mixer_missed K cs) := ⟨_, _, ok_Mixer_missed F_Mixer_missed T_M B, C_M, ⟨a_Mixer_missed, i_Mixer_missed, k_Mixer_missed⟩, b_Mixer_missed⟩
  have G_Mixer_state_of : OwnM l.prog w K mg base cs.M "state_of" 1 ["self", "name"] (sp_Mixer_state_of K cs) := ⟨_, _, ok_Mixer_state_of F_Mixer_state_of T_M T_V T_D, C_M, ⟨a_Mixer_state_of, i_Mixer_state_of, k_Mixer_state_of⟩, b_Mixer_state_of⟩
  have G_Mixer_states : OwnM l.prog w K mg base cs.M "states" 2 ["self"] (sp_Mixer_states K cs) := ⟨_, _, ok_Mixer_states F_Mixer_states T_M B G_Mixer_state_of, C_M, ⟨a_Mixer_states, i_Mixer_states, k_Mixer_states⟩, b_Mixer_states⟩
  have G_Mixer_hush : OwnM l.prog w K mg base cs.M "hush" 4 ["self", "name"] (sp_Mixer_heard K cs false) := ⟨_, _, ok_Mixer_hush F_Mixer_hush T_V G_Mixer_voice_of, C_M, ⟨a_Mixer_hush, i_Mixer_hush, k_Mixer_hush⟩, b_Mixer_hush⟩
  have G_Mixer_wake : OwnM l.prog w K mg base cs.M "wake" 4 ["self", "name"] (sp_Mixer_heard K cs true) := ⟨_, _, ok_Mixer_wake F_Mixer_wake T_V G_Mixer_voice_of, C_M, ⟨a_Mixer_wake, i_Mixer_wake, k_Mixer_wake⟩, b_Mixer_wake⟩
  have G_law_taken : OwnF l.prog w K mg base "_law_taken" 1 ["_law_row", "_law_many"] (sp_taken K) := ⟨_, _, ok_law_taken F_law_taken B, PySem.W.mg_of X G a_law_taken, k_law_taken, b_law_taken⟩
  have G_law_share : OwnF l.prog w K mg base "_law_share" 1 ["_law_top", "_law_bottom"] sp_ratio := ⟨_, _, ok_law_share F_law_share B, PySem.W.mg_of X G a_law_share, k_law_share, b_law_share⟩
  have G_law_plus : OwnF l.prog w K mg base "_law_plus" 2 ["_law_one", "_law_other"] (sp_two (· + ·) K) := ⟨_, _, ok_law_plus F_law_plus G_law_share, PySem.W.mg_of X G a_law_plus, k_law_plus, b_law_plus⟩
  have G_law_times : OwnF l.prog w K mg base "_law_times" 2 ["_law_one", "_law_top", "_law_bottom"] (sp_timesW K) := ⟨_, _, ok_law_timesW F_law_times G_law_share, PySem.W.mg_of X G a_law_times, k_law_times, b_law_times⟩
  have G_law_number : OwnF l.prog w K mg base "_law_number" 2 ["_law_row"] (sp_drawn K (-999) 999) := ⟨_, _, ok_law_number F_law_number G_law_taken, PySem.W.mg_of X G a_law_number, k_law_number, b_law_number⟩
  have G_law_pace : OwnF l.prog w K mg base "_law_pace" 2 ["_law_row"] (sp_law_pace K) := ⟨_, _, ok_law_pace F_law_pace G_law_taken, PySem.W.mg_of X G a_law_pace, k_law_pace, b_law_pace⟩
  have G_law_loud : OwnF l.prog w K mg base "_law_loud" 2 ["_law_row"] (sp_drawn K 0 64) := ⟨_, _, ok_law_loud F_law_loud G_law_taken, PySem.W.mg_of X G a_law_loud, k_law_loud, b_law_loud⟩
  have G_law_places : OwnF l.prog w K mg base "_law_places" 1 ["_law_v", "_law_beat_here"] sp_own_places := ⟨_, _, ok_law_places F_law_places B, PySem.W.mg_of X G a_law_places, k_law_places, b_law_places⟩
  have G_law_is_over : OwnF l.prog w K mg base "_law_is_over" 2 ["_law_v", "_law_beat_here"] (sp_own_bool LineS.over) := ⟨_, _, ok_law_is_over F_law_is_over B G_law_places, PySem.W.mg_of X G a_law_is_over, k_law_is_over, b_law_is_over⟩
  have G_law_lacks : OwnF l.prog w K mg base "_law_lacks" 3 ["_law_v", "_law_beat_here"] (sp_own_bool LineS.lacks) := ⟨_, _, ok_law_lacks F_law_lacks B G_law_places G_law_is_over, PySem.W.mg_of X G a_law_lacks, k_law_lacks, b_law_lacks⟩
  have G_alikeD : ∀ n, OwnF l.prog w K mg base "_law_alike" (n + 1) ["_law_found", "_law_due"] (sp_eq K n) := fun n => ⟨_, _, ok_alike_deep F_law_alike B (PySem.W.mg_of X G a_law_alike) k_law_alike b_law_alike n, PySem.W.mg_of X G a_law_alike, k_law_alike, b_law_alike⟩
  have G_law_value : OwnF l.prog w K mg base "_law_value" 2 ["_law_v", "_law_beat_here"] (sp_own_value K) := ⟨_, _, ok_law_value F_law_value G_law_places G_law_share, PySem.W.mg_of X G a_law_value, k_law_value, b_law_value⟩
  have G_law_may : OwnF l.prog w K mg base "_law_may" 4 ["_law_v", "_law_beat_here"] (sp_own_may K) := ⟨_, _, ok_law_may F_law_may G_law_is_over G_law_lacks, PySem.W.mg_of X G a_law_may, k_law_may, b_law_may⟩
  have G_law_led : OwnF l.prog w K mg base "_law_led" 3 ["_law_v"] (sp_own_led K) := ⟨_, _, ok_law_led F_law_led G_law_plus G_law_times, PySem.W.mg_of X G a_law_led, k_law_led, b_law_led⟩
  have G_law_sound : OwnF l.prog w K mg base "_law_sound" 5 ["_law_v", "_law_beat_here", "_law_soft"] (sp_own_sound K) := ⟨_, _, ok_law_sound F_law_sound G_law_led G_law_may G_law_times G_law_value, PySem.W.mg_of X G a_law_sound, k_law_sound, b_law_sound⟩
  have G_law_mixer : OwnF l.prog w K mg base "_law_mixer" 1 ["_law_soft"] (sp_own_mixer K) := ⟨_, _, ok_law_mixer F_law_mixer, PySem.W.mg_of X G a_law_mixer, k_law_mixer, b_law_mixer⟩
  have G_law_beat : OwnF l.prog w K mg base "_law_beat" 6 ["_law_m"] (sp_own_beat K) := ⟨_, _, ok_law_beat F_law_beat B G_law_lacks G_law_sound G_law_plus, PySem.W.mg_of X G a_law_beat, k_law_beat, b_law_beat⟩
  have G_law_do : OwnF l.prog w K mg base "_law_do" 7 ["_law_m", "_law_deed_here"] (sp_own_do K) := ⟨_, _, ok_law_do F_law_do B G_law_beat G_law_share, PySem.W.mg_of X G a_law_do, k_law_do, b_law_do⟩
  have G_law_added : OwnF l.prog w K mg base "_law_added" 3 ["_law_row", "_law_m"] (sp_law_added K) := ⟨_, _, ok_law_added F_law_added B G_law_taken G_law_pace G_law_loud, PySem.W.mg_of X G a_law_added, k_law_added, b_law_added⟩
  have G_law_parcel : OwnF l.prog w K mg base "_law_parcel" 3 ["_law_row", "_law_m", "_law_name"] (sp_law_parcel K) := ⟨_, _, ok_law_parcel F_law_parcel B (PySem.W.mg_none_of X G z_min) G_law_taken G_law_number, PySem.W.mg_of X G a_law_parcel, k_law_parcel, b_law_parcel⟩
  have G_law_deed : OwnF l.prog w K mg base "_law_deed" 4 ["_law_row", "_law_m"] (sp_law_deed K) := ⟨_, _, ok_law_deed F_law_deed B (PySem.W.mg_none_of X G z_min) G_law_taken G_law_loud G_law_added G_law_parcel, PySem.W.mg_of X G a_law_deed, k_law_deed, b_law_deed⟩
  have G_law_use : OwnF l.prog w K mg base "_law_use" 9 ["_law_mixer_here", "_law_deed_here"] (sp_law_use K cs) := ⟨_, _, ok_law_use F_law_use B ⟨G_Mixer_add, G_Mixer_parcel, G_Mixer_end, G_Mixer_lead, G_Mixer_hush, G_Mixer_wake, G_Mixer_beat⟩, PySem.W.mg_of X G a_law_use, k_law_use, b_law_use⟩
  have GG : G04 l.prog w K mg base cs := ⟨G_law_taken, G_Mixer_init, G_law_mixer, G_law_deed, G_law_do, G_law_use, G_Mixer_beat, G_law_plus, G_alikeD 2, G_Mixer_missed, G_Mixer_states⟩
  refine fn_of l_law c_law sc_law (fun vs H Q E h => ?_) fun A outer s H vs Q E hr hsp => ?_
  · obtain ⟨a, ns, rfl, _⟩ := h
    rfl
  · obtain ⟨t, ht, hq⟩ := law_body B GG (hTB (cL, Pt) List.mem_cons_self) A outer s H vs Q E hr hsp
    exact ⟨t, ht.nox, hq⟩
theorem walk {l : PySem.W.OpenLaw} {q : Program} {loose : List Str} {XP : (Str → Option Value) → Heap → Prop} {YP : World → Heap → Prop} {d : DefRec} {K : Params → PySem.W.Frag} (hn : l.most = some 63) (hdf : d.params.defaults = []) (hrec : ((PyProof.Rows.recsOf q).any fun e => e.name == d.name) = true)
    (hY : ∀ (w : World) (h : Heap), YP w h → (K w.params).In h)
    (F : ∀ (w : World) (mg : Str → Option Value) (fa : Addr) (h : Heap), (K w.params).In h → h.Ns mainGlobals mg → mg d.name = some (.ref fa) → OwnTab (K w.params) fa h → LawAtS l w (K w.params) CX0 10 63 "_law_script" mg fa h) :
    PySem.W.WalkO q loose XP YP l.row.toRowW d [] (fun f vs => PySem.call f vs) :=
  walk_ofOwn (n := 63) (k := 10) (x := "_law_script") (CX := fun _ => CX0) (K := K) hn (by decide) hdf ⟨rfl, by decide, by decide⟩ hrec hY (fun w mg fa h _ KX G hm OT => F w mg fa h KX G hm OT) fun _ _ _ _ _ z => z
end Mx

open PySem PySem.W PyProof.Rows
set_option maxRecDepth 100000 in
set_option maxHeartbeats 0 in
theorem PySem.Challenge.cw_mixserver_k04_whole_a_mix_is_the_sum_holds : PySem.Challenge.rw_mixserver_k04_whole_a_mix_is_the_sum.Holds := by
  w_on; o_law; k_head; (case hw => w_witness2)
  k_fill
  refine Mx.walk (l := PySem.Challenge.rw_mixserver_k04_whole_a_mix_is_the_sum) rfl rfl (by decide +kernel) (fun w h Y => PySem.W.km_in_of Y) ?F
  case F =>
    intro w mg fa h KX G hmg OT
    refine' Mx.all_mk KX G hmg OT ?aC_L ?pg_L ?hd_L ?po_L ?sa_L ?mk_L ?kc_L ?nL1 ?nL2 ?nL3 ?nL4 ?nL5 ?aC_D ?pg_D ?hd_D ?po_D ?sa_D ?mk_D ?kc_D ?nD1 ?nD2 ?nD3 ?aC_V ?pg_V ?hd_V ?po_V ?sa_V ?mk_V ?kc_V ?nV1 ?nV2 ?nV3 ?nV4 ?nV5 ?nV6 ?nV7 ?aC_M ?pg_M ?hd_M ?po_M ?sa_M ?mk_M ?kc_M ?nM1 ?nM2 ?nM3 ?nM4 ?a_is_whole ?l_is_whole ?c_is_whole ?k_is_whole ?a_check_soft ?l_check_soft ?c_check_soft ?k_check_soft ?a_check_name ?l_check_name ?c_check_name ?k_check_name ?a_check_pace ?l_check_pace ?c_check_pace ?k_check_pace ?a_check_wait ?l_check_wait ?c_check_wait ?k_check_wait ?a_check_loudness ?l_check_loudness ?c_check_loudness ?k_check_loudness ?a_ratio ?l_ratio ?c_ratio ?k_ratio ?a_plus ?l_plus ?c_plus ?k_plus ?a_minus ?l_minus ?c_minus ?k_minus ?a_times ?l_times ?c_times ?k_times ?a_Line_init ?i_Line_init ?l_Line_init ?c_Line_init ?k_Line_init ?a_Line_room ?i_Line_room ?l_Line_room ?c_Line_room ?k_Line_room ?a_Line_begun ?i_Line_begun ?l_Line_begun ?c_Line_begun ?k_Line_begun ?a_spot ?l_spot ?c_spot ?k_spot ?a_wanted ?l_wanted ?c_wanted ?k_wanted ?a_Line_wants ?i_Line_wants ?l_Line_wants ?c_Line_wants ?k_Line_wants ?a_Line_over ?i_Line_over ?l_Line_over ?c_Line_over ?k_Line_over ?a_Line_lacks ?i_Line_lacks ?l_Line_lacks ?c_Line_lacks ?k_Line_lacks ?a_Line_ready ?i_Line_ready ?l_Line_ready ?c_Line_ready ?k_Line_ready ?a_Line_value ?i_Line_value ?l_Line_value ?c_Line_value ?k_Line_value ?a_Line_take ?i_Line_take ?l_Line_take ?c_Line_take ?k_Line_take ?a_Line_close ?i_Line_close ?l_Line_close ?c_Line_close ?k_Line_close ?a_Loudness_init ?i_Loudness_init ?l_Loudness_init ?c_Loudness_init ?k_Loudness_init ?a_Loudness_lead_on ?i_Loudness_lead_on ?l_Loudness_lead_on ?c_Loudness_lead_on ?k_Loudness_lead_on ?a_Loudness_lead_to ?i_Loudness_lead_to ?l_Loudness_lead_to ?c_Loudness_lead_to ?k_Loudness_lead_to ?a_check_lead ?l_check_lead ?c_check_lead ?k_check_lead ?a_Voice_fall ?i_Voice_fall ?l_Voice_fall ?c_Voice_fall ?k_Voice_fall ?a_Voice_rise ?i_Voice_rise ?l_Voice_rise ?c_Voice_rise ?k_Voice_rise ?a_Voice_begin_fall ?i_Voice_begin_fall ?l_Voice_begin_fall ?c_Voice_begin_fall ?k_Voice_begin_fall ?a_Voice_sound ?i_Voice_sound ?l_Voice_sound ?c_Voice_sound ?k_Voice_sound ?a_Voice_init ?i_Voice_init ?l_Voice_init ?c_Voice_init ?k_Voice_init ?a_Voice_give ?i_Voice_give ?l_Voice_give ?c_Voice_give ?k_Voice_give ?a_Mixer_init ?i_Mixer_init ?l_Mixer_init ?c_Mixer_init ?k_Mixer_init ?a_Mixer_voice_of ?i_Mixer_voice_of ?l_Mixer_voice_of ?c_Mixer_voice_of ?k_Mixer_voice_of ?a_Mixer_add ?i_Mixer_add ?l_Mixer_add ?c_Mixer_add ?k_Mixer_add ?a_Mixer_parcel ?i_Mixer_parcel ?l_Mixer_parcel ?c_Mixer_parcel ?k_Mixer_parcel ?a_Mixer_end ?i_Mixer_end ?l_Mixer_end ?c_Mixer_end ?k_Mixer_end ?a_Mixer_beat ?i_Mixer_beat ?l_Mixer_beat ?c_Mixer_beat ?k_Mixer_beat ?a_Mixer_lead ?i_Mixer_lead ?l_Mixer_lead ?c_Mixer_lead ?k_Mixer_lead ?a_Mixer_now ?i_Mixer_now ?l_Mixer_now ?c_Mixer_now ?k_Mixer_now ?a_Mixer_missed ?i_Mixer_missed ?l_Mixer_missed ?c_Mixer_missed ?k_Mixer_missed ?a_Mixer_state_of ?i_Mixer_state_of ?l_Mixer_state_of ?c_Mixer_state_of ?k_Mixer_state_of ?a_Mixer_states ?i_Mixer_states ?l_Mixer_states ?c_Mixer_states ?k_Mixer_states ?a_Mixer_hush ?i_Mixer_hush ?l_Mixer_hush ?c_Mixer_hush ?k_Mixer_hush ?a_Mixer_wake ?i_Mixer_wake ?l_Mixer_wake ?c_Mixer_wake ?k_Mixer_wake ?a_law_taken ?l_law_taken ?c_law_taken ?k_law_taken ?a_law_share ?l_law_share ?c_law_share ?k_law_share ?a_law_plus ?l_law_plus ?c_law_plus ?k_law_plus ?a_law_times ?l_law_times ?c_law_times ?k_law_times ?a_law_number ?l_law_number ?c_law_number ?k_law_number ?a_law_pace ?l_law_pace ?c_law_pace ?k_law_pace ?a_law_loud ?l_law_loud ?c_law_loud ?k_law_loud ?a_law_places ?l_law_places ?c_law_places ?k_law_places ?a_law_is_over ?l_law_is_over ?c_law_is_over ?k_law_is_over ?a_law_lacks ?l_law_lacks ?c_law_lacks ?k_law_lacks ?a_law_alike ?l_law_alike ?c_law_alike ?k_law_alike ?a_law_value ?l_law_value ?c_law_value ?k_law_value ?a_law_may ?l_law_may ?c_law_may ?k_law_may ?a_law_led ?l_law_led ?c_law_led ?k_law_led ?a_law_sound ?l_law_sound ?c_law_sound ?k_law_sound ?a_law_mixer ?l_law_mixer ?c_law_mixer ?k_law_mixer ?a_law_beat ?l_law_beat ?c_law_beat ?k_law_beat ?a_law_do ?l_law_do ?c_law_do ?k_law_do ?a_law_added ?l_law_added ?c_law_added ?k_law_added ?a_law_parcel ?l_law_parcel ?c_law_parcel ?k_law_parcel ?a_law_deed ?l_law_deed ?c_law_deed ?k_law_deed ?a_law_use ?l_law_use ?c_law_use ?k_law_use ?a_law ?l_law ?c_law ?k_law ?z_isinstance ?z_bool ?z_int ?z_tuple ?z_len ?z_all ?z_any ?z_min ?z_max ?z_divmod ?z_enumerate ?z_sorted ?z_list ?z_range ?z_abs ?z_str ?z_gcd ?v_MOST ?v_FULL ?v_HUSHED ?v_RISING ?v_ON ?v_FALLING ?v_NOTHING ?l_NOTHING ?y_code ?y_11 ?y_18 ?y_7 ?y_9 ?y_10 ?y_ne ?y_nT
    (case aC_L => k_is)
    (case pg_L => k_is)
    (case hd_L => k_is)
    (case po_L => k_is)
    (case sa_L => k_is)
    (case mk_L => k_is)
    (case kc_L => k_is)
    (case nL1 => k_is)
    (case nL2 => k_is)
    (case nL3 => k_is)
    (case nL4 => k_is)
    (case nL5 => k_is)
    (case aC_D => k_is)
    (case pg_D => k_is)
    (case hd_D => k_is)
    (case po_D => k_is)
    (case sa_D => k_is)
    (case mk_D => k_is)
    (case kc_D => k_is)
    (case nD1 => k_is)
    (case nD2 => k_is)
    (case nD3 => k_is)
    (case aC_V => k_is)
    (case pg_V => k_is)
    (case hd_V => k_is)
    (case po_V => k_is)
    (case sa_V => k_is)
    (case mk_V => k_is)
    (case kc_V => k_is)
    (case nV1 => k_is)
    (case nV2 => k_is)
    (case nV3 => k_is)
    (case nV4 => k_is)
    (case nV5 => k_is)
    (case nV6 => k_is)
    (case nV7 => k_is)
    (case aC_M => k_is)
    (case pg_M => k_is)
    (case hd_M => k_is)
    (case po_M => k_is)
    (case sa_M => k_is)
    (case mk_M => k_is)
    (case kc_M => k_is)
    (case nM1 => k_is)
    (case nM2 => k_is)
    (case nM3 => k_is)
    (case nM4 => k_is)
    (case a_is_whole => k_is)
    (case l_is_whole => k_is)
    (case c_is_whole => k_is)
    (case k_is_whole => k_is)
    (case a_check_soft => k_is)
    (case l_check_soft => k_is)
    (case c_check_soft => k_is)
    (case k_check_soft => k_is)
    (case a_check_name => k_is)
    (case l_check_name => k_is)
    (case c_check_name => k_is)
    (case k_check_name => k_is)
    (case a_check_pace => k_is)
    (case l_check_pace => k_is)
    (case c_check_pace => k_is)
    (case k_check_pace => k_is)
    (case a_check_wait => k_is)
    (case l_check_wait => k_is)
    (case c_check_wait => k_is)
    (case k_check_wait => k_is)
    (case a_check_loudness => k_is)
    (case l_check_loudness => k_is)
    (case c_check_loudness => k_is)
    (case k_check_loudness => k_is)
    (case a_ratio => k_is)
    (case l_ratio => k_is)
    (case c_ratio => k_is)
    (case k_ratio => k_is)
    (case a_plus => k_is)
    (case l_plus => k_is)
    (case c_plus => k_is)
    (case k_plus => k_is)
    (case a_minus => k_is)
    (case l_minus => k_is)
    (case c_minus => k_is)
    (case k_minus => k_is)
    (case a_times => k_is)
    (case l_times => k_is)
    (case c_times => k_is)
    (case k_times => k_is)
    (case a_Line_init => k_is)
    (case i_Line_init => k_is)
    (case l_Line_init => k_is)
    (case c_Line_init => k_is)
    (case k_Line_init => k_is)
    (case a_Line_room => k_is)
    (case i_Line_room => k_is)
    (case l_Line_room => k_is)
    (case c_Line_room => k_is)
    (case k_Line_room => k_is)
    (case a_Line_begun => k_is)
    (case i_Line_begun => k_is)
    (case l_Line_begun => k_is)
    (case c_Line_begun => k_is)
    (case k_Line_begun => k_is)
    (case a_spot => k_is)
    (case l_spot => k_is)
    (case c_spot => k_is)
    (case k_spot => k_is)
    (case a_wanted => k_is)
    (case l_wanted => k_is)
    (case c_wanted => k_is)
    (case k_wanted => k_is)
    (case a_Line_wants => k_is)
    (case i_Line_wants => k_is)
    (case l_Line_wants => k_is)
    (case c_Line_wants => k_is)
    (case k_Line_wants => k_is)
    (case a_Line_over => k_is)
    (case i_Line_over => k_is)
    (case l_Line_over => k_is)
    (case c_Line_over => k_is)
    (case k_Line_over => k_is)
    (case a_Line_lacks => k_is)
    (case i_Line_lacks => k_is)
    (case l_Line_lacks => k_is)
    (case c_Line_lacks => k_is)
    (case k_Line_lacks => k_is)
    (case a_Line_ready => k_is)
    (case i_Line_ready => k_is)
    (case l_Line_ready => k_is)
    (case c_Line_ready => k_is)
    (case k_Line_ready => k_is)
    (case a_Line_value => k_is)
    (case i_Line_value => k_is)
    (case l_Line_value => k_is)
    (case c_Line_value => k_is)
    (case k_Line_value => k_is)
    (case a_Line_take => k_is)
    (case i_Line_take => k_is)
    (case l_Line_take => k_is)
    (case c_Line_take => k_is)
    (case k_Line_take => k_is)
    (case a_Line_close => k_is)
    (case i_Line_close => k_is)
    (case l_Line_close => k_is)
    (case c_Line_close => k_is)
    (case k_Line_close => k_is)
    (case a_Loudness_init => k_is)
    (case i_Loudness_init => k_is)
    (case l_Loudness_init => k_is)
    (case c_Loudness_init => k_is)
    (case k_Loudness_init => k_is)
    (case a_Loudness_lead_on => k_is)
    (case i_Loudness_lead_on => k_is)
    (case l_Loudness_lead_on => k_is)
    (case c_Loudness_lead_on => k_is)
    (case k_Loudness_lead_on => k_is)
    (case a_Loudness_lead_to => k_is)
    (case i_Loudness_lead_to => k_is)
    (case l_Loudness_lead_to => k_is)
    (case c_Loudness_lead_to => k_is)
    (case k_Loudness_lead_to => k_is)
    (case a_check_lead => k_is)
    (case l_check_lead => k_is)
    (case c_check_lead => k_is)
    (case k_check_lead => k_is)
    (case a_Voice_fall => k_is)
    (case i_Voice_fall => k_is)
    (case l_Voice_fall => k_is)
    (case c_Voice_fall => k_is)
    (case k_Voice_fall => k_is)
    (case a_Voice_rise => k_is)
    (case i_Voice_rise => k_is)
    (case l_Voice_rise => k_is)
    (case c_Voice_rise => k_is)
    (case k_Voice_rise => k_is)
    (case a_Voice_begin_fall => k_is)
    (case i_Voice_begin_fall => k_is)
    (case l_Voice_begin_fall => k_is)
    (case c_Voice_begin_fall => k_is)
    (case k_Voice_begin_fall => k_is)
    (case a_Voice_sound => k_is)
    (case i_Voice_sound => k_is)
    (case l_Voice_sound => k_is)
    (case c_Voice_sound => k_is)
    (case k_Voice_sound => k_is)
    (case a_Voice_init => k_is)
    (case i_Voice_init => k_is)
    (case l_Voice_init => k_is)
    (case c_Voice_init => k_is)
    (case k_Voice_init => k_is)
    (case a_Voice_give => k_is)
    (case i_Voice_give => k_is)
    (case l_Voice_give => k_is)
    (case c_Voice_give => k_is)
    (case k_Voice_give => k_is)
    (case a_Mixer_init => k_is)
    (case i_Mixer_init => k_is)
    (case l_Mixer_init => k_is)
    (case c_Mixer_init => k_is)
    (case k_Mixer_init => k_is)
    (case a_Mixer_voice_of => k_is)
    (case i_Mixer_voice_of => k_is)
    (case l_Mixer_voice_of => k_is)
    (case c_Mixer_voice_of => k_is)
    (case k_Mixer_voice_of => k_is)
    (case a_Mixer_add => k_is)
    (case i_Mixer_add => k_is)
    (case l_Mixer_add => k_is)
    (case c_Mixer_add => k_is)
    (case k_Mixer_add => k_is)
    (case a_Mixer_parcel => k_is)
    (case i_Mixer_parcel => k_is)
    (case l_Mixer_parcel => k_is)
    (case c_Mixer_parcel => k_is)
    (case k_Mixer_parcel => k_is)
    (case a_Mixer_end => k_is)
    (case i_Mixer_end => k_is)
    (case l_Mixer_end => k_is)
    (case c_Mixer_end => k_is)
    (case k_Mixer_end => k_is)
    (case a_Mixer_beat => k_is)
    (case i_Mixer_beat => k_is)
    (case l_Mixer_beat => k_is)
    (case c_Mixer_beat => k_is)
    (case k_Mixer_beat => k_is)
    (case a_Mixer_lead => k_is)
    (case i_Mixer_lead => k_is)
    (case l_Mixer_lead => k_is)
    (case c_Mixer_lead => k_is)
    (case k_Mixer_lead => k_is)
    (case a_Mixer_now => k_is)
    (case i_Mixer_now => k_is)
    (case l_Mixer_now => k_is)
    (case c_Mixer_now => k_is)
    (case k_Mixer_now => k_is)
    (case a_Mixer_missed => k_is)
    (case i_Mixer_missed => k_is)
    (case l_Mixer_missed => k_is)
    (case c_Mixer_missed => k_is)
    (case k_Mixer_missed => k_is)
    (case a_Mixer_state_of => k_is)
    (case i_Mixer_state_of => k_is)
    (case l_Mixer_state_of => k_is)
    (case c_Mixer_state_of => k_is)
    (case k_Mixer_state_of => k_is)
    (case a_Mixer_states => k_is)
    (case i_Mixer_states => k_is)
    (case l_Mixer_states => k_is)
    (case c_Mixer_states => k_is)
    (case k_Mixer_states => k_is)
    (case a_Mixer_hush => k_is)
    (case i_Mixer_hush => k_is)
    (case l_Mixer_hush => k_is)
    (case c_Mixer_hush => k_is)
    (case k_Mixer_hush => k_is)
    (case a_Mixer_wake => k_is)
    (case i_Mixer_wake => k_is)
    (case l_Mixer_wake => k_is)
    (case c_Mixer_wake => k_is)
    (case k_Mixer_wake => k_is)
    (case a_law_taken => k_is)
    (case l_law_taken => k_is)
    (case c_law_taken => k_is)
    (case k_law_taken => k_is)
    (case a_law_share => k_is)
    (case l_law_share => k_is)
    (case c_law_share => k_is)
    (case k_law_share => k_is)
    (case a_law_plus => k_is)
    (case l_law_plus => k_is)
    (case c_law_plus => k_is)
    (case k_law_plus => k_is)
    (case a_law_times => k_is)
    (case l_law_times => k_is)
    (case c_law_times => k_is)
    (case k_law_times => k_is)
    (case a_law_number => k_is)
    (case l_law_number => k_is)
    (case c_law_number => k_is)
    (case k_law_number => k_is)
    (case a_law_pace => k_is)
    (case l_law_pace => k_is)
    (case c_law_pace => k_is)
    (case k_law_pace => k_is)
    (case a_law_loud => k_is)
    (case l_law_loud => k_is)
    (case c_law_loud => k_is)
    (case k_law_loud => k_is)
    (case a_law_places => k_is)
    (case l_law_places => k_is)
    (case c_law_places => k_is)
    (case k_law_places => k_is)
    (case a_law_is_over => k_is)
    (case l_law_is_over => k_is)
    (case c_law_is_over => k_is)
    (case k_law_is_over => k_is)
    (case a_law_lacks => k_is)
    (case l_law_lacks => k_is)
    (case c_law_lacks => k_is)
    (case k_law_lacks => k_is)
    (case a_law_alike => k_is)
    (case l_law_alike => k_is)
    (case c_law_alike => k_is)
    (case k_law_alike => k_is)
    (case a_law_value => k_is)
    (case l_law_value => k_is)
    (case c_law_value => k_is)
    (case k_law_value => k_is)
    (case a_law_may => k_is)
    (case l_law_may => k_is)
    (case c_law_may => k_is)
    (case k_law_may => k_is)
    (case a_law_led => k_is)
    (case l_law_led => k_is)
    (case c_law_led => k_is)
    (case k_law_led => k_is)
    (case a_law_sound => k_is)
    (case l_law_sound => k_is)
    (case c_law_sound => k_is)
    (case k_law_sound => k_is)
    (case a_law_mixer => k_is)
    (case l_law_mixer => k_is)
    (case c_law_mixer => k_is)
    (case k_law_mixer => k_is)
    (case a_law_beat => k_is)
    (case l_law_beat => k_is)
    (case c_law_beat => k_is)
    (case k_law_beat => k_is)
    (case a_law_do => k_is)
    (case l_law_do => k_is)
    (case c_law_do => k_is)
    (case k_law_do => k_is)
    (case a_law_added => k_is)
    (case l_law_added => k_is)
    (case c_law_added => k_is)
    (case k_law_added => k_is)
    (case a_law_parcel => k_is)
    (case l_law_parcel => k_is)
    (case c_law_parcel => k_is)
    (case k_law_parcel => k_is)
    (case a_law_deed => k_is)
    (case l_law_deed => k_is)
    (case c_law_deed => k_is)
    (case k_law_deed => k_is)
    (case a_law_use => k_is)
    (case l_law_use => k_is)
    (case c_law_use => k_is)
    (case k_law_use => k_is)
    (case a_law => k_is)
    (case l_law => k_is)
    (case c_law => k_is)
    (case k_law => k_is)
    (case z_isinstance => k_is)
    (case z_bool => k_is)
    (case z_int => k_is)
    (case z_tuple => k_is)
    (case z_len => k_is)
    (case z_all => k_is)
    (case z_any => k_is)
    (case z_min => k_is)
    (case z_max => k_is)
    (case z_divmod => k_is)
    (case z_enumerate => k_is)
    (case z_sorted => k_is)
    (case z_list => k_is)
    (case z_range => k_is)
    (case z_abs => k_is)
    (case z_str => k_is)
    (case z_gcd => k_is)
    (case v_MOST => k_is)
    (case v_FULL => k_is)
    (case v_HUSHED => k_is)
    (case v_RISING => k_is)
    (case v_ON => k_is)
    (case v_FALLING => k_is)
    (case v_NOTHING => k_is)
    (case l_NOTHING => k_is)
    (case y_code => k_is)
    (case y_11 => rfl)
    (case y_18 => rfl)
    (case y_7 => rfl)
    (case y_9 => rfl)
    (case y_10 => rfl)
    (case y_ne => rfl)
    (case y_nT => rfl)
#print axioms PySem.Challenge.cw_mixserver_k04_whole_a_mix_is_the_sum_holds

